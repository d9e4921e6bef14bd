import PyProof.Rows.All
import Wide.All
import OpenK.AllK
import Wide.FinOn
import Lean
import PyProof.EqAt
import PyProof.EqKinds
import PyProof.TupleCall
import PyProof.NeKinds
import PyProof.TupleKey
import PyProof.DictRoadsH
import PySem.SetTable
import PyProof.SetRoads
import PyProof.DictKeyH
import PyProof.IsRules
import PyProof.Rows.SetFrom
import PyProof.WalksMore
import PyProof.ListMulRoad
import PyProof.FactsAll.subtypes_4
import PyProof.Rows.ListMulArg
import PyProof.ZipIter
import KE.KTryMore
import PyProof.Rows.TopTwo
import PyProof.NsDelKeeps
import KE.RegKTryMore
import KE.RegKIsAll
import PyProof.Rows.SortRuns
import PyProof.Rows.SortKey
import PyProof.Rows.SortShell
import PyProof.Rows.SortWalk
import KE.KSortTup
import KE.KDictList
import PyProof.AutoListH
import PyProof.SumWalk
import PyProof.WalkInts
import KE.KItemsList
import PySem.Challenge.RW_hushcards_k51_one_plan_behind_another
abbrev hJ:=@decide_eq_true
abbrev hU:=@decide_eq_false
abbrev hV.{u}:=@if_neg.{u}
abbrev hZ.{u}:=@if_pos.{u}
set_option Elab.async false
set_option linter.all false
set_option maxRecDepth 100000
set_option maxHeartbeats 4000000
open PySem renaming wpAny_bind->XM,wpAny_pure->XS,sizeLine->XU,Value->XY,starEach->X7,Shared->Ya,Addr->Ye,wpAny->Yg,model->Yw,mainGlobals->YC,Around->YG,mem_of_lookup->YM,bootBuiltins->YQ,wpAny_newObj_type->YY,wpAny_holding->Y4,wpAny_callSpecial?_slot->Y5,World->Y6,wpAny_mono->Zc,wpAny_call_entry->Zd,wpAny_field->Zf,codeAny_builtin->Zl,wpAny_setState_of->Zo,foldedSetIterable->ZO,wpAny_seqItems->Z7,Heap->Z9,wpAny_Call_Name_kw->aad,IsPair->aag,wpAny_setField_rec->aah,Expr->aaj,wpAny_askSetting->aal,backTo->aan,wpAny_attempt->aar,wpAny_truthy_bool->aav,compareOp->aaz,sizeLine_eq->aaA,codeAny_mono->aaL,Program->aaT,assignEach->aa1,wpAny_passesOwn->aa2,wpAny_rule->aa5,FuncData->aa9,plainId_quiet->aa_,start->abc,eval->abh,binaryOp->abi,wpAny_typeOf->abk,wpAny_of_eq->abo,builtinLookup_eq_fast->abr,behindInMarks->abt,SetTable->abC,ZipApart->abE,cLine->abH,unsupported->abI,wpAny_execs_nil->abV,Stmt->ab7,pyNext->ab9,wpAny_pyIter_list->acd,codeAny->acg,sliceBounds->ach,HeapKind->acu,wpAny_setField->acv,swapsWith->acw,rawInt->acx,wpAny_isInstance->acE,codeAny_call_builtin->acH,wpAny_updateSeq_pair->acI,call_meets->acM,letOwnedTupleGo->acO,typeLookup_type->acU,wpAny_setEntries_of->acV,wpAny_specialOf->acW,Scope->acY,holding->adk,recursionLimit->adl,wpAny_runValue->adm,firstArgMember->adn,wpAny_load->ady,wpAny_call->adA,seqIndex?->adC,NameKind->adJ,PassesOwn->adL,pickOrder->adM
open List renaming getElem?_eq_getElem->XN,length_map->XO,length_append->XW,size_toArray->XZ,length_cons->X1,mem_cons_self->X2,getElem?_eq_some_iff->X3,mem_cons_of_mem->X4,map_cons->X5,mem_cons->Yb,map_map->Yd,mem_singleton->Yf,append_assoc->Yi,mem_append->Yk,mem_map->Yn,set_cons_zero->Yo,getElem?_map->Yq,length_take->Ys,set_cons_succ->Yt,append_nil->Yu,map_append->Yv,mem_append_right->Yz,mem_of_getElem?->YA,range->YF,getElem?_set_ne->YI,take_append_drop->YJ,length_drop->YR,all_eq_true->YT,getElem_mem->YU,length_range->YZ,mem_range->Y0,getElem?_append_right->Y3,getElem?_append_left->Y7,flatten_cons->Zb,perm_append_comm->Zi,getElem?_cons_succ->Zj,lookup_cons->Zk,mem_of_mem_take->Zq,length_set->Zw,mem_append_left->Zz,take_of_length_le->ZA,drop_eq_getElem_cons->ZC,getElem?_eq_none_iff->ZD,nil_append->ZH,eq_nil_of_length_eq_zero->ZK,map_congr_left->ZL,mem_map_of_mem->ZM,map_eq_nil_iff->ZN,length_singleton->ZP,sum_cons->ZY,any_eq_true->Z0,take_succ_eq_append_getElem->Z1,length->Z2,pairwise_map->Z4,all_cons->Z6,map_nil->aaa,pairwise_cons->aai,mem_nil_iff->aak,take_length->aam,mem_iff_getElem->aao,mem_of_mem_drop->aap,filterMap_cons->aay,nodup_cons->aaB,length_nil->aaC,flatten_append->aaE,exists_cons_of_ne_nil->aaI,not_mem_nil->aaK,mem_iff_getElem?->aaQ,pairwise_iff_getElem->aaX,extract_eq_take_drop->aaY,mem_filter->aa0,forIn_cons->aa4,getElem?_range->abb,getElem?_set_self->abe,drop_eq_nil_of_le->abf,length_replicate->abj,all_map->abl,zipWith->abp,getElem?_eq_none->abq,map_take->abx,drop_length->abD,length_zipWith->abJ,reverse_append->abK,length_pos_iff->abL,getElem?_take_of_lt->abO,mem_filterMap->abX,getElem?_replicate->abY,zip_cons_cons->abZ,getD->ab2,getElem?_drop->ab3,getElem?_take->ab5,pairwise_singleton->ab6,ext_getElem?->acn,nodup_append->aco,getElem_take->acq,drop_zero->acs,getElem?_zipWith->acz,nodup_range->acC,of_mem_zip->acP,flatMap_append->acX,perm_ext_iff_of_nodup->ac3,getD_eq_getElem?_getD->ac6,forIn_nil->ado,drop_drop->ads,exists_mem_of_ne_nil->adw,take_sublist->adB,filterMap_cons_some->adE
open PySem.Heap renaming get?_push_of_some->XQ,get?_push_size->X8,lt_size->X_,get?_update_self->Zv,size_push->aas,get?_update_other->aaG,SameBut->aa7
open Bool renaming false_ne_true->XR,false_eq_true->Yj,and_eq_true->YD,or_eq_false_iff->ZZ,eq_iff_iff->Z_,not_true->aaq,eq_false_iff->aa3,not_false->abd,and_false->abA,or_self->acA,true_or->adi,not_eq_true'->adH
open PySem.W renaming Frag->XX,mg_none_of->YN,nsIn->YS,mg_of->YW,kitOne->Y1,keepIn->Zn,kia_one->Zt,fnOf->Zu,findIn->ZQ,kia_tup->aab,cellsFrom_some->ab_,kitx_list->ace,kitx_dict->acf,codeIn->acr,mroIn->acJ,callWith_K->ac9,kitAny->adp,methodObj->adx,specialIn->adz
open Array renaming length_toList->X0,getElem?_eq_getElem->Yx,getElem?_toList->YB,toList_append->Y9,getElem?_eq_some_iff->Za,toList_push->aax,toList_extract->aaZ,getElem?_eq_none->abg,toList_reverse->aby,getD->acm,toList_setIfInBounds->ac4,perm_iff_toList_perm->ac5
open Nat renaming le_refl->X6,ne_of_lt->Ym,lt_of_lt_of_le->YE,le_trans->YX,ne_of_gt->Y2,le_add_right->Zm,min_eq_left->ZF,lt_irrefl->ZJ,zero_le->ZT,mul_assoc->ZV,add_sub_cancel_left->ZX,pow_succ->aat,lt_trans->aau,le_of_lt_succ->aaw,zero_add->aaM,mul_comm->aaN,lt_or_ge->aaO,add_mul->aba,succ_pos->abm,mod_lt->abv,lt_trichotomy->abw,le_of_lt->abM,lt_of_le_of_lt->ab1,lt_succ_of_lt->aci,mul_left_comm->ack,not_lt_zero->acS,le_total->adb,sub_self->ade,add_zero->adf,add_sub_cancel->adh
open PySem.Str renaming ofString->X9
open PyProof.Rows renaming wpS_bind->Yc,wpS_pure->Yh,SortSt->Yp,Keyed->Yr,pendingOf->YK,arrOf->YO,kindOf->Zs,wpS_forRange->Zx,callWith_type1->ZR,slot_tuple_getitem->Z3,envOfC->aae,wpS_mono->aaS,IntsAre->aaU,SortKind->abF,failedOf->abG,wpS_modify->abQ,reverseSlice'->acL,gallopOf->adg,AllBare->adj,elem'->adq,wpS_get->adt,KeyOrd->adK
open Option.some renaming inj->Yl
open PySem.Builtin.SmallTypes renaming nextOf->Yy,ownedTupleIsFree->YH,ownedTupleHandOut->abB
open PyProof.Rows.KeyOrd renaming kle_trans->YL,kle_of_klt->Y8,kle_refl->ZI
open PySem.F renaming plainAttrs_list->YV,plain_extend_loop->Z8,slot_zip_next->aaD,slot_tuple_iterator_next->aaH,args_tuple_add_2->abP,slot_list_append->abR,type_list_append->abS,slot_list_extend->abT,type_list_extend->abU,entry_tuple_add->ab0,slot_tuple_add->aca,plain_list_iadd->acj,args_zip_next_1->acp,entry_zip_next->acD,args_list_extend_2->acG,args_tuple_iterator_next_1->acK,entry_list_extend->acR,entry_tuple_iterator_next->acT,slot_list_extend->ada,entry_extend_loop->adu
open PySem.Around renaming under_plainId->Y_
open Int renaming toNat_natCast->Ze,emod_lt_of_pos->aaP,emod_nonneg->abn
open PySem.Builtin.Tuple renaming tupleExact->Zg,tupleItemsOf->ac1,tupleIsExact->ac2
open List.Perm renaming append_left->Zh,append_right->Zr,refl->ZE
open False renaming elim->Zy
open PySem.Builtin.List renaming listExtendWith->ZU,listTooLong->aaf,listLengthHint->aaF,listSameRef->adI
open PySem.Heap.SameBut renaming update->Z5
open PySem.PassesOwn renaming never->aac
open PySem.Obj renaming mapSeq->aaJ,data_mapFields->aaR,isFreed_of_fields->acy,putSet->adF,cls_mapFields->adG
open PySem.Builtin.Slice renaming slicePlaces->aaV,sliceAdjust->abz,sliceApplied->ac0
open Classical renaming byContradiction->aaW
open List.Pairwise renaming imp_of_mem->aa6
open List.Nodup renaming length_le_of_subset->aa8
open PySem.SeqAt renaming EqAt->abu
open Option renaming isSome_iff_exists->abN,map_eq_some_iff->acb,getD_none->acB,getD_some->acF
open PySem.Builtin.Range renaming rangeSize->abW
open PyProof.Rows.F renaming plain_set_update_loop->ab4
open Nat.Coprime renaming dvd_of_dvd_mul_right->ab8
open Ne renaming symm->acN
open PySem.SeqAt.EqAt renaming same->acQ,int_str->ac7,str_int->ac8,int_int->ac_
open PySem.Calls renaming Name_function_global->acZ
open PySem.SeqAt.RcAt renaming lists_lengths->adD
open PySem PySem.Spec PyProof.Rows
variable {a it f C i1 i2 a1 a2:Ye}{o l T ra rb S:List Yr}{b l1 l2:Bool}{P prog:aaT}{h h':Z9}{g':Array GenState}{t' i j k n g d m z mask bc ep:Nat}{ch fp:List Ye}{x qual:Str}{N ps loose:List Str}{M:Model}{A:Ye->Prop}{E Q:XY->Ya->Prop}{t:abC}{s:Ya}{pins:List (Ye×Obj)}{op:CmpOp}{c tg iter elt:aaj}{K:XX}{st:ab7}{es:Array (Int×XY)}{body:List ab7}{lo hi:Option Int}{aA:List XY}{mg:Str->Option XY}{base rows:List (List Int)}{fd:aa9}{scope:acY}{an od:Option Ye}{osl:Array (Option XY)}{items ys:Array XY}{ns os cs:List Int}{XP:(Str->Option XY)->Z9->Prop}{YP:Y6->Z9->Prop}{js:List (Option Nat)}{rH:List aaj}{p2:Pos}{arr:Array Yr}
namespace L2
noncomputable def ff (s:ab7):Arguments:=match s with
 | .FunctionDef _ a _ _ _ _ _ _ _ _=>a
 |_=>{posonlyargs:=[],args:=[],vararg:=none,kwonlyargs:=[],kw_defaults:=[],kwarg:=none,defaults:=[]}
noncomputable def cJ (s:ab7):List ab7:=match s with
 | .FunctionDef _ _ b _ _ _ _ _ _ _=>b
 |_=>[]
noncomputable def aq (s:ab7):acY:=match s with
 | .FunctionDef _ _ _ _ _ _ sc _ _ _=>sc
 |_=>{kind:=.function,names:=[],isGenerator:=false,isCoroutine:=false}
noncomputable def JF (s:ab7)(j:Nat):ab7:=match s with
 | .ClassDef _ _ _ body _ _ _ _ _ _ _=>body.getD j (.Pass ⟨0,0,0,0⟩)
 |_=>.Pass ⟨0,0,0,0⟩
end L2
namespace Hc
open L2
noncomputable def top (i:Nat):ab7:=PySem.Challenge.pw_hushcards_k51_one_plan_behind_another.main.body.getD i (.Pass ⟨0,0,0,0⟩)
noncomputable abbrev hS (s:String)(n:Nat):XY:=.str (X9 s) n
noncomputable abbrev hT (l:List XY):Obj:=⟨.type "tuple",none,.seq l.toArray 0,(List.toArray [])⟩
noncomputable abbrev hE (P:Params)(s:String)(n:Nat)(v:XY):DictEntry:=⟨PyData.keyHash P (X9 s),hS s n,v⟩
noncomputable abbrev hD (c:XY)(l:List DictEntry)(n:Nat):Obj:=⟨c,none,.dict l.toArray n,(List.toArray [])⟩
noncomputable abbrev hX (c:XY)(l:List XY):Obj:=⟨c,none,.fields l.toArray,(List.toArray [])⟩
noncomputable abbrev hC (n q:String)(a:Nat)(l k:Int)(r r1:Nat)(v1 v2:XY)(r2:Nat)(m:Int)(m':Nat):Obj:=hX (.type "code") [hS n a,hS q (a+1),hS "/claim/cut.py" (a+2),.int l 0,.int k 0,.int 0 0,.int 0 0,.int 3 0,.ref r,.bool true,.int 181 0,.ref r1,.none,v1,v2,.ref r2,.int m 0,.int l 0,hS "/claim/cut.py" m']
noncomputable abbrev hF (n q:String)(s:ab7)(kV kX pm:XY)(an:Option Ye)(cd ct:XY):Obj:=⟨.type "function",none,.func (Zu n q (ff s) (cJ s) (aq s) .none kV kX pm an cd ct),(List.toArray [])⟩
noncomputable abbrev zqd:=hS "law_hushcards_k51_one_plan_behind_another"
noncomputable def Kf (P:Params):XX:=
 (nat_lit 2,hD .none [] 0) ::
 (nat_lit 3,hD (.type "dict") [hE P "__name__" 165 (zqd 386),hE P "__doc__" 166 .none,hE P "__package__" 167 .none,hE P "__loader__" 168 (.builtin "__main__.__loader__#opaque"),hE P "__spec__" 169 .none,hE P "__annotations__" 170 (.ref 6),hE P "__builtins__" 171 (.ref 4),hE P "__file__" 173 (hS "/claim/cut.py" 172),hE P "__cached__" 174 .none,hE P "CardError" 206 (.ref 24),hE P "NoPlan" 222 (.ref 37),hE P "NoWay" 247 (.ref 56),hE P "NoEnd" 263 (.ref 68),hE P "NoFormula" 279 (.ref 80),hE P "TooMany" 295 (.ref 92),hE P "NoName" 311 (.ref 104),hE P "BadNote" 327 (.ref 116),hE P "MOST_PLANS" 331 (.int 60 330),hE P "MOST_WITHIN" 333 (.int 12 332),hE P "plans_within" 339 (.ref 123),hE P "levels_of" 348 (.ref 130),hE P "plans_in" 354 (.ref 135),hE P "with_more" 362 (.ref 140),hE P "tells_all_places" 368 (.ref 145),hE P "is_too_great" 375 (.ref 152),hE P "followed" 385 (.ref 159),hE P "_law_cell_at" 395 (.ref 166),hE P "_law_state" 404 (.ref 173),hE P "_law_take" 414 (.ref 180),hE P "_law_row" 420 (.ref 185),hE P "_law_order" 426 (.ref 190),hE P "_law_laid" 432 (.ref 195),hE P "_law_shuffle" 438 (.ref 200),hE P "_law_end" 447 (.ref 207),hE P "_law_look" 453 (.ref 212),hE P "_law_plan" 459 (.ref 217),hE P "_law_size" 465 (.ref 222),hE P "_law_drawn" 476 (.ref 229),hE P "_law_mark" 484 (.ref 236),hE P "_law_rows" 490 (.ref 241),hE P "_law_same" 496 (.ref 246),hE P "_law_full" 502 (.ref 251),hE P "_law_less" 513 (.ref 258),hE P "_law_lays" 524 (.ref 265),hE P "_law_first" 530 (.ref 270),hE P "_law_put" 536 (.ref 275),hE P "_law_extent" 542 (.ref 280),hE P "_law_due" 554 (.ref 287),hE P "_law_told" 564 (.ref 294),hE P "law" 577 (.ref 301)] 50) ::
 (nat_lit 15,hT [.type "ValueError"]) ::
 (nat_lit 22,hT []) ::
 (nat_lit 23,hD (.type "dict") [hE P "__module__" 196 (hS "hushcards.errors" 187),hE P "__firstlineno__" 200 (.int 2 199),hE P "__static_attributes__" 201 (.ref 22),hE P "__weakref__" 203 (.ref 25),hE P "__doc__" 204 .none] 3) ::
 (nat_lit 24,⟨.type "type",none,.cls {name:="CardError",bases:=[.type "ValueError"],mro:=[.ref 24,.type "ValueError",.type "Exception",.type "BaseException",.type "object"],ns:=23,qualname:="CardError",subclasses:=[.ref 37,.ref 56,.ref 68,.ref 80,.ref 92,.ref 104,.ref 116]},(List.toArray [some (.ref 15),none,some (hS "CardError" 189),some (hS "CardError" 197),some (.builtin "ValueError.__new__"),some (.bool true)])⟩) ::
 (nat_lit 25,hX (.type "getset_descriptor") [hS "__weakref__" 202,.ref 24,.builtin "ExceptionGroup.__weakref__",.none]) ::
 (nat_lit 28,hT [.ref 24]) ::
 (nat_lit 35,hT []) ::
 (nat_lit 36,hD (.type "dict") [hE P "__module__" 214 (hS "hushcards.errors" 187),hE P "__firstlineno__" 218 (.int 4 217),hE P "__static_attributes__" 219 (.ref 35),hE P "__doc__" 220 .none] 2) ::
 (nat_lit 37,⟨.type "type",none,.cls {name:="NoPlan",bases:=[.ref 24],mro:=[.ref 37,.ref 24,.type "ValueError",.type "Exception",.type "BaseException",.type "object"],ns:=36,qualname:="NoPlan"},(List.toArray [some (.ref 28),none,some (hS "NoPlan" 207),some (hS "NoPlan" 215),some (.builtin "ValueError.__new__"),some (.bool true)])⟩) ::
 (nat_lit 40,hT [.ref 24]) ::
 (nat_lit 47,hT []) ::
 (nat_lit 49,hT [hS "self" 238,hS "seen" 239]) ::
 (nat_lit 50,hT []) ::
 (nat_lit 52,hC "__init__" "NoWay.__init__" 235 8 2 47 48 (.ref 49) (.ref 50) 51 240 241) ::
 (nat_lit 53,hF "__init__" "NoWay.__init__" (JF (top 3) 0) .none .none (hS "hushcards.errors" 187) none (.ref 52) .none) ::
 (nat_lit 54,hT [hS "seen" 243]) ::
 (nat_lit 55,hD (.type "dict") [hE P "__module__" 230 (hS "hushcards.errors" 187),hE P "__firstlineno__" 234 (.int 6 233),hE P "__init__" 242 (.ref 53),hE P "__static_attributes__" 244 (.ref 54),hE P "__doc__" 245 .none] 2) ::
 (nat_lit 56,⟨.type "type",none,.cls {name:="NoWay",bases:=[.ref 24],mro:=[.ref 56,.ref 24,.type "ValueError",.type "Exception",.type "BaseException",.type "object"],ns:=55,qualname:="NoWay"},(List.toArray [some (.ref 40),none,some (hS "NoWay" 223),some (hS "NoWay" 231),some (.builtin "ValueError.__new__"),some (.bool true)])⟩) ::
 (nat_lit 59,hT [.ref 24]) ::
 (nat_lit 66,hT []) ::
 (nat_lit 67,hD (.type "dict") [hE P "__module__" 255 (hS "hushcards.errors" 187),hE P "__firstlineno__" 259 (.int 11 258),hE P "__static_attributes__" 260 (.ref 66),hE P "__doc__" 261 .none] 2) ::
 (nat_lit 68,⟨.type "type",none,.cls {name:="NoEnd",bases:=[.ref 24],mro:=[.ref 68,.ref 24,.type "ValueError",.type "Exception",.type "BaseException",.type "object"],ns:=67,qualname:="NoEnd"},(List.toArray [some (.ref 59),none,some (hS "NoEnd" 248),some (hS "NoEnd" 256),some (.builtin "ValueError.__new__"),some (.bool true)])⟩) ::
 (nat_lit 71,hT [.ref 24]) ::
 (nat_lit 78,hT []) ::
 (nat_lit 79,hD (.type "dict") [hE P "__module__" 271 (hS "hushcards.errors" 187),hE P "__firstlineno__" 275 (.int 13 274),hE P "__static_attributes__" 276 (.ref 78),hE P "__doc__" 277 .none] 2) ::
 (nat_lit 80,⟨.type "type",none,.cls {name:="NoFormula",bases:=[.ref 24],mro:=[.ref 80,.ref 24,.type "ValueError",.type "Exception",.type "BaseException",.type "object"],ns:=79,qualname:="NoFormula"},(List.toArray [some (.ref 71),none,some (hS "NoFormula" 264),some (hS "NoFormula" 272),some (.builtin "ValueError.__new__"),some (.bool true)])⟩) ::
 (nat_lit 83,hT [.ref 24]) ::
 (nat_lit 90,hT []) ::
 (nat_lit 91,hD (.type "dict") [hE P "__module__" 287 (hS "hushcards.errors" 187),hE P "__firstlineno__" 291 (.int 15 290),hE P "__static_attributes__" 292 (.ref 90),hE P "__doc__" 293 .none] 2) ::
 (nat_lit 92,⟨.type "type",none,.cls {name:="TooMany",bases:=[.ref 24],mro:=[.ref 92,.ref 24,.type "ValueError",.type "Exception",.type "BaseException",.type "object"],ns:=91,qualname:="TooMany"},(List.toArray [some (.ref 83),none,some (hS "TooMany" 280),some (hS "TooMany" 288),some (.builtin "ValueError.__new__"),some (.bool true)])⟩) ::
 (nat_lit 95,hT [.ref 24]) ::
 (nat_lit 102,hT []) ::
 (nat_lit 103,hD (.type "dict") [hE P "__module__" 303 (hS "hushcards.errors" 187),hE P "__firstlineno__" 307 (.int 17 306),hE P "__static_attributes__" 308 (.ref 102),hE P "__doc__" 309 .none] 2) ::
 (nat_lit 104,⟨.type "type",none,.cls {name:="NoName",bases:=[.ref 24],mro:=[.ref 104,.ref 24,.type "ValueError",.type "Exception",.type "BaseException",.type "object"],ns:=103,qualname:="NoName"},(List.toArray [some (.ref 95),none,some (hS "NoName" 296),some (hS "NoName" 304),some (.builtin "ValueError.__new__"),some (.bool true)])⟩) ::
 (nat_lit 107,hT [.ref 24]) ::
 (nat_lit 114,hT []) ::
 (nat_lit 115,hD (.type "dict") [hE P "__module__" 319 (hS "hushcards.errors" 187),hE P "__firstlineno__" 323 (.int 19 322),hE P "__static_attributes__" 324 (.ref 114),hE P "__doc__" 325 .none] 2) ::
 (nat_lit 116,⟨.type "type",none,.cls {name:="BadNote",bases:=[.ref 24],mro:=[.ref 116,.ref 24,.type "ValueError",.type "Exception",.type "BaseException",.type "object"],ns:=115,qualname:="BadNote"},(List.toArray [some (.ref 107),none,some (hS "BadNote" 312),some (hS "BadNote" 320),some (.builtin "ValueError.__new__"),some (.bool true)])⟩) ::
 (nat_lit 119,hT []) ::
 (nat_lit 122,hC "plans_within" "plans_within" 334 24 1 119 120 .none .none 121 337 338) ::
 (nat_lit 123,hF "plans_within" "plans_within" (top 12) .none .none (hS "hushcards.plans" 328) none (.ref 122) .none) ::
 (nat_lit 124,hT []) ::
 (nat_lit 126,hT [hS "plan" 343,hS "levels" 344,hS "level" 345]) ::
 (nat_lit 127,hT []) ::
 (nat_lit 129,hC "levels_of" "levels_of" 340 32 1 124 125 (.ref 126) (.ref 127) 128 346 347) ::
 (nat_lit 130,hF "levels_of" "levels_of" (top 13) .none .none (hS "hushcards.plans" 328) none (.ref 129) .none) ::
 (nat_lit 131,hT []) ::
 (nat_lit 134,hC "plans_in" "plans_in" 349 39 1 131 132 .none .none 133 352 353) ::
 (nat_lit 135,hF "plans_in" "plans_in" (top 14) .none .none (hS "hushcards.plans" 328) none (.ref 134) .none) ::
 (nat_lit 136,hT []) ::
 (nat_lit 139,hC "with_more" "with_more" 357 42 2 136 137 .none .none 138 360 361) ::
 (nat_lit 140,hF "with_more" "with_more" (top 16) .none .none (hS "hushcards.gates" 355) none (.ref 139) .none) ::
 (nat_lit 141,hT []) ::
 (nat_lit 144,hC "tells_all_places" "tells_all_places" 363 50 2 141 142 .none .none 143 366 367) ::
 (nat_lit 145,hF "tells_all_places" "tells_all_places" (top 17) .none .none (hS "hushcards.gates" 355) none (.ref 144) .none) ::
 (nat_lit 146,hT []) ::
 (nat_lit 148,hT [hS "plan" 372]) ::
 (nat_lit 149,hT []) ::
 (nat_lit 151,hC "is_too_great" "is_too_great" 369 55 1 146 147 (.ref 148) (.ref 149) 150 373 374) ::
 (nat_lit 152,hF "is_too_great" "is_too_great" (top 18) .none .none (hS "hushcards.gates" 355) none (.ref 151) .none) ::
 (nat_lit 153,hT []) ::
 (nat_lit 155,hT [hS "many" 379,hS "plan" 380,hS "more" 381,hS "joined" 382]) ::
 (nat_lit 156,hT []) ::
 (nat_lit 158,hC "followed" "followed" 376 57 3 153 154 (.ref 155) (.ref 156) 157 383 384) ::
 (nat_lit 159,hF "followed" "followed" (top 19) .none .none (hS "hushcards.gates" 355) none (.ref 158) .none) ::
 (nat_lit 160,hT []) ::
 (nat_lit 162,hT [hS "script" 391,hS "k" 392]) ::
 (nat_lit 163,hT []) ::
 (nat_lit 165,hC "_law_cell_at" "_law_cell_at" 388 65 2 160 161 (.ref 162) (.ref 163) 164 393 394) ::
 (nat_lit 166,hF "_law_cell_at" "_law_cell_at" (top 21) .none .none (zqd 386) none (.ref 165) .none) ::
 (nat_lit 167,hT []) ::
 (nat_lit 169,hT [hS "script" 399,hS "k" 400,hS "cell" 401]) ::
 (nat_lit 170,hT []) ::
 (nat_lit 172,hC "_law_state" "_law_state" 396 69 2 167 168 (.ref 169) (.ref 170) 171 402 403) ::
 (nat_lit 173,hF "_law_state" "_law_state" (top 22) .none .none (zqd 386) none (.ref 172) .none) ::
 (nat_lit 174,hT []) ::
 (nat_lit 176,hT [hS "state" 408,hS "many" 409,hS "found" 410,hS "mixed" 411]) ::
 (nat_lit 177,hT []) ::
 (nat_lit 179,hC "_law_take" "_law_take" 405 74 2 174 175 (.ref 176) (.ref 177) 178 412 413) ::
 (nat_lit 180,hF "_law_take" "_law_take" (top 23) .none .none (zqd 386) none (.ref 179) .none) ::
 (nat_lit 181,hT []) ::
 (nat_lit 184,hC "_law_row" "_law_row" 415 83 2 181 182 .none .none 183 418 419) ::
 (nat_lit 185,hF "_law_row" "_law_row" (top 24) .none .none (zqd 386) none (.ref 184) .none) ::
 (nat_lit 186,hT []) ::
 (nat_lit 189,hC "_law_order" "_law_order" 421 88 2 186 187 .none .none 188 424 425) ::
 (nat_lit 190,hF "_law_order" "_law_order" (top 25) .none .none (zqd 386) none (.ref 189) .none) ::
 (nat_lit 191,hT []) ::
 (nat_lit 194,hC "_law_laid" "_law_laid" 427 91 2 191 192 .none .none 193 430 431) ::
 (nat_lit 195,hF "_law_laid" "_law_laid" (top 26) .none .none (zqd 386) none (.ref 194) .none) ::
 (nat_lit 196,hT []) ::
 (nat_lit 199,hC "_law_shuffle" "_law_shuffle" 433 93 2 196 197 .none .none 198 436 437) ::
 (nat_lit 200,hF "_law_shuffle" "_law_shuffle" (top 27) .none .none (zqd 386) none (.ref 199) .none) ::
 (nat_lit 201,hT []) ::
 (nat_lit 203,hT [hS "state" 442,hS "many" 443,hS "order" 444]) ::
 (nat_lit 204,hT []) ::
 (nat_lit 206,hC "_law_end" "_law_end" 439 114 2 201 202 (.ref 203) (.ref 204) 205 445 446) ::
 (nat_lit 207,hF "_law_end" "_law_end" (top 28) .none .none (zqd 386) none (.ref 206) .none) ::
 (nat_lit 208,hT []) ::
 (nat_lit 211,hC "_law_look" "_law_look" 448 117 4 208 209 .none .none 210 451 452) ::
 (nat_lit 212,hF "_law_look" "_law_look" (top 29) .none .none (zqd 386) none (.ref 211) .none) ::
 (nat_lit 213,hT []) ::
 (nat_lit 216,hC "_law_plan" "_law_plan" 454 132 4 213 214 .none .none 215 457 458) ::
 (nat_lit 217,hF "_law_plan" "_law_plan" (top 30) .none .none (zqd 386) none (.ref 216) .none) ::
 (nat_lit 218,hT []) ::
 (nat_lit 221,hC "_law_size" "_law_size" 460 149 1 218 219 .none .none 220 463 464) ::
 (nat_lit 222,hF "_law_size" "_law_size" (top 31) .none .none (zqd 386) none (.ref 221) .none) ::
 (nat_lit 223,hT []) ::
 (nat_lit 225,hT [hS "state" 469,hS "rows" 470,hS "deep" 471,hS "again" 472,hS "plan" 473]) ::
 (nat_lit 226,hT []) ::
 (nat_lit 228,hC "_law_drawn" "_law_drawn" 466 155 4 223 224 (.ref 225) (.ref 226) 227 474 475) ::
 (nat_lit 229,hF "_law_drawn" "_law_drawn" (top 32) .none .none (zqd 386) none (.ref 228) .none) ::
 (nat_lit 230,hT []) ::
 (nat_lit 232,hT [hS "e" 480,hS "marks" 481]) ::
 (nat_lit 233,hT []) ::
 (nat_lit 235,hC "_law_mark" "_law_mark" 477 158 1 230 231 (.ref 232) (.ref 233) 234 482 483) ::
 (nat_lit 236,hF "_law_mark" "_law_mark" (top 33) .none .none (zqd 386) none (.ref 235) .none) ::
 (nat_lit 237,hT []) ::
 (nat_lit 240,hC "_law_rows" "_law_rows" 485 166 2 237 238 .none .none 239 488 489) ::
 (nat_lit 241,hF "_law_rows" "_law_rows" (top 34) .none .none (zqd 386) none (.ref 240) .none) ::
 (nat_lit 242,hT []) ::
 (nat_lit 245,hC "_law_same" "_law_same" 491 170 2 242 243 .none .none 244 494 495) ::
 (nat_lit 246,hF "_law_same" "_law_same" (top 35) .none .none (zqd 386) none (.ref 245) .none) ::
 (nat_lit 247,hT []) ::
 (nat_lit 250,hC "_law_full" "_law_full" 497 178 3 247 248 .none .none 249 500 501) ::
 (nat_lit 251,hF "_law_full" "_law_full" (top 36) .none .none (zqd 386) none (.ref 250) .none) ::
 (nat_lit 252,hT []) ::
 (nat_lit 254,hT [hS "state" 506,hS "plan" 507,hS "many" 508,hS "ways" 509,hS "at" 510]) ::
 (nat_lit 255,hT []) ::
 (nat_lit 257,hC "_law_less" "_law_less" 503 187 3 252 253 (.ref 254) (.ref 255) 256 511 512) ::
 (nat_lit 258,hF "_law_less" "_law_less" (top 37) .none .none (zqd 386) none (.ref 257) .none) ::
 (nat_lit 259,hT []) ::
 (nat_lit 261,hT [hS "state" 517,hS "many" 518,hS "deep" 519,hS "plan" 520,hS "k" 521]) ::
 (nat_lit 262,hT []) ::
 (nat_lit 264,hC "_law_lays" "_law_lays" 514 198 3 259 260 (.ref 261) (.ref 262) 263 522 523) ::
 (nat_lit 265,hF "_law_lays" "_law_lays" (top 38) .none .none (zqd 386) none (.ref 264) .none) ::
 (nat_lit 266,hT []) ::
 (nat_lit 269,hC "_law_first" "_law_first" 525 203 3 266 267 .none .none 268 528 529) ::
 (nat_lit 270,hF "_law_first" "_law_first" (top 39) .none .none (zqd 386) none (.ref 269) .none) ::
 (nat_lit 271,hT []) ::
 (nat_lit 274,hC "_law_put" "_law_put" 531 211 3 271 272 .none .none 273 534 535) ::
 (nat_lit 275,hF "_law_put" "_law_put" (top 40) .none .none (zqd 386) none (.ref 274) .none) ::
 (nat_lit 276,hT []) ::
 (nat_lit 279,hC "_law_extent" "_law_extent" 537 222 1 276 277 .none .none 278 540 541) ::
 (nat_lit 280,hF "_law_extent" "_law_extent" (top 41) .none .none (zqd 386) none (.ref 279) .none) ::
 (nat_lit 281,hT []) ::
 (nat_lit 283,hT [hS "plan" 546,hS "many" 547,hS "more" 548,hS "found" 549,hS "count" 550,hS "deep" 551]) ::
 (nat_lit 284,hT []) ::
 (nat_lit 286,hC "_law_due" "_law_due" 543 230 3 281 282 (.ref 283) (.ref 284) 285 552 553) ::
 (nat_lit 287,hF "_law_due" "_law_due" (top 42) .none .none (zqd 386) none (.ref 286) .none) ::
 (nat_lit 288,hT []) ::
 (nat_lit 290,hT [hS "many" 558,hS "plan" 559,hS "more" 560,hS "e" 561]) ::
 (nat_lit 291,hT []) ::
 (nat_lit 293,hC "_law_told" "_law_told" 555 236 3 288 289 (.ref 290) (.ref 291) 292 562 563) ::
 (nat_lit 294,hF "_law_told" "_law_told" (top 43) .none .none (zqd 386) none (.ref 293) .none) ::
 (nat_lit 295,hT []) ::
 (nat_lit 297,hT [hS "script" 568,hS "k" 569,hS "state" 570,hS "rows" 571,hS "many" 572,hS "plan" 573,hS "more" 574]) ::
 (nat_lit 298,hT []) ::
 (nat_lit 300,hC "law" "law" 565 241 1 295 296 (.ref 297) (.ref 298) 299 575 576) ::
 (nat_lit 301,hF "law" "law" (top 44) .none .none (zqd 386) none (.ref 300) .none)::[]
noncomputable def vw:aaT:={PySem.Challenge.pw_hushcards_k51_one_plan_behind_another with main:={PySem.Challenge.pw_hushcards_k51_one_plan_behind_another.main with body:=([1,2,3,4,5,6,7,8,10,11,12,13,14,16,17,18,19,21,22,23,24,25,26,27,28,29,30,31,32,33,34,35,36,37,38,39,40,41,42,43,44]:List Nat).map top}}
noncomputable def hk:PySem.W.Hook:=PySem.W.kHook Kf [2,3,15,22,23,24,25,28,35,36,37,40,47,49,50,52,53,54,55,56,59,66,67,68,71,78,79,80,83,90,91,92,95,102,103,104,107,114,115,116,119,122,123,124,126,127,129,130,131,134,135,136,139,140,141,144,145,146,148,149,151,152,153,155,156,158,159,160,162,163,165,166,167,169,170,172,173,174,176,177,179,180,181,184,185,186,189,190,191,194,195,196,199,200,201,203,204,206,207,208,211,212,213,216,217,218,221,222,223,225,226,228,229,230,232,233,235,236,237,240,241,242,245,246,247,250,251,252,254,255,257,258,259,261,262,264,265,266,269,270,271,274,275,276,279,280,281,283,284,286,287,288,290,291,293,294,295,297,298,300,301] (λ_=>by rfl)
noncomputable abbrev U9:=PySem.Challenge.rw_hushcards_k51_one_plan_behind_another.row
def left:PySem.W.LeftO U9.prog vw [] (λs=>PySem.W.xlAt vw [] s&&PySem.W.recOk (PySem.W.RowW.records U9.toRowW) s) hk.obs hk.val 5428:=λw=>by kernel_rfl
end Hc
namespace L2
noncomputable abbrev vj:=Sum Int Str
noncomputable def Lq:vj->XY->Bool
 | .inl k,v=>Value.isInt k v
 | .inr x,v=>Value.isStrOf x v
noncomputable def SD (w:Y6):vj->Int
 | .inl k=>hashInt k
 | .inr x=>hashStr w x
theorem dA:∀{k:vj} {v:XY},Lq k v=true->(∃i t,k=Sum.inl i/\v=Value.int i t)\/(∃x t,k=Sum.inr x/\v=Value.str x t)
 | .inl i,v,h=>by
  obtain⟨t,e⟩:=Value.isInt_shape (k:=i) (v:=v) h;exact .inl ⟨i,t,rfl,e⟩
 | .inr x,v,h=>by
  obtain⟨t,e⟩:=Value.isStrOf_shape (x:=x) (v:=v) h;exact .inr ⟨x,t,rfl,e⟩
theorem M5 (a b:Int):decide ((Sum.inl a:vj)=Sum.inl b)=(a==b):=by
 lia
theorem M6 (a b:Str):decide ((Sum.inr a:vj)=Sum.inr b)=decide (a=b):=by
 lia
def M7 (a:Int)(b:Str):decide ((Sum.inl a:vj)=Sum.inr b)=false:=hU (λq=>nomatch q)
def M8 (a:Str)(b:Int):decide ((Sum.inr a:vj)=Sum.inl b)=false:=hU (λq=>nomatch q)
noncomputable def wX (prog:aaT)(w:Y6):PySem.KeyKind prog w vj where
 is:=Lq
 hash:=SD w
 inj:=λv a b ha hb=>by
  rcases dA ha with⟨i,t,rfl,rfl⟩|⟨x,t,rfl,rfl⟩
  ·rcases dA hb with⟨j,u,rfl,e⟩|⟨y,u,rfl,e⟩
   ·lia
   lia
  ·rcases dA hb with⟨j,u,rfl,e⟩|⟨y,u,rfl,e⟩
   ·lia
   lia
 byValue:=λk v h=>by
  rcases dA h with⟨i,t,rfl,rfl⟩|⟨x,t,rfl,rfl⟩<;>rfl
 pyHash:=λhv h=>by
  rcases dA hv with⟨i,t,rfl,rfl⟩|⟨x,t,rfl,rfl⟩
  ·exact wpAny_pyHash_int h
  ·exact wpAny_pyHash_str h
 eqBool:=λhu hv h=>by
  rcases dA hu with⟨i,t,rfl,rfl⟩|⟨x,t,rfl,rfl⟩
  ·rcases dA hv with⟨j,u,rfl,rfl⟩|⟨y,u,rfl,rfl⟩
   ·rw[M5] at h;exact wpAny_eqBool_int h
   ·rw[M7] at h;exact ac7 i t y u _ _ _ _ h
  ·rcases dA hv with⟨j,u,rfl,rfl⟩|⟨y,u,rfl,rfl⟩
   ·rw[M8] at h;exact ac8 x t j u _ _ _ _ h
   ·rw[M6] at h;exact wpAny_eqBool_str h
 «strs»:=λk x t v h=>by
  rcases dA h with⟨i,u,rfl,e⟩|⟨y,u,rfl,e⟩
  ·lia
  ·injection e with e1 _
   subst e1;cases v<;>rfl
end L2
namespace L2
inductive V where
 |non|bl (b:Bool)|int (i:Int)|str (x:Str)|byt (b:Array UInt8)|flt (b:UInt64)|ref (a:Ye)|ty (n:String)
 deriving DecidableEq
def bX:V->XY->Prop
 | .non,u=>u=Value.none
 | .bl b,u=>u=Value.bool b
 | .int i,u=>∃t,u=Value.int i t
 | .str x,u=>∃t,u=Value.str x t
 | .byt b,u=>∃t,u=Value.bytes b t
 | .flt b,u=>∃t,u=Value.float b t
 | .ref a,u=>u=Value.ref a
 | .ty n,u=>u=Value.type n
abbrev bw:List V->List XY->Prop:=Paired bX
def bw.length {xs:List V}{us:List XY}(r:bw xs us):xs.length=us.length:=Paired.length r
theorem bw.get:∀{xs:List V} {us:List XY} {i:Nat} {x:V},bw xs us->xs[i]? = some x->∃u,us[i]? = some u/\bX x u
 |_,_,_,_,.nil,e=>by simp at e
 |_,_,0,_,.cons r _,e=>by grind
 |_,_,i+1,x,.cons _ t,e=>by
  obtain⟨u,h1,h2⟩:=bw.get (i:=i) (x:=x) t (by simpa using e);exact⟨u,by simpa using h1,h2⟩
theorem bw.set {x:V}{u:XY}(r:bX x u):∀{xs:List V} {us:List XY} (i:Nat),bw xs us->bw (xs.set i x) (us.set i u)
 |_,_,_,.nil=>.nil
 |_,_,0,.cons _ t=>.cons r t
 |_,_,i+1,.cons q t=>.cons q (bw.set r i t)
theorem bw.append:∀{xs ys:List V} {us ws:List XY},bw xs us->bw ys ws->bw (xs++ys) (us++ws)
 |_,_,_,_,.nil,s=>s
 |_,_,_,_,.cons r t,s=>.cons r (bw.append t s)
theorem bw.take:∀{xs:List V} {us:List XY} (n:Nat),bw xs us->bw (xs.take n) (us.take n)
 |_,_,0,_=>.nil
 |_,_,_+1,.nil=>.nil
 |_,_,n+1,.cons r t=>.cons r (bw.take n t)
theorem bw.drop:∀{xs:List V} {us:List XY} (n:Nat),bw xs us->bw (xs.drop n) (us.drop n)
 |_,_,0,r=>r
 |_,_,_+1,.nil=>.nil
 |_,_,n+1,.cons _ t=>bw.drop n t
def M9:Option V->Option XY->Prop
 |some v,some u=>bX v u
 |none,none=>True
 |_,_=>False
def KV {κ:Type}:List (κ×V)->List (κ×XY)->Prop:=Paired λ(p:κ×V) (q:κ×XY)=>p.1=q.1/\bX p.2 q.2
noncomputable def kV:vj->V
 | .inl i=>.int i
 | .inr x=>.str x
inductive HO where
 |lst (xs:List V)
 |tup (xs:List V)
 |dK (ir:List (vj×V))|dT (ir:List (List vj×V))
 |set (S:Int->Bool) (n:Nat)
 |ins (C dx:Ye) (fs:List (Str×V))
 |own (x:Ye)
 |xd (fs:List (Str×V))
 |met (f x:Ye)
 |rng (lo hi:Int)
 |frz (o:Obj) (u:HO)
 |tbl (ps:Array XY)
 |ext (φ:Z9->Prop)
noncomputable abbrev Hp:=Ye->Option HO
noncomputable def dF (H:Hp)(a:Ye)(o:HO):Hp:=λb=>if b=a then some o else H b
theorem aQ {H:Hp}{o:HO}:dF H a o a=some o:=by unfold dF;lia
theorem aS {H:Hp}{b:Ye}{o:HO}(h:b≠a):dF H a o b=H b:=by unfold dF;rw[hV h]
theorem bG {H:Hp}{b:Ye}{o:HO}(h:H a=some o)(h':H b=none):a≠b:=by
 lia
section
variable (P:aaT)(w:Y6)
def cD (H:Hp)(h:Z9)(a:Ye):HO->Prop
 | .lst xs=>xs.length<=XU/\∃(aA:List XY) (n:Nat),bw xs aA/\h.get? a=some {cls:=.type "list",data:=.seq aA.toArray n}
 | .tup xs=>xs.length<=XU/\∃aA:List XY,bw xs aA/\IsTup h a aA.toArray/\∃n,h.get? a=some {cls:=.type "tuple",data:=.seq aA.toArray n}
 | .dK ir=>ir.length<=XU/\(a==sysModules)=false/\∃vs,KV ir vs/\h.DictOf (wX P w) a vs
 | .dT ir=>ir.length<=XU/\(a==sysModules)=false/\∃xs:List (List vj×Ye×XY),
   Paired (λ(p:List vj×V) (q:List vj×Ye×XY)=>p.1=q.1/\H q.2.1=some (.tup (p.1.map kV))/\bX p.2 q.2.2) ir xs/\
   ∃o es ep,h.get? a=some o/\o.ExactDict/\o.data=.dict es ep/\es.toList=xs.map (entryOfKey (tupleKind (wX P w)))/\(xs.map (·.1)).Nodup
 | .set S n=>h.SetOf (intKind P w) a S n
 | .ins C dx fs=>H dx=some (.own a)/\fs.length<=1000/\dx≠a/\h.get? a=some (PySem.W.instObj C dx)/\
   ∃mA,h.Ns1 dx mA/\(∀f,M9 (fs.lookup f) (mA f))/\PySem.Within mA (fs.map (·.1))
 | .own _=>∃o,h.get? a=some o
 | .xd fs=>∃mA,h.Ns1 a mA/\∀f,M9 (fs.lookup f) (mA f)
 | .rng lo hi=>∃t u v,h.get? a=some {cls:=.type "range",data:=.fields (List.toArray [.int lo t,.int hi u,.int 1 v])}
 | .frz o u=>h.get? a=some o/\cD H h a u
 | .tbl ps=>h.get? a=some {cls:=.none,data:=.fields ps}
 | .met f x=>h.get? a=some (adx (.ref f) (.ref x))
 | .ext φ=>φ h/\(∃o,h.get? a=some o)/\∀h1 h2:Z9,φ h1->(∀o,h1.get? a=some o->h2.get? a=some o)->φ h2
def mR (H:Hp)(h:Z9):Prop:=∀a o,H a=some o->cD P w H h a o
end
section
variable {w:Y6}{H H':Hp}{o:HO}
theorem cD.lt (x:cD P w H h a o):a<h.objs.size:=by
 cases o with
 |lst xs=>obtain⟨_,_,_,_,e⟩:=x;exact X_ e
 |tup xs=>obtain⟨_,_,_,p,_⟩:=x;exact p.lt
 |dK ir=>obtain⟨_,_,_,_,o,_,_,e,_⟩:=x;exact X_ e
 |dT ir=>obtain⟨_,_,_,_,o,_,_,e,_⟩:=x;exact X_ e
 |set S n=>obtain⟨o,_,_,_,e,_⟩:=x;exact X_ e
 |ins C dx fs=>obtain⟨_,_,_,e,_⟩:=x;exact X_ e
 |own y=>obtain⟨_,e⟩:=x;exact X_ e
 |xd fs=>obtain⟨_,⟨_,_,_,e,_⟩,_⟩:=x;exact X_ e
 |rng lo hi=>obtain⟨_,_,_,e⟩:=x;exact X_ e
 |frz ob u=>obtain⟨e,_⟩:=x;exact X_ e
 |tbl ps=>exact X_ (show h.get? a=some _ from x)
 |met f y=>exact X_ (show h.get? a=some _ from x)
 |ext φ=>obtain⟨_,⟨_,e⟩,_⟩:=x;exact X_ e
theorem Paired.mapP {α β:Type}{F G:α->β->Prop}:∀{l₁:List α} {l₂:List β},Paired F l₁ l₂->(∀a b,F a b->G a b)->Paired G l₁ l₂
 |_,_,.nil,_=>.nil
 |_,_,.cons r t,f=>.cons (f _ _ r) (Paired.mapP t f)
theorem cD.stay (x:cD P w H h a o)(k:∀b u,(b=a\/H b=some (.own a))->h.get? b=some u->h'.get? b=some u)
  (ho:∀b,H b=some (.own a)->H' b=some (.own a)) (ht:∀b xs,H b=some (.tup xs)->H' b=some (.tup xs)):cD P w H' h' a o:=by
 induction o with
 |lst xs=>obtain⟨z,aA,n,r,e⟩:=x;exact⟨z,aA,n,r,k _ _ (.inl rfl) e⟩
 |tup xs=>obtain⟨z,aA,r,⟨ob,e,c⟩,n2,e2⟩:=x;exact⟨z,aA,r,⟨ob,k _ _ (.inl rfl) e,c⟩,n2,k _ _ (.inl rfl) e2⟩
 |dK ir=>obtain⟨z,y,vs,r,ob,es,ep,e,c⟩:=x;exact⟨z,y,vs,r,ob,es,ep,k _ _ (.inl rfl) e,c⟩
 |dT ir=>
  obtain⟨z,y,xs,r,ob,es,ep,e,c⟩:=x;exact⟨z,y,xs,Paired.mapP r λp q z=>⟨z.1,ht _ _ z.2.1,z.2.2⟩,ob,es,ep,k _ _ (.inl rfl) e,c⟩
 |set S n=>obtain⟨ob,es,ep,t,e,c⟩:=x;exact⟨ob,es,ep,t,k _ _ (.inl rfl) e,c⟩
 |ins C dx fs=>
  obtain⟨d,z,ne,e,mA,⟨od,es,ep,e2,c⟩,r⟩:=x;exact⟨ho _ d,z,ne,k _ _ (.inl rfl) e,mA,⟨od,es,ep,k _ _ (.inr d) e2,c⟩,r⟩
 |own y=>obtain⟨ob,e⟩:=x;exact⟨ob,k _ _ (.inl rfl) e⟩
 |xd fs=>obtain⟨mA,⟨od,es,ep,e,c⟩,r⟩:=x;exact⟨mA,⟨od,es,ep,k _ _ (.inl rfl) e,c⟩,r⟩
 |rng lo hi=>obtain⟨t,u,v,e⟩:=x;exact⟨t,u,v,k _ _ (.inl rfl) e⟩
 |frz ob u ih=>obtain⟨e,q⟩:=x;exact⟨k _ _ (.inl rfl) e,ih q⟩
 |tbl ps=>
  have e:h.get? a=some {cls:=.none,data:=.fields ps}:=x;show h'.get? a=some {cls:=.none,data:=.fields ps};grind
 |met f y=>
  have e:h.get? a=some (adx (.ref f) (.ref y)):=x;show h'.get? a=some (adx (.ref f) (.ref y));grind
 |ext φ=>obtain⟨p,⟨o,e⟩,st⟩:=x;exact⟨st _ _ p λo q=>k _ _ (.inl rfl) q,⟨o,k _ _ (.inl rfl) e⟩,st⟩
def mR.lt (x:mR P w H h)(e:H a=some o):a<h.objs.size:=(x a o e).lt
theorem mR.fresh (x:mR P w H h)(e:h.objs.size<=a):H a=none:=by
 cases q:H a with
 |none=>rfl
 |some u=>exact absurd (YE (x.lt q) e) (ZJ _)
def mR.kept (x:mR P w H h)(k:∀b u,h.get? b=some u->h'.get? b=some u):mR P w H h':=λa o e=>
 (x a o e).stay (λb u _ q=>k b u q) (λ_ q=>q) λ_ _ q=>q
theorem mR.laid (x:mR P w H h)(k:∀b u,h.get? b=some u->h'.get? b=some u)(hp:h.objs.size<=a)(new:cD P w (dF H a o) h' a o):mR P w (dF H a o) h':=λb u e=>by
 have hn:=x.fresh hp;by_cases hb:b=a
 ·grind[aQ]
 ·rw[aS hb] at e;exact (x b u e).stay (λc v _ q=>k c v q) (λc q=>by rw[aS (bG q hn)];exact q) λc xs q=>by rw[aS (bG q hn)];exact q
end
def Rd (H:Hp)(a:Ye)(u:HO):Prop:=H a=some u\/∃o,H a=some (.frz o u)
theorem Rd.ok {w:Y6}{H:Hp}{u:HO}(r:Rd H a u)(x:mR P w H h):cD P w H h a u:=by
 rcases r with r|⟨o,r⟩
 ·exact x a u r
 ·obtain⟨_,q⟩:=x a _ r;exact q
def RS:Option HO->Prop
 |some (.lst _)=>True
 |some (.dK _)=>True
 |some (.dT _)=>True
 |some (.set _ _)=>True
 |some (.ins _ _ _)=>True
 |some (.ext _)=>True
 |_=>False
section
variable {w:Y6}{H:Hp}{x e:Ye}{o':HO}
theorem mR.write (ok:mR P w H h)(mu:RS (H x))(he:e=x\/H e=some (.own x))(k:∀b u,b≠e->h.get? b=some u->h'.get? b=some u)(Px:∃u,h'.get? e=some u)
  (new:cD P w (dF H x o') h' x o'):mR P w (dF H x o') h':=λb u q=>by
 have Rm:∀c y,H c=some (.own y)->c≠x:=λc y r z=>by subst z;rw[r] at mu;exact mu
 have T3:∀c xs,H c=some (.tup xs)->c≠x:=λc xs r z=>by subst z;rw[r] at mu;exact mu
 by_cases hb:b=x
 ·grind[aQ]
 ·rw[aS hb] at q;by_cases hbe:b=e
  ·have q':H b=some (.own x):=by
    lia
   rw[q] at q';cases q';obtain⟨v,hv⟩:=Px;exact⟨v,by lia⟩
  ·refine (ok b u q).stay (λc v hc r=>k c v ?_ r) (λc r=>by grind[aS]) λc xs r=>by grind[aS]
   grind
end
structure Un (fs ex:List Ye)(H H':Hp)(h h':Z9):Prop where
 keep:∀b o,h.get? b=some o->H b=none->b∉fs->b∉ex->h'.get? b=some o
 slot:∀b o,h.get? b=some o->H b=none->b∈fs->b∉ex->∃sl,h'.get? b=some {o with slots:=sl}
 free:∀b o,h.get? b=some o->H b=none->b∉ex->H' b=none
 there:∀b o,h.get? b=some o->b∉ex->∃o',h'.get? b=some o'
 tups:∀b xs,H b=some (.tup xs)->H' b=some (.tup xs)
 frzs:∀b o u,H b=some (.frz o u)->H' b=some (.frz o u)
 tbls:∀b ps,H b=some (.tbl ps)->∃more,H' b=some (.tbl (ps++more))
section
variable {fs fs' ex ex':List Ye}{H H1 H2:Hp}{h1 h2:Z9}{x e:Ye}{o:HO}
def Un.any (u:Un fs ex H H1 h h1){b:Ye}{ob:Obj}(q:h.get? b=some ob)(n:H b=none)(hx:b∉ex):∃sl,h1.get? b=some {ob with slots:=sl}:=by
 by_cases hb:b∈fs
 ·exact u.slot b ob q n hb hx
 ·exact⟨ob.slots,u.keep b ob q n hb hx⟩
def Un.kept (k:∀b u,h.get? b=some u->h'.get? b=some u):Un fs ex H H h h' :=
 ⟨λb ob q _ _ _=>k b ob q,λb ob q _ _ _=>⟨ob.slots,k b ob q⟩,λ_ _ _ n _=>n,λb ob q _=>⟨ob,k b ob q⟩,λ_ _ q=>q,λ_ _ _ q=>q,λ_ ps q=>⟨(List.toArray []),by rw[q];simp⟩⟩
theorem Un.refl:Un fs ex H H h h:=Un.kept λ_ _ q=>q
def Un.laid (k:∀b u,h.get? b=some u->h'.get? b=some u)(hp:h.objs.size<=a)(hn:H a=none):Un fs ex H (dF H a o) h h' where
 keep:=λb u q _ _ _=>k b u q
 slot:=λb u q _ _ _=>⟨u.slots,k b u q⟩
 free:=λb u q n _=>by rw[aS (Ym (YE (X_ q) hp))];exact n
 there:=λb u q _=>⟨u,k b u q⟩
 tups:=λb xs q=>by rw[aS (bG q hn)];exact q
 frzs:=λb u xs q=>by rw[aS (bG q hn)];exact q
 tbls:=λb ps q=>⟨(List.toArray []),by rw[aS (bG q hn),q];simp⟩
theorem Un.write (mu:RS (H x))(he:e=x\/H e=some (.own x))(k:∀b u,b≠e->h.get? b=some u->h'.get? b=some u)(Px:∃u,h'.get? e=some u):Un fs ex H (dF H x o) h h':=by
 have hx:∀b,H b=none->b≠x:=λb n z=>by subst z;rw[n] at mu;exact mu
 have hb:∀b,H b=none->b≠e:=λb n z=>by
  lia
 have hm:∀b u,H b=some u->¬RS (some u)->b≠x:=λb u q nm z=>by lia
 refine⟨λb u q n _ _=>k b u (hb b n) q,λb u q n _ _=>⟨u.slots,k b u (hb b n) q⟩,λb u q n _=>by grind[aS],λb u q _=>?_,
  λb xs q=>by rw[aS (hm b _ q λz=>z)];exact q,λb u xs q=>by rw[aS (hm b _ q λz=>z)];exact q,λb ps q=>⟨(List.toArray []),by rw[aS (hm b _ q λz=>z),q];simp⟩⟩
 grind
end
noncomputable def RT (h:Z9)(H:Hp):List Ye:=(YF h.objs.size).filter λa=>(H a).isSome
noncomputable def wY (h:Z9)(H:Hp):Z9:=PySem.W.hideAll h (RT h H)
def DQ (h:Z9)(H:Hp):(wY h H).objs.size=h.objs.size:=PySem.W.hideAll_size _ _
theorem E1 {H:Hp}{b:Ye}{o:Obj}(e:h.get? b=some o)(n:H b=none):(wY h H).get? b=some o:=
 PySem.W.hideAll_get _ e λhm=>by
  have q:(H b).isSome=true:=(aa0.mp hm).2;grind
theorem Jl {H:Hp}{b:Ye}{o:Obj}(e:(wY h H).get? b=some o):h.get? b=some o/\H b=none:=by
 have e':h.get? b=some o:=PySem.W.of_hideAll (RT h H) e;refine⟨e',?_⟩;cases q:H b with
 |none=>rfl
 |some x=>
  grind[RT,X_,wY,PySem.W.hideAll_none]
end L2
variable {xs vs:List L2.V}{H H' H1 H2:L2.Hp}{v y:L2.V}
namespace L2
structure Mod (K:XX)(mg:Str->Option XY)(base:Z9):Prop where
 kin:K.In base
 glob:base.Ns YC mg
 blt:∃mb,base.Ns builtinsNs mb/\∀x:Str,x≠"__name__"->mb x=YQ x
 nolimit:base.NoLimit
structure Cx where
 prog:aaT
 w:Y6
 K:XX
 mg:Str->Option XY
 base:Z9
 A:YG
 N:List Str
 s₀:Ya
 H₀:Hp
 env:Env
 outer:List Env
 stack:List Env
 ex:List Ye
 fn:Str->Bool
 calm:Bool
 pn:List (Ye×Obj)
 xe:XY->Ya->Prop
noncomputable def sR (l:List Env):List Ye:=l.filterMap (·.frame)
noncomputable abbrev Cx.fs (X:Cx):List Ye:=sR X.outer
def DR (sc:acY)(x:Str):Prop:=sc.names.lookup x=some .local\/sc.names.lookup x=some .cell\/sc.names.lookup x=some .free
def E2 (sc:acY)(x:Str):Prop:=sc.names.lookup x=some .local\/sc.names.lookup x=some .cell
def SE (env:Env)(h:Z9)(m:Str->Option XY)(x:Str)(u:XY):Prop:=
 (env.kindOf x=some .local/\m x=some u)\/((env.kindOf x=some .cell\/env.kindOf x=some .free)/\∃c,env.cells.lookup x=some c/\h.IsCell c (some u))
structure Cx.Ok (X:Cx):Prop where
 mod:Mod X.K X.mg X.base
 kind:X.env.scope.kind=.function
 glob:X.env.globals=YC
 blt:X.env.builtins=builtinsNs
 above:X.s₀.heap.objs.size<=X.env.locals
 inj:∀x y c,X.env.cells.lookup x=some c->X.env.cells.lookup y=some c->x=y
 has:∀x,(X.env.kindOf x=some .cell\/X.env.kindOf x=some .free)->∃c,X.env.cells.lookup x=some c
 cab:∀x c,X.fn x=true->X.env.cells.lookup x=some c->X.s₀.heap.objs.size<=c
 hd:X.calm=true->X.A.handled=none
 frames:X.A.frames=some X.stack
 stk:X.stack=X.outer\/(X.stack=X.env::X.outer/\X.env.frame=some X.env.locals)
 exf:∀b∈X.ex,b≠X.env.locals/\∀x c,X.env.cells.lookup x=some c->c≠b
 bs:∀b o,X.base.get? b=some o->X.s₀.heap.get? b=some o/\X.H₀ b=none
 bsz:X.base.objs.size<=X.s₀.heap.objs.size
 noex:∀b o,X.base.get? b=some o->b∉X.ex
 exfs:∀b∈X.ex,b∉X.fs
 funs:X.s₀.heap.FunFrames X.base X.outer
 frf:∀b∈X.fs,X.H₀ b=none
structure aP (X:Cx)(pins:List (Ye×Obj))(σ:List (Option V))(H:Hp)(s:Ya):Prop where
 ok:X.Ok
 os:s.os=X.s₀.os
 bare:adj s.gens
 base:Un X.fs X.ex X.H₀ H X.s₀.heap s.heap
 loc:∃m,s.heap.Ns X.env.locals m/\∀(i:Nat) (x:Str) (v:V),X.N[i]? = some x->σ[i]? = some (some v)->DR X.env.scope x->∃u,bX v u/\SE X.env s.heap m x u
 cell:∀x c,X.env.cells.lookup x=some c->∃v,s.heap.IsCell c v
 free:H X.env.locals=none
 freeC:∀x c,X.env.cells.lookup x=some c->H c=none
 pin:∀p∈X.pn++pins,s.heap.get? p.1=some p.2/\H p.1=none/\p.1≠X.env.locals/\p.1∉X.fs/\∀v,p.2.data≠.cell v
 hok:mR X.prog X.w H s.heap
 len:σ.length=X.N.length
section
variable {X:Cx}{σ:List (Option V)}
theorem Cx.Ok.nofr (ok:X.Ok){b:Ye}{o:Obj}(e:X.base.get? b=some o):b∉X.fs:=λhb=>by
 have:=(ok.funs.mem hb).1;lia
def aP.bs (I:aP X pins σ H s):∀b o,X.base.get? b=some o->s.heap.get? b=some o/\H b=none:=λb o e=>
 ⟨I.base.keep b o (I.ok.bs b o e).1 (I.ok.bs b o e).2 (I.ok.nofr e) (I.ok.noex b o e),I.base.free b o (I.ok.bs b o e).1 (I.ok.bs b o e).2 (I.ok.noex b o e)⟩
def aP.bk (I:aP X pins σ H s):∀b o,X.base.get? b=some o->s.heap.get? b=some o:=λb o e=>(I.bs b o e).1
def aP.mod (I:aP X pins σ H s):Mod X.K X.mg X.base:=I.ok.mod
def aP.kIn (I:aP X pins σ H s):X.K.In s.heap:=I.ok.mod.kin.keeps I.bk
def aP.lt (I:aP X pins σ H s):X.env.locals<s.heap.objs.size:=let ⟨_,hn,_⟩:=I.loc;hn.lt
def aP.sz (I:aP X pins σ H s):X.s₀.heap.objs.size<=s.heap.objs.size:=YX I.ok.above (abM I.lt)
theorem aP.nofs (I:aP X pins σ H s)(h:s.heap.objs.size<=a):a∉X.fs:=λhb=>by
 obtain⟨_,o,ho,_⟩:=I.ok.funs.mem hb;exact absurd (YE (X_ ho) (YX I.sz h)) (ZJ _)
theorem aP.cne (I:aP X pins σ H s):∀x c,X.env.cells.lookup x=some c->c≠X.env.locals:=λx c e z=>by
 obtain⟨v,o,ho,hd⟩:=I.cell x c e;obtain⟨m,⟨o',es,ep,ho',hd',_⟩,_⟩:=I.loc;lia
theorem aP.funs (I:aP X pins σ H s):s.heap.FunFrames X.base X.outer:=by
 have all:∀(l:List Env),(∀b∈sR l,b∈X.fs)->X.s₀.heap.FunFrames X.base l->s.heap.FunFrames X.base l:=by
  intro l
  induction l with
  |nil=>intro _ _;trivial
  |cons env r ih=>
   intro hs hl;obtain⟨hk,⟨L,o,hf,hn,ho,hd⟩,hr⟩:=hl;have hL:L∈X.fs:=hs L (by grind[sR,aay,X2]);obtain⟨sl,e⟩:=I.base.slot L o ho (I.ok.frf L hL) hL λz=>I.ok.exfs L z hL;exact⟨hk,⟨L,_,hf,hn,e,hd⟩,ih (λb hb=>hs b (by unfold sR;rw[aay,hf];exact X4 _ hb)) hr⟩
 exact all X.outer (λ_ hb=>hb) I.ok.funs
theorem aP.stack (I:aP X pins σ H s):s.heap.FunFrames X.base X.stack:=by
 rcases I.ok.stk with e|⟨e,hf⟩
 ·rw[e];exact I.funs
 ·rw[e];obtain⟨m,hn,_⟩:=I.loc;refine .cons (by rw[I.ok.kind];decide) hf hn ?_ I.funs;exact Heap.get?_none_of_le (YX I.ok.bsz I.ok.above)
theorem aP.stkSub (I:aP X pins σ H s):∀b∈sR X.stack,b∈X.env.locals::X.fs:=λb hb=>by
 rcases I.ok.stk with e|⟨e,hf⟩
 ·grind
 grind[sR,aay]
theorem aP.stkFree (I:aP X pins σ H s):∀b∈sR X.stack,H b=none:=λb hb=>by
 rcases Yb.mp (I.stkSub b hb) with e|hb
 ·rw[e];exact I.free
 ·obtain⟨_,o,ho,_⟩:=I.ok.funs.mem hb;exact I.base.free b o ho (I.ok.frf b hb) λz=>I.ok.exfs b z hb
theorem aP.step {t':Nat}{d':Drawn}(I:aP X pins σ H s)(Jg:∀b∈ch,(b∈X.ex\/X.s₀.heap.objs.size<=b)/\b≠X.env.locals/\(∀x c,X.env.cells.lookup x=some c->c≠b)/\∀p∈X.pn++pins,p.1≠b)(keep:∀b o,b≠X.env.locals->b∉X.fs->b∉ch->s.heap.get? b=some o->H b=none->h'.get? b=some o)(slot:∀b o,b≠X.env.locals->b∈X.fs->b∉ch->s.heap.get? b=some o->H b=none->∃sl,h'.get? b=some {o with slots:=sl})(free:∀b o,b∉ch->s.heap.get? b=some o->H b=none->H' b=none)(there:∀b o,b∉ch->s.heap.get? b=some o->∃o',h'.get? b=some o')(tups:∀b xs,H b=some (.tup xs)->H' b=some (.tup xs))(frzs:∀b o u,H b=some (.frz o u)->H' b=some (.frz o u))(tbls:∀b ps,H b=some (.tbl ps)->∃more,H' b=some (.tbl (ps++more)))(ns:∀m,s.heap.Ns X.env.locals m->h'.Ns X.env.locals m)(hok:mR X.prog X.w H' h')(hg:adj g') :
  aP X pins σ H' {s with heap:=h',gens:=g',drawn:=d',toks:=t'}:=by
 have Lf:∀b o,X.s₀.heap.get? b=some o->b≠X.env.locals:=λb o e=>Ym (YE (X_ e) I.ok.above);have Sg:∀b o,X.s₀.heap.get? b=some o->b∉X.ex->b∉ch:=λb o e hx hb=>by
  rcases (Jg b hb).1 with z|z
  ·lia
  ·exact absurd (YE (X_ e) z) (ZJ _)
 have ML:∀x c,X.env.cells.lookup x=some c->∀v,s.heap.IsCell c v->h'.IsCell c v:=λx c e v h00=>by
  obtain⟨o,ho,hd⟩:=h00;have Rn:c∉ch:=λz=>(Jg c z).2.2.1 x c e rfl;by_cases hc:c∈X.fs
  ·obtain⟨sl,q⟩:=slot c o (I.cne x c e) hc Rn ho (I.freeC x c e);exact⟨_,q,hd⟩
  ·exact⟨o,keep c o (I.cne x c e) hc Rn ho (I.freeC x c e),hd⟩
 refine⟨I.ok,I.os,hg,⟨λb o e n hb hx=>?_,λb o e n hb hx=>?_,λb o e n hx=>?_,λb o e hx=>?_,λb xs e=>tups b xs (I.base.tups b xs e),λb o xs e=>frzs b o xs (I.base.frzs b o xs e),λb ps e=>?_⟩,?_,λx c e=>?_,?_,λx c e=>?_,λp hp=>?_,hok,I.len⟩
 ·exact keep b o (Lf b o e) hb (Sg b o e hx) (I.base.keep b o e n hb hx) (I.base.free b o e n hx)
 ·obtain⟨sl,e1⟩:=I.base.slot b o e n hb hx;obtain⟨RK,e2⟩:=slot b _ (Lf b o e) hb (Sg b o e hx) e1 (I.base.free b o e n hx);grind
 ·obtain⟨o',e1⟩:=I.base.there b o e hx;exact free b o' (Sg b o e hx) e1 (I.base.free b o e n hx)
 ·obtain⟨o',e1⟩:=I.base.there b o e hx;exact there b o' (Sg b o e hx) e1
 ·obtain⟨m1,e1⟩:=I.base.tbls b ps e;grind
 ·obtain⟨m,hn,hl⟩:=I.loc;refine⟨m,ns m hn,λi x v e1 e2 e3=>?_⟩;obtain⟨u,r,l⟩:=hl i x v e1 e2 e3;refine⟨u,r,?_⟩;rcases l with l|⟨k,c,e,z⟩
  ·exact .inl l
  ·exact .inr ⟨k,c,e,ML x c e _ z⟩
 ·obtain⟨v,z⟩:=I.cell x c e;grind
 ·obtain⟨m,⟨o,_,_,ho,_⟩,_⟩:=I.loc;exact free _ o (λz=>(Jg _ z).2.1 rfl) ho I.free
 ·obtain⟨v,o,ho,hd⟩:=I.cell x c e;exact free c o (λz=>(Jg c z).2.2.1 x c e rfl) ho (I.freeC x c e)
 ·obtain⟨e,n,ne,nf,d⟩:=I.pin p hp;grind
theorem aP.un {t':Nat}(I:aP X pins σ H s)(u:Un X.fs [] H H' s.heap h')(hok:mR X.prog X.w H' h'):aP X pins σ H' {s with heap:=h',toks:=t'}:=by
 obtain⟨m,⟨o,es,ep,ho,r⟩,_⟩:=id I.loc;obtain⟨sl,hL⟩:=u.any ho I.free (by simp);exact I.step (g':=s.gens) (d':=s.drawn) (ch:=[]) (λ_ z=>nomatch z) (λb o _ hb _ e n=>u.keep b o e n hb (by simp)) (λb o _ hb _ e n=>u.slot b o e n hb (by simp)) (λb o _ e n=>u.free b o e n (by simp)) (λb o _ e=>u.there b o e (by simp)) u.tups u.frzs u.tbls (λm' hm=>by
  obtain⟨o',IJ,ep',ho',r'⟩:=hm;rw[ho] at ho';cases ho';exact⟨_,IJ,ep',hL,r'⟩) hok I.bare
theorem aP.call {t':Nat}{d':Drawn}(I:aP X pins σ H s)(u:Un (sR X.stack) ch H H' s.heap h')(hok:mR X.prog X.w H' h')(hg:adj g')(Jg:∀b∈ch,(b∈X.ex\/X.s₀.heap.objs.size<=b)/\b≠X.env.locals/\(∀x c,X.env.cells.lookup x=some c->c≠b)/\∀p∈X.pn++pins,p.1≠b) :
  aP X pins σ H' {s with heap:=h',gens:=g',drawn:=d',toks:=t'}:=by
 obtain⟨m,⟨o,es,ep,ho,r⟩,_⟩:=id I.loc;obtain⟨sl,hL⟩:=u.any ho I.free λz=>(Jg _ z).2.1 rfl;exact I.step (ch:=ch) Jg (λb o hL hb hc e n=>u.keep b o e n (λz=>(Yb.mp (I.stkSub b z)).elim hL hb) hc) (λb o _ _ hc e n=>u.any e n hc) (λb o hc e n=>u.free b o e n hc) (λb o hc e=>u.there b o e hc) u.tups u.frzs u.tbls (λm' hm=>by
  obtain⟨o',IJ,ep',ho',r'⟩:=hm;rw[ho] at ho';cases ho';exact⟨_,IJ,ep',hL,r'⟩) hok hg
theorem aP.turned {t':Nat}(I:aP X pins σ H s)(k:∀b o,b≠it->s.heap.get? b=some o->h'.get? b=some o)(hn:H it=none)(hL:it≠X.env.locals)(h1:it∈X.ex\/X.s₀.heap.objs.size<=it)(h2:∀x c,X.env.cells.lookup x=some c->c≠it)(h3:∀p∈X.pn++pins,p.1≠it):aP X pins σ H {s with heap:=h',toks:=t'}:=by
 have Va:∀b u,H b=some u->b≠it:=λb u e z=>by lia
 refine I.step (g':=s.gens) (d':=s.drawn) (ch:=[it]) (λb hb=>?_) (λb o _ _ hc e _=>k b o (λz=>hc (by simp[z])) e) (λb o _ _ hc e _=>⟨o.slots,k b o (λz=>hc (by simp[z])) e⟩) (λ_ _ _ _ n=>n)
  (λb o hc e=>⟨o,k b o (λz=>hc (by simp[z])) e⟩) (λ_ _ e=>e) (λ_ _ _ e=>e) (λb ps e=>⟨(List.toArray []),by rw[e];simp⟩) (λm hm=>?_) (λb u e=>?_) I.bare
 ·have e:b=it:=by simpa using hb
  subst e;exact⟨h1,hL,h2,h3⟩
 ·obtain⟨o,es,ep,ho,r⟩:=hm;exact⟨o,es,ep,k _ o (acN hL) ho,r⟩
 ·refine (I.hok b u e).stay (λc v hc q=>k c v ?_ q) (λ_ q=>q) λ_ _ q=>q;lia
def aP.tok (I:aP X pins σ H s)(t:Nat):aP X pins σ H {s with toks:=t}:=I.un (h':=s.heap) (t':=t) Un.refl I.hok
def aP.kept {t':Nat}(I:aP X pins σ H s)(k:∀b u,s.heap.get? b=some u->h'.get? b=some u):aP X pins σ H {s with heap:=h',toks:=t'}:=I.un (Un.kept k) (I.hok.kept k)
def aP.laid {t':Nat}{o:HO}(I:aP X pins σ H s)(k:∀b u,s.heap.get? b=some u->h'.get? b=some u)(hp:s.heap.objs.size<=a)(new:cD X.prog X.w (dF H a o) h' a o) :
  aP X pins σ (dF H a o) {s with heap:=h',toks:=t'}:=I.un (Un.laid k hp (I.hok.fresh hp)) (I.hok.laid k hp new)
def aP.write {t':Nat}{x e:Ye}{o:HO}(I:aP X pins σ H s)(mu:RS (H x))(he:e=x\/H e=some (.own x))(k:∀b u,b≠e->s.heap.get? b=some u->h'.get? b=some u)(Px:∃u,h'.get? e=some u)(new:cD X.prog X.w (dF H x o) h' x o):aP X pins σ (dF H x o) {s with heap:=h',toks:=t'}:=I.un (Un.write mu he k Px) (I.hok.write mu he k Px new)
def aP.pins_of {MM:List (Ye×Obj)}(I:aP X pins σ H s)(h:∀p∈MM,s.heap.get? p.1=some p.2/\H p.1=none/\p.1≠X.env.locals/\p.1∉X.fs/\∀v,p.2.data≠.cell v):aP X MM σ H s:=
 ⟨I.ok,I.os,I.bare,I.base,I.loc,I.cell,I.free,I.freeC,λp hp=>(Yk.mp hp).elim (λz=>I.pin p (Zz _ z)) (h p),I.hok,I.len⟩
theorem sS (hN:N.Nodup)(a:N[i]? = some x)(b:N[j]? = some x):i=j:=by
 obtain⟨h1,e1⟩:=X3.mp a;obtain⟨h2,e2⟩:=X3.mp b;exact (List.getElem_inj hN).mp (e1.trans e2.symm)
theorem vK {A:YG}{u:XY}{Q:Unit->Ya->Prop}(I:aP X pins σ H s)(hN:X.N.Nodup)(hi:X.N[i]? = some x)(hx:E2 X.env.scope x)(r:bX v u)(h:∀s',aP X pins (σ.set i (some v)) H s'->(∃a,aa7 a s.heap s'.heap/\(a=X.env.locals\/X.env.cells.lookup x=some a))->Q () s')(hf:X.fn x=true\/X.env.scope.names.lookup x=some .local:=by first|exact .inl rfl|exact .inr rfl|assumption):Yg M A (storeName X.env x u) Q E s:=by
 obtain⟨m,hn,hl⟩:=id I.loc;have OX:(X.env.scope.kind==.class||(X.env.scope.kind==.module&&X.env.locals != X.env.globals))=false:=by rw[I.ok.kind];rfl
 have Sh:i<σ.length:=by rw[I.len];exact (X3.mp hi).1
 have cne:=I.cne;have Dz:∀{a:Ye} {h':Z9},(∃o,s.heap.get? a=some o/\H a=none)->aa7 a s.heap h'->mR X.prog X.w H h':=λ{a h'} ha hs b ob e=>by
  obtain⟨_,_,vc⟩:=ha;refine (I.hok b ob e).stay (λc w' hc q=>(hs.2 c ?_).trans q) (λ_ q=>q) λ_ _ q=>q;lia
 rcases hx with hk|hk
 ·refine wpAny_storeName_local hk hn (λh' MN hs=>?_) OX;obtain⟨oL,_,_,PL,_⟩:=id hn;refine h _ ⟨I.ok,I.os,I.bare,⟨λb o e n hb hx=>?_,λb o e n hb hx=>?_,I.base.free,λb o e hx=>?_,I.base.tups,I.base.frzs,I.base.tbls⟩,⟨_,MN,λj y v' e1 e2 e3=>?_⟩,λy c e=>?_,I.free,I.freeC,λp hp=>?_,Dz ⟨oL,PL,I.free⟩ hs,by simpa using I.len⟩ ⟨_,hs,.inl rfl⟩
  ·exact (hs.2 b (Ym (YE (X_ e) I.ok.above))).trans (I.base.keep b o e n hb hx)
  ·obtain⟨sl,e1⟩:=I.base.slot b o e n hb hx;exact⟨sl,(hs.2 b (Ym (YE (X_ e) I.ok.above))).trans e1⟩
  ·obtain⟨o',e1⟩:=I.base.there b o e hx;exact⟨o',(hs.2 b (Ym (YE (X_ e) I.ok.above))).trans e1⟩
  ·by_cases hj:j=i
   ·subst hj;rw[hi] at e1;cases e1;rw[abe Sh] at e2;cases e2;exact⟨u,r,.inl ⟨hk,by simp⟩⟩
   ·rw[YI (acN hj)] at e2;obtain⟨u',r',q⟩:=hl j y v' e1 e2 e3;refine⟨u',r',?_⟩;rcases q with⟨k,e⟩|⟨k,c,e,z⟩
    ·refine .inl ⟨k,?_⟩;have:y≠x:=λe=>hj (sS hN e1 (e▸hi));simp[this,e]
    ·exact .inr ⟨k,c,e,z.sameBut hs (cne y c e)⟩
  ·obtain⟨w',z⟩:=I.cell y c e;exact⟨w',z.sameBut hs (cne y c e)⟩
  ·obtain⟨e,n,ne,nf,d⟩:=I.pin p hp;exact⟨(hs.2 p.1 ne).trans e,n,ne,nf,d⟩
 ·have T4:X.fn x=true:=by
   lia
  obtain⟨c,hc⟩:=I.ok.has x (.inl hk);obtain⟨w',z⟩:=I.cell x c hc;refine wpAny_storeName_cell I.ok.kind hk hc z (λh' Py hs=>?_);obtain⟨oc,hoc,hocd⟩:=id z;refine h {s with heap:=h'} ⟨I.ok,I.os,I.bare,⟨λb o e n hb hx=>?_,λb o e n hb hx=>?_,I.base.free,λb o e hx=>?_,I.base.tups,I.base.frzs,I.base.tbls⟩,⟨m,hn.sameBut hs (acN (cne x c hc)),λj y v' e1 e2 e3=>?_⟩,λy c' e=>?_,I.free,I.freeC,λp hp=>?_,Dz ⟨oc,hoc,I.freeC x c hc⟩ hs,by simpa using I.len⟩ ⟨c,hs,.inr hc⟩
  ·exact (hs.2 b (Ym (YE (X_ e) (I.ok.cab x c T4 hc)))).trans (I.base.keep b o e n hb hx)
  ·obtain⟨sl,e1⟩:=I.base.slot b o e n hb hx;exact⟨sl,(hs.2 b (Ym (YE (X_ e) (I.ok.cab x c T4 hc)))).trans e1⟩
  ·obtain⟨o',e1⟩:=I.base.there b o e hx;exact⟨o',(hs.2 b (Ym (YE (X_ e) (I.ok.cab x c T4 hc)))).trans e1⟩
  ·by_cases hj:j=i
   ·subst hj;rw[hi] at e1;cases e1;rw[abe Sh] at e2;cases e2;exact⟨u,r,.inr ⟨.inl hk,c,hc,Py⟩⟩
   ·rw[YI (acN hj)] at e2;obtain⟨u',r',q⟩:=hl j y v' e1 e2 e3;refine⟨u',r',?_⟩;rcases q with q|⟨k,c',e,z'⟩
    ·exact .inl q
    ·refine .inr ⟨k,c',e,z'.sameBut hs ?_⟩;rintro rfl;exact hj (sS hN e1 (I.ok.inj _ _ _ e hc▸hi))
  ·by_cases hcc:c'=c
   ·grind
   ·obtain⟨w2,z2⟩:=I.cell y c' e;exact⟨w2,z2.sameBut hs hcc⟩
  ·obtain⟨e,n,ne,nf,d⟩:=I.pin p hp;refine⟨(hs.2 p.1 ?_).trans e,n,ne,nf,d⟩;grind
def sT {A:YG}{u:XY}{Q:Unit->Ya->Prop}(I:aP X pins σ H s)(hN:X.N.Nodup)(hi:X.N[i]? = some x)(hx:E2 X.env.scope x)(r:bX v u)(h:∀s',aP X pins (σ.set i (some v)) H s'->Q () s')(hf:X.fn x=true\/X.env.scope.names.lookup x=some .local:=by first|exact .inl rfl|exact .inr rfl|assumption):Yg M A (storeName X.env x u) Q E s:=
 vK I hN hi hx r (λs' I' _=>h s' I') hf
theorem aP.call' {s':Ya}(I:aP X pins σ H s)(ho:s'.os=s.os)(u:Un (sR X.stack) ch H H' s.heap s'.heap)(hok:mR X.prog X.w H' s'.heap)(hg:adj s'.gens)(Jg:∀b∈ch,(b∈X.ex\/X.s₀.heap.objs.size<=b)/\b≠X.env.locals/\(∀x c,X.env.cells.lookup x=some c->c≠b)/\∀p∈X.pn++pins,p.1≠b):aP X pins σ H' s':=by
 obtain⟨h',g',d',t',o'⟩:=s';have e:o'=s.os:=ho;subst e;exact I.call (g':=g') (t':=t') (d':=d') u hok hg Jg
end
abbrev XK:=XY->Option Ye->Hp->Prop
noncomputable abbrev St:=List (Option V)
abbrev VK:=V->Hp->Prop
abbrev TE:=St->Hp->VK->Prop
abbrev TT:=St->Hp->(Bool->Hp->Prop)->Prop
abbrev TA:=St->Hp->(List V->Hp->Prop)->Prop
structure oh where
 nx:St->Hp->Prop
 rt:VK
 bk:St->Hp->Prop:=λ_ _=>False
 ct:St->Hp->Prop:=λ_ _=>False
abbrev TS:=oh->St->Hp->Prop
def EP (X:Cx)(pins:List (Ye×Obj))(σ:St)(Q:VK)(u:XY)(s':Ya):Prop:=∃v H',aP X pins σ H' s'/\bX v u/\Q v H'
def TP (X:Cx)(pins:List (Ye×Obj))(σ:St)(Q:Bool->Hp->Prop)(b:Bool)(s':Ya):Prop:=∃H',aP X pins σ H' s'/\Q b H'
def AP (X:Cx)(pins:List (Ye×Obj))(σ:St)(Q:List V->Hp->Prop)(us:List XY)(s':Ya):Prop:=∃vs H',aP X pins σ H' s'/\bw vs us/\Q vs H'
def SP (X:Cx)(pins:List (Ye×Obj))(D:oh)(f:Flow)(s':Ya):Prop:=
 match f with
 | .next=>∃σ' H',aP X pins σ' H' s'/\D.nx σ' H'
 | .brk=>∃σ' H',aP X pins σ' H' s'/\D.bk σ' H'
 | .cont=>∃σ' H',aP X pins σ' H' s'/\D.ct σ' H'
 | .ret u=>∃v σ' H',aP X pins σ' H' s'/\bX v u/\D.rt v H'
def PE (X:Cx)(e:aaj)(t:TE):Prop:=
 ∀(pins:List (Ye×Obj)) (s:Ya) (σ:St) (H:Hp) (Q:VK),aP X pins σ H s->t σ H Q->Yg (Yw X.prog X.w) X.A (abh e X.env) (EP X pins σ Q) X.xe s
def PT (X:Cx)(e:aaj)(t:TT):Prop:=
 ∀(pins:List (Ye×Obj)) (s:Ya) (σ:St) (H:Hp) (Q:Bool->Hp->Prop),aP X pins σ H s->t σ H Q->Yg (Yw X.prog X.w) X.A (isTrue e X.env (abh e X.env)) (TP X pins σ Q) X.xe s
def PW (X:Cx)(e:aaj)(t:TT):Prop:=
 ∀(pO:Sem XY) (pins:List (Ye×Obj)) (s:Ya) (σ:St) (H:Hp) (Q:Bool->Hp->Prop),aP X pins σ H s->t σ H Q->Yg (Yw X.prog X.w) X.A (isTrue e X.env pO) (TP X pins σ Q) X.xe s
def PW.pt {X:Cx}{e:aaj}{t:TT}(h:PW X e t):PT X e t:=h _
def PA (X:Cx)(es:List aaj)(t:TA):Prop:=
 ∀(pos:Pos) (pins:List (Ye×Obj)) (s:Ya) (σ:St) (H:Hp) (Q:List V->Hp->Prop),aP X pins σ H s->t σ H Q->Yg (Yw X.prog X.w) X.A (spliced (aan pos (X7 es X.env))) (AP X pins σ Q) X.xe s
def PS (X:Cx)(st:ab7)(t:TS):Prop:=
 ∀(pins:List (Ye×Obj)) (s:Ya) (σ:St) (H:Hp) (D:oh),aP X pins σ H s->t D σ H->Yg (Yw X.prog X.w) X.A (exec st X.env) (SP X pins D) X.xe s
def sU (X:Cx)(st:List ab7)(t:TS):Prop:=
 ∀(pins:List (Ye×Obj)) (s:Ya) (σ:St) (H:Hp) (D:oh),aP X pins σ H s->t D σ H->Yg (Yw X.prog X.w) X.A (execs st X.env) (SP X pins D) X.xe s
def fj {α:Type}{t:Sem α}{Q Q':α->Ya->Prop}{A:YG}(h:Yg M A t Q E s)(hQ:∀a s,Q a s->Q' a s):Yg M A t Q' E s:=Zc h hQ λ_ _ x=>x
end L2
variable {X:L2.Cx}{tb:L2.TS}{σ:L2.St}{te:L2.TE}
namespace L2
section
theorem Xt {a b:aaj}{ta tb:TE}(ha:PE X a ta)(hb:PE X b tb){R:V->V->Hp->Prop}(I:aP X pins σ H s)(h:ta σ H λx H1=>tb σ H1 λy H2=>R x y H2){α:Type}{Q:α->Ya->Prop}{f:XY->XY->Sem α}(hf:∀v u s2 x y H2,aP X pins σ H2 s2->bX x v->bX y u->R x y H2->Yg (Yw X.prog X.w) X.A (f v u) Q X.xe s2) :
  Yg (Yw X.prog X.w) X.A (abh a X.env) (λv s₁=>Yg (Yw X.prog X.w) X.A (abh b X.env) (λu s₂=>Yg (Yw X.prog X.w) X.A (f v u) Q X.xe s₂) X.xe s₁) X.xe s:=by
 refine fj (ha pins s σ H _ I h) λv s1 ⟨x,H1,I1,r1,q1⟩=>?_;refine fj (hb pins s1 σ H1 _ I1 q1) λu s2 ⟨y,H2,I2,r2,q2⟩=>?_;grind
def Jm (i:Nat):TE:=λσ H Q=>∃v,σ[i]? = some (some v)/\Q v H
def tC (v:V):TE:=λ_ H Q=>Q v H
theorem i5 {pos:Pos}(hN:X.N[i]? = some x)(hv:DR X.env.scope x)(hd:(x==("__debug__":Str))=false:=by decide)(kI:(x==("__classdict__":Str))=false:=by decide):PE X (.Name x pos) (Jm i):=by
 intro pins s σ H Q I h;obtain⟨v,e,h⟩:=h;obtain⟨m,hn,hl⟩:=I.loc;obtain⟨u,r,l⟩:=hl i x v hN e hv;have fin:EP X pins σ Q u s:=⟨v,H,I,r,h⟩;rcases l with⟨hk,hm⟩|⟨hk,c,hc,wU⟩
 ·exact wpAny_Name (wpAny_loadName_local I.ok.kind hk hn hm fin) hd
 ·rcases hk with hk|hk
  ·exact wpAny_Name (wpAny_loadName_cell I.ok.kind hk hc wU fin) hd
  ·exact wpAny_Name (wpAny_loadName_free I.ok.kind hk hc wU fin kI) hd
def A5 {i j pos}:PE X (.Constant (.int i) j pos) (tC (.int i)):=λ_ _ _ H _ I h=>wpAny_Constant_int ⟨.int i,H,I.tok _,⟨_,rfl⟩,h⟩
def yF {b j pos}:PE X (.Constant (.bool b) j pos) (tC (.bl b)):=λ_ _ _ H _ I h=>Constant_bool ⟨.bl b,H,I,rfl,h⟩
def M_ {j pos}:PE X (.Constant .none j pos) (tC .non):=λ_ _ _ H _ I h=>Constant_none ⟨.non,H,I,rfl,h⟩
def dG {x j pos}:PE X (.Constant (.str x) j pos) (tC (.str x)):=λ_ _ _ H _ I h=>Calls.Constant_str ⟨.str x,H,I.tok _,⟨_,rfl⟩,h⟩
def Gl (X:Cx)(x:Str):Prop:=X.env.kindOf x=some .globalImplicit
def l6 {u:XY}{pos:Pos}(I:aP X pins σ H s)(hg:Gl X x)(hm:X.mg x=some u)(h:Q u s)(hd:(x==("__debug__":Str))=false:=by decide):Yg (Yw X.prog X.w) X.A (abh (.Name x pos) X.env) Q E s:=
 acZ I.ok.kind hg (Calls.loadGlobal_global (by rw[I.ok.glob];exact I.mod.glob.keeps I.bk) hm h) hd
theorem nj {u:XY}{pos:Pos}(I:aP X pins σ H s)(hg:Gl X x)(hm:X.mg x=none)(hv:YQ x=some u)(h:Q u s)(hn:x≠"__name__":=by decide)(hd:(x==("__debug__":Str))=false:=by decide):Yg (Yw X.prog X.w) X.A (abh (.Name x pos) X.env) Q E s:=by
 obtain⟨mb,h1,h2⟩:=I.mod.blt;exact acZ I.ok.kind hg (Calls.loadGlobal_builtin (by rw[I.ok.glob];exact I.mod.glob.keeps I.bk) hm (by rw[I.ok.blt];exact h1.keeps I.bk) ((h2 x hn).trans hv) h) hd
def Cb {u:XY}{pos:Pos}(hg:Gl X x)(hm:X.mg x=some u)(r:bX v u)(hd:(x==("__debug__":Str))=false:=by decide):PE X (.Name x pos) (tC v):=
 λ_ _ _ H _ I h=>l6 I hg hm ⟨v,H,I,r,h⟩ hd
def su {u:XY}{pos:Pos}(hg:Gl X x)(hm:X.mg x=none)(hv:YQ x=some u)(r:bX v u)(hn:x≠"__name__":=by decide)(hd:(x==("__debug__":Str))=false:=by decide):PE X (.Name x pos) (tC v):=
 λ_ _ _ H _ I h=>nj I hg hm hv ⟨v,H,I,r,h⟩ hn hd
variable {a b:aaj}{ta tb:TE}{pos:Pos}
def PC (X:Cx)(op:CmpOp)(a b:aaj)(t:TE):Prop:=
 ∀(pins:List (Ye×Obj)) (s:Ya) (σ:St) (H:Hp) (Q:VK),aP X pins σ H s->t σ H Q->
  Yg (Yw X.prog X.w) X.A (abh a X.env) (λv s₁=>Yg (Yw X.prog X.w) X.A (abh b X.env) (λu s₂=>Yg (Yw X.prog X.w) X.A (aaz op v u) (EP X pins σ Q) X.xe s₂) X.xe s₁) X.xe s
def tB (t:TE):TT:=λσ H Q=>t σ H λx H1=>∃c,x=.bl c/\Q c H1
theorem SF {t:TE}(h:PC X op a b t)(h1:abt op b=false:=by first|exact nobehind _ (by decide) (by decide)|rfl):PT X (.Compare a [op] [b] pos) (tB t):=by
 intro pins s σ H Q I hw;refine wpAny_isTrue_Compare1 (fj (h pins s σ H _ I hw) λv s1 h1=>fj h1 λu s2 h2=>fj h2 λc s3 ⟨x,H1,I1,r1,q1⟩=>?_) h1;obtain⟨d,rfl,q⟩:=q1;cases r1;exact aav ⟨H1,I1,q⟩
theorem A6 {e:aaj}{t:TE}(h:PE X e t)(he:∀pO,isTrue e X.env pO=(do let v ←pO;standAt e.pos;adk [v] (truthy v)):=by intro _;rfl):PT X e (tB t):=by
 intro pins s σ H Q I hw;refine isTrue_plain (fj (h pins s σ H _ I hw) λv s1 ⟨x,H1,I1,r1,q1⟩=>?_) (he _);obtain⟨d,rfl,q⟩:=q1;cases r1;exact aav ⟨H1,I1,q⟩
variable {tA tB':TT}{rest:List aaj}
def PQ (t u:TT):TT:=λσ H Q=>t σ H λc H1=>if c=true then u σ H1 Q else Q false H1
def UM (t u:TT):TT:=λσ H Q=>t σ H λc H1=>if c=true then Q true H1 else u σ H1 Q
def SG (t:TT):TT:=λσ H Q=>t σ H λc H1=>Q (!c) H1
theorem Jn (ha:PT X a tA):PW X (.BoolOp .And [a] pos) tA:=by
 intro wh pins s σ H Q I h;refine isTrue_and (fj (ha pins s σ H Q I h) λc s1 e=>?_);grind[isTrue_and_nil]
theorem Na (ha:PT X a tA):PW X (.BoolOp .Or [a] pos) tA:=by
 intro wh pins s σ H Q I h;refine isTrue_or (fj (ha pins s σ H Q I h) λc s1 e=>?_);grind[isTrue_or_nil]
theorem Nb (ha:PT X a tA)(hb:PW X (.BoolOp .And (b::rest) pos) tB'):PW X (.BoolOp .And (a::b::rest) pos) (PQ tA tB'):=by
 intro wh pins s σ H Q I h;refine isTrue_and (fj (ha pins s σ H _ I h) λc s1 ⟨H1,I1,q1⟩=>?_);cases c with
 |true=>exact hb wh pins s1 σ H1 Q I1 q1
 |false=>exact⟨H1,I1,q1⟩
theorem PR (ha:PT X a tA)(hb:PW X (.BoolOp .Or (b::rest) pos) tB'):PW X (.BoolOp .Or (a::b::rest) pos) (UM tA tB'):=by
 intro wh pins s σ H Q I h;refine isTrue_or (fj (ha pins s σ H _ I h) λc s1 ⟨H1,I1,q1⟩=>?_);cases c with
 |true=>exact⟨H1,I1,q1⟩
 |false=>exact hb wh pins s1 σ H1 Q I1 q1
def A7 (ha:PT X a tA):PT X (.UnaryOp .Not a pos) (SG tA):=by
 intro pins s σ H Q I h;exact isTrue_not (ha pins s σ H (λc H1=>Q (!c) H1) I h)
def PU (ta tb:TE):TE:=λσ H Q=>ta σ H λx H1=>∃c,x=.bl c/\if c=true then tb σ H1 Q else Q (.bl false) H1
def SH (ta tb:TE):TE:=λσ H Q=>ta σ H λx H1=>∃c,x=.bl c/\if c=true then Q (.bl true) H1 else tb σ H1 Q
def Nc {op}{t:TE}(h:PE X a t):PE X (.BoolOp op [a] pos) t:=λpins s σ H Q I hw=>BoolOp_one (h pins s σ H Q I hw)
theorem Nf (ha:PE X a ta)(hb:PE X (.BoolOp .And (b::rest) pos) tb):PE X (.BoolOp .And (a::b::rest) pos) (PU ta tb):=by
 intro pins s σ H Q I h;refine BoolOp_and (fj (ha pins s σ H _ I h) λv s1 ⟨x,H1,I1,r1,q1⟩=>?_);obtain⟨c,rfl,q1⟩:=q1;cases r1;refine aav ?_;cases c with
 |true=>exact hb pins s1 σ H1 Q I1 q1
 |false=>exact⟨.bl false,H1,I1,rfl,q1⟩
theorem PV (ha:PE X a ta)(hb:PE X (.BoolOp .Or (b::rest) pos) tb):PE X (.BoolOp .Or (a::b::rest) pos) (SH ta tb):=by
 intro pins s σ H Q I h;refine BoolOp_or (fj (ha pins s σ H _ I h) λv s1 ⟨x,H1,I1,r1,q1⟩=>?_);obtain⟨c,rfl,q1⟩:=q1;cases r1;refine aav ?_;cases c with
 |false=>exact hb pins s1 σ H1 Q I1 q1
 |true=>exact⟨.bl true,H1,I1,rfl,q1⟩
def VJ (t:TT)(ta tb:TE):TE:=λσ H Q=>t σ H λc H1=>if c=true then ta σ H1 Q else tb σ H1 Q
theorem E3 (hc:PT X c tA)(ha:PE X a ta)(hb:PE X b tb):PE X (.IfExp c a b pos) (VJ tA ta tb):=by
 intro pins s σ H Q I h;refine wpAny_IfExp (fj (hc pins s σ H _ I h) λd s1 ⟨H1,I1,q1⟩=>?_);cases d with
 |true=>exact ha pins s1 σ H1 Q I1 q1
 |false=>exact hb pins s1 σ H1 Q I1 q1
end
end L2
namespace L2
def fS (K:XX)(H:Hp)(a:Ye)(xs:List V):Prop:=
 Rd H a (.lst xs) \/
  ∃(o:Obj) (aA:Array XY) (n:Nat),K.lookup a=some o/\o.cls=.type "list"/\o.dict=none/\o.data=.seq aA n/\aA.size<=XU/\bw xs aA.toList
def i6 (K:XX)(H:Hp)(a:Ye)(xs:List V):Prop:=
 Rd H a (.tup xs) \/
  ∃(o:Obj) (aA:Array XY) (n:Nat),K.lookup a=some o/\o.cls=.type "tuple"/\o.data=.seq aA n/\aA.size<=XU/\bw xs aA.toList
noncomputable def SJ:XY->Option V
 | .none=>some .non
 | .bool b=>some (.bl b)
 | .int i _=>some (.int i)
 | .str x _=>some (.str x)
 | .bytes b _=>some (.byt b)
 | .float b _=>some (.flt b)
 | .ref a=>some (.ref a)
 | .type n=>some (.ty n)
 |_=>none
theorem bX.abs {x:V}{u:XY}(r:bX x u):SJ u=some x:=by
 cases x with
 |non=>cases r;rfl
 |bl _=>cases r;rfl
 |int _=>obtain⟨t,rfl⟩:=r;rfl
 |str _=>obtain⟨t,rfl⟩:=r;rfl
 |byt _=>obtain⟨t,rfl⟩:=r;rfl
 |flt _=>obtain⟨t,rfl⟩:=r;rfl
 |ref _=>cases r;rfl
 |ty _=>cases r;rfl
def bX.inj {x:V}{u:XY}(r:bX x u)(q:bX y u):x=y:=Yl (r.abs.symm.trans q.abs)
theorem bw.inj:∀{xs ys:List V} {us:List XY},bw xs us->bw ys us->xs=ys
 |_,_,_,.nil,.nil=>rfl
 |_,_,_,.cons r t,.cons r' t'=>by rw[r.inj r',bw.inj t t']
section
variable {ys:List V}
def fS.of (h:H a=some (.lst xs)):fS K H a xs:=.inl (.inl h)
def i6.of (h:H a=some (.tup xs)):i6 K H a xs:=.inl (.inl h)
theorem aP.list (I:aP X pins σ H s)(h:fS X.K H a xs):∃aA:List XY,bw xs aA/\PlainL s.heap a aA.toArray/\xs.length<=XU:=by
 rcases h with h|⟨o,aA,n,hk,hc,hd,hs,hz,r⟩
 ·obtain⟨z,aA,n,r,e⟩:=h.ok I.hok;exact⟨aA,r,⟨_,n,e,rfl,rfl,rfl⟩,z⟩
 ·refine⟨aA.toList,r,⟨o,n,I.kIn a o hk,hc,hd,by simp[*]⟩,?_⟩;have e:=r.length;grind
theorem aP.tuple (I:aP X pins σ H s)(h:i6 X.K H a xs):∃aA:List XY,bw xs aA/\IsTup s.heap a aA.toArray/\xs.length<=XU:=by
 rcases h with h|⟨o,aA,n,hk,hc,hs,hz,r⟩
 ·obtain⟨z,aA,r,p,_⟩:=h.ok I.hok;exact⟨aA,r,p,z⟩
 ·refine⟨aA.toList,r,⟨o,I.kIn a o hk,hc,n,by simp[*]⟩,?_⟩;have e:=r.length;simp only[X0] at e;lia
theorem aP.list_inj (I:aP X pins σ H s)(h:fS X.K H a xs)(h':fS X.K H a ys):xs=ys:=by
 obtain⟨aA,r,⟨o,n,e,_,_,d⟩,_⟩:=I.list h;obtain⟨its',r',⟨o',n',e',_,_,d'⟩,_⟩:=I.list h';rw[e] at e';cases e';rw[d] at d';injection d' with d1 _
 have:aA=its':=by lia
 subst this;exact r.inj r'
theorem aP.tuple_inj (I:aP X pins σ H s)(h:i6 X.K H a xs)(h':i6 X.K H a ys):xs=ys:=by
 obtain⟨aA,r,⟨o,e,_,n,d⟩,_⟩:=I.tuple h;obtain⟨its',r',⟨o',e',_,n',d'⟩,_⟩:=I.tuple h';rw[e] at e';cases e';rw[d] at d';injection d' with d1 _
 have:aA=its':=by lia
 subst this;exact r.inj r'
end
noncomputable abbrev Cx.wish (X:Cx)(E:XY->Ya->Prop):Cx:={X with xe:=E}
noncomputable abbrev Cx.nox (X:Cx):Cx:=X.wish λ_ _=>False
def Cx.Ok.wish (ok:X.Ok)(E:XY->Ya->Prop):(X.wish E).Ok:=
 ⟨ok.mod,ok.kind,ok.glob,ok.blt,ok.above,ok.inj,ok.has,ok.cab,ok.hd,ok.frames,ok.stk,ok.exf,ok.bs,ok.bsz,ok.noex,ok.exfs,ok.funs,ok.frf⟩
def Cx.Ok.unwish (ok:(X.wish E).Ok):X.Ok:=
 ⟨ok.mod,ok.kind,ok.glob,ok.blt,ok.above,ok.inj,ok.has,ok.cab,ok.hd,ok.frames,ok.stk,ok.exf,ok.bs,ok.bsz,ok.noex,ok.exfs,ok.funs,ok.frf⟩
def aP.wish (I:aP X pins σ H s)(E:XY->Ya->Prop):aP (X.wish E) pins σ H s:=⟨I.ok.wish E,I.os,I.bare,I.base,I.loc,I.cell,I.free,I.freeC,I.pin,I.hok,I.len⟩
def aP.unwish (I:aP (X.wish E) pins σ H s):aP X pins σ H s:=⟨I.ok.unwish,I.os,I.bare,I.base,I.loc,I.cell,I.free,I.freeC,I.pin,I.hok,I.len⟩
theorem SP.unwish {D:oh}{f:Flow}{s':Ya}(h:SP (X.wish E) pins D f s'):SP X pins D f s':=by
 cases f with
 |next=>obtain⟨σ',H',I,q⟩:=h;exact⟨σ',H',I.unwish,q⟩
 |brk=>obtain⟨σ',H',I,q⟩:=h;exact⟨σ',H',I.unwish,q⟩
 |cont=>obtain⟨σ',H',I,q⟩:=h;exact⟨σ',H',I.unwish,q⟩
 |ret u=>obtain⟨v,σ',H',I,r,q⟩:=h;exact⟨v,σ',H',I.unwish,r,q⟩
def sU.nox {st:List ab7}{t:TS}(h:sU X.nox st t):sU X st t:=λpins s σ H D I hw=>
 Zc (h pins s σ H D (I.wish _) hw) (λ_ _ q=>q.unwish) λ_ _ z=>Zy z
section
variable {rest:List ab7}{t u:TS}{e:aaj}{pos:Pos}
def PX:TS:=λD σ H=>D.nx σ H
def SK (t u:TS):TS:=λD σ H=>t {D with nx:=u D} σ H
def oj:sU X [] PX:=λ_ _ σ H _ I h=>abV ⟨σ,H,I,h⟩
theorem fT (h1:PS X st t)(h2:sU X rest u):sU X (st::rest) (SK t u):=by
 intro pins s σ H D I h;refine wpAny_execs_cons (fj (h1 pins s σ H {D with nx:=u D} I h) λf s1 q=>?_);cases f with
 |next=>
  obtain⟨σ',H',I',q⟩:=q;exact h2 pins s1 σ' H' D I' q
 |ret v=>exact q
 |brk=>exact q
 |cont=>exact q
theorem fU (h1:PS X st t):sU X [st] t:=by
 intro pins s σ H D I h;refine wpAny_execs_cons (fj (h1 pins s σ H D I h) λf s1 q=>?_);grind[abV,ret]
def aP.quiet (I:aP X pins σ H s):interactive X.env=false:=by simp[interactive,I.ok.kind]
def PY (te:TE):TS:=λD σ H=>te σ H λ_ H1=>D.nx σ H1
def Jo (he:PE X e te)(hs:acw e none pos.line X.env=pure false:=by rfl):PS X (.Expr e pos) (PY te):=by
 intro pins s σ H D I h;exact wpAny_Expr_any (fj (he pins s σ H _ I h) λv s1 ⟨x,H1,I1,r1,q1⟩=>⟨σ,H1,I1,q1⟩) I.quiet hs
def SM (te:TE):TS:=λD σ H=>te σ H D.rt
def i7 (he:PE X e te):PS X (.Return (some e) pos) (SM te):=by
 intro pins s σ H D I h;exact wpAny_Return_some (fj (he pins s σ H _ I h) λv s1 ⟨x,H1,I1,r1,q1⟩=>⟨x,σ,H1,I1,r1,q1⟩)
def SN (c:TT)(t u:TS):TS:=λD σ H=>c σ H λb H1=>if b=true then t D σ H1 else u D σ H1
theorem yG {a b:List ab7}{tc:TT}(hc:PT X c tc)(ha:sU X a t)(hb:sU X b u):PS X (.If c a b pos) (SN tc t u):=by
 intro pins s σ H D I h;refine wpAny_If (fj (hc pins s σ H _ I h) λd s1 ⟨H1,I1,q1⟩=>?_);cases d with
 |true=>exact ha pins s1 σ H1 D I1 q1
 |false=>exact hb pins s1 σ H1 D I1 q1
end
abbrev TG:=V->St->Hp->(St->Hp->Prop)->Prop
abbrev Jp:=List V->St->Hp->(St->Hp->Prop)->Prop
def PG (X:Cx)(qs:aaj)(t:TG):Prop:=
 ∀(pins:List (Ye×Obj)) (s:Ya) (σ:St) (H:Hp) (v:V) (u:XY) (Q:St->Hp->Prop),aP X pins σ H s->bX v u->t v σ H Q->
  Yg (Yw X.prog X.w) X.A (assign qs X.env u) (λ_ s'=>∃σ' H',aP X pins σ' H' s'/\Q σ' H') X.xe s
def Lr (X:Cx)(ts:List aaj)(t:Jp):Prop:=
 ∀(pins:List (Ye×Obj)) (s:Ya) (σ:St) (H:Hp) (vs:List V) (us:List XY) (Q:St->Hp->Prop),aP X pins σ H s->bw vs us->t vs σ H Q->
  Yg (Yw X.prog X.w) X.A (assignInOrder ((aa1 ts X.env).map (·.2)) us) (λ_ s'=>∃σ' H',aP X pins σ' H' s'/\Q σ' H') X.xe s
abbrev Ng:=V->V->V->Hp->(Hp->Prop)->Prop
def PZ (X:Cx)(t:Ng):Prop:=
 ∀(pins:List (Ye×Obj)) (s:Ya) (σ:St) (H:Hp) (o i v:V) (ov iv u:XY) (Q:Hp->Prop),aP X pins σ H s->bX o ov->bX i iv->bX v u->t o i v H Q->
  Yg (Yw X.prog X.w) X.A (setItem ov iv u) (λ_ s'=>∃H',aP X pins σ H' s'/\Q H') X.xe s
section
variable {pos:Pos}
def yH (i:Nat):TG:=λv σ H Q=>Q (σ.set i (some v)) H
def Jq (hN:X.N.Nodup)(hi:X.N[i]? = some x)(hx:E2 X.env.scope x)(hf:X.fn x=true\/X.env.scope.names.lookup x=some .local:=by first|exact .inl rfl|exact .inr rfl|assumption):PG X (.Name x pos) (yH i):=by
 intro pins s σ H v u Q I r h;exact wpAny_assign_Name (sT I hN hi hx r (λs' I'=>⟨_,H,I',h⟩) hf)
def SO:Jp:=λvs σ H Q=>vs=[]/\Q σ H
def P0 (t:TG)(u:Jp):Jp:=λvs σ H Q=>∃v r,vs=v::r/\t v σ H λσ' H'=>u r σ' H' Q
theorem Jr:Lr X [] SO:=by
 intro pins s σ H vs us Q I r h;obtain⟨e,h⟩:=h;subst e;cases r;exact assignInOrder_nil ⟨σ,H,I,h⟩
theorem E4 {e:aaj}{es:List aaj}{t:TG}{u:Jp}(h1:PG X e t)(h2:Lr X es u)
  (hs:(aa1 (e::es) X.env).map (·.2)=assign e X.env::(aa1 es X.env).map (·.2):=by rfl):Lr X (e::es) (P0 t u):=by
 intro pins s σ H vs us Q I r h;obtain⟨v,vr,e1,h⟩:=h;subst e1;cases r with
 |cons r rr=>
  rw[hs];refine assignInOrder_cons (fj (h1 pins s σ H _ _ _ I r h) λ_ s1 ⟨σ1,H1,I1,q1⟩=>?_);exact h2 pins s1 σ1 H1 _ _ Q I1 rr q1
def SQ (K:XX)(n:Nat)(t:Jp):TG:=λv σ H Q=>∃a xs,v=.ref a/\i6 K H a xs/\xs.length=n/\t xs σ H Q
theorem Nh {es:List aaj}{t:Jp}(hc:X.calm=true)(h:Lr X es t)(hn:(aa1 es X.env).length=n:=by rfl)(g_:(aa1 es X.env).findIdx? (·.1)=none:=by rfl):PG X (.Tuple es k pos) (SQ X.K n t):=by
 intro pins s σ H v u Q I r hw;obtain⟨a,xs,e1,hq,hl,hw⟩:=hw;subst e1;cases r;obtain⟨aA,rv,ht,hz⟩:=I.tuple hq;refine assign_Tuple_tuple (I.ok.hd hc) ht (by simp[hn,←hl,rv.length]) g_ λh' hx=>?_;have I1:aP X pins σ H {s with heap:=h'}:=I.kept (t':=s.toks) λb o e=>hx b o (Ym (X_ e)) e;exact h pins _ σ H xs _ Q I1 (by lia) hw
def SS (to ti:TE)(t:Ng):TG:=λv σ H Q=>to σ H λo H1=>ti σ H1 λi H2=>t o i v H2 λH3=>Q σ H3
def Ni {o i:aaj}{to ti:TE}{t:Ng}(ho:PE X o to)(hi:PE X i ti)(hs:PZ X t)
  (ha:∀v,assign (.Subscript o i pos) X.env v=(do
   let ov ←adk [v] (abh o X.env)
   let iv ←adk [v,ov] (abh i X.env)
   standAt pos
   adk [v,ov,iv] (setItem ov iv v)
   release [v,ov,iv] []):=by intro _;rfl):PG X (.Subscript o i pos) (SS to ti t):=by
 intro pins s σ H v u Q I r h;rw[ha];refine XM (Y4 (fj (ho pins s σ H _ I h) λov s1 ⟨x,H1,I1,r1,q1⟩=>?_));refine XM (Y4 (fj (hi pins s1 σ H1 _ I1 q1) λiv s2 ⟨y,H2,I2,r2,q2⟩=>?_));refine XM (wpAny_standAt (XM (Y4 (fj (hs pins s2 σ H2 x y v ov iv u _ I2 r1 r2 r q2) λ_ s3 ⟨H3,I3,q3⟩=>?_))));exact wpAny_release ⟨σ,H3,I3,q3⟩
def E5 (te:TE)(g:TG):TS:=λD σ H=>te σ H λx H1=>g x σ H1 D.nx
def E6 {e:aaj}{g:TG}(he:PE X e te)(hg:PG X tg g)(hs:swapsWithSole [tg] e pos.line X.env=pure false:=by rfl)(hw:swappedStores [tg] e X.env=pure none:=by rfl)(h1:(aa1 [tg] X.env).map (·.2)=[assign tg X.env]:=by rfl):PS X (.Assign [tg] e pos) (E5 te g):=by
 intro pins s σ H D I h;refine wpAny_Assign_stores (fj (he pins s σ H _ I h) λv s1 ⟨x,H1,I1,r1,q1⟩=>?_) hs hw;rw[h1];exact fj (hg pins s1 σ H1 x v _ I1 r1 q1) λ_ s2 q=>q
def nk {e:aaj}{pM:Pos}(hN:X.N.Nodup)(hi:X.N[i]? = some x)(hx:E2 X.env.scope x)(he:PE X e te)(hs:acw e (some (.Name x pM)) pos.line X.env=pure false:=by rfl)(hf:X.fn x=true\/X.env.scope.names.lookup x=some .local:=by first|exact .inl rfl|exact .inr rfl|assumption) :
  PS X (.Assign [.Name x pM] e pos) (E5 te (yH i)):=by
 intro pins s σ H D I h;refine wpAny_Assign_Name (fj (he pins s σ H _ I h) λv s1 ⟨y,H1,I1,r1,q1⟩=>?_) hs;exact sT I1 hN hi hx r1 (λs2 I2=>⟨_,H1,I2,q1⟩) hf
end
section
variable {pos:Pos}
def Nj (c:TT)(tb:TS):TS:=λD σ H=>∃W:Nat->St->Hp->Prop,(∃m,W m σ H)/\∀m σ H,W m σ H->
 c σ H λb H1=>if b=true then ∃N:St->Hp->Prop,(∀σ' H',N σ' H'->∃m',m'<m/\W m' σ' H')/\tb {D with nx:=N,ct:=N,bk:=D.nx} σ H1 else D.nx σ H1
theorem E7 {tc:TT}(hp:adL (Yw X.prog X.w) X.A X.env X.xe)(hc:PT X c tc)(hb:sU X body tb):PS X (.While c body [] pos) (Nj tc tb):=by
 intro pins s σ H D I h;obtain⟨W,⟨m0,w0⟩,turn⟩:=h;refine wpAny_While (codeAny_whileLoop (λn s'=>∃σ' H',aP X pins σ' H' s'/\W n σ' H') ?_ m0 ⟨σ,H,I,w0⟩);rintro n s1 ⟨σ1,H1,I1,w1⟩;refine aa2 hp (fj (hc pins s1 σ1 H1 _ I1 (turn n σ1 H1 w1)) λb s2 ⟨H2,I2,q2⟩=>?_);cases b with
 |true=>
  obtain⟨N,hN,q2⟩:=q2;rw[hZ rfl];refine aa2 hp (fj (hb pins s2 σ1 H2 _ I2 q2) λf s3 q3=>?_);cases f with
  |next=>
   obtain⟨σ3,H3,I3,n3⟩:=q3;obtain⟨m',hm,w3⟩:=hN σ3 H3 n3;exact⟨m',hm,σ3,H3,I3,w3⟩
  |cont=>
   obtain⟨σ3,H3,I3,n3⟩:=q3;obtain⟨m',hm,w3⟩:=hN σ3 H3 n3;exact⟨m',hm,σ3,H3,I3,w3⟩
  |brk=>exact q3
  |ret v=>exact q3
 |false=>
  rw[hV XR];exact abV ⟨σ1,H2,I2,q2⟩
end
structure It where
 go:Nat->Hp->Prop
 yld:Nat->Hp->V->Hp->Prop
 stop:Nat->Hp->Prop
def rL (X:Cx)(pins:List (Ye×Obj))(H:Hp)(b:Ye):Prop:=
 H b=none/\b≠X.env.locals/\b∉X.fs/\(b∈X.ex\/X.s₀.heap.objs.size<=b)/\(∀x c,X.env.cells.lookup x=some c->c≠b)/\∀p∈X.pn++pins,p.1≠b
theorem aP.fpOk {b:Ye}(I:aP X pins σ H s)(hb:s.heap.objs.size<=b)(hn:H' b=none):rL X pins H' b:=by
 refine⟨hn,Y2 (YE I.lt hb),I.nofs hb,.inr (YX I.sz hb),λx c e z=>?_,λp hp z=>?_⟩
 ·obtain⟨v,q⟩:=I.cell x c e;exact absurd (YE q.lt (by rw[z];exact hb)) (ZJ _)
 ·exact absurd (YE (X_ (I.pin p hp).1) (by rw[z];exact hb)) (ZJ _)
structure DU (P:aaT)(w:Y6)(K:XX)(tg:aaj)(J:It)(fp:List Ye)(it:Ye)(tn:Nat->Z9->Prop):Prop where
 mem:it∈fp
 obj:∀i h,tn i h->∀b∈fp,∃o,h.get? b=some o/\∀v,o.data≠.cell v
 keep:∀i h h',tn i h->(∀b∈fp,∀o,h.get? b=some o->h'.get? b=some o)->tn i h'
 item:∀(X:Cx),X.prog=P->X.w=w->X.K=K->X.calm=true->∀(i:Nat) (pins:List (Ye×Obj)) (s:Ya) (σ:St) (H:Hp) (E:XY->Ya->Prop),aP X pins σ H s->(∀b∈fp,rL X pins H b)->tn i s.heap->J.go i H->
  Yg (Yw P w) X.A (ab9 (.ref it)) (λr s1=>∃u,r=some u/\
   Yg (Yw P w) X.A (acO tg (.ref it) u) (λ_ s2=>∃x H',aP X pins σ H' s2/\bX x u/\J.yld i H x H'/\tn (i+1) s2.heap/\∀b∈fp,H' b=none) E s1) E s
 done:∀(X:Cx),X.prog=P->X.w=w->X.K=K->X.calm=true->∀(i:Nat) (pins:List (Ye×Obj)) (s:Ya) (σ:St) (H:Hp) (E:XY->Ya->Prop),aP X pins σ H s->(∀b∈fp,rL X pins H b)->tn i s.heap->J.stop i H->
  Yg (Yw P w) X.A (ab9 (.ref it)) (λr s1=>r=none/\aP X pins σ H s1) E s
 self:∀(A:YG) (i:Nat) (s:Ya) (Q:XY->Ya->Prop) (E:XY->Ya->Prop),tn i s.heap->Q (.ref it) s->Yg (Yw P w) A (pyIter (.ref it)) Q E s
abbrev TI:=St->Hp->(It->Hp->Prop)->Prop
def UN (X:Cx)(pins:List (Ye×Obj))(σ:St)(tg:aaj)(R:It->Hp->Prop)(Si:XY)(s2:Ya):Prop:=
 ∃(it:Ye) (fp:List Ye) (tn:Nat->Z9->Prop) (J:It) (H':Hp),Si=.ref it/\aP X pins σ H' s2/\DU X.prog X.w X.K tg J fp it tn/\tn 0 s2.heap/\(∀b∈fp,rL X pins H' b)/\R J H'
def PI (X:Cx)(tg iter:aaj)(wi:TI):Prop:=
 ∀(pins:List (Ye×Obj)) (s:Ya) (σ:St) (H:Hp) (R:It->Hp->Prop),aP X pins σ H s->wi σ H R->
  Yg (Yw X.prog X.w) X.A (abh iter X.env) (λv s1=>Yg (Yw X.prog X.w) X.A (pyIter v) (UN X pins σ tg R) X.xe s1) X.xe s
theorem E8 {A:YG}{u:XY}{o:Obj}{n:String}{vs:Array XY}{Q:Unit->Ya->Prop}(ho:s.heap.get? it=some o)(hc:o.cls=.type n)(hd:o.data=.fields vs)(hn:["enumerate","zip","dict_itemiterator","dict_reverseitemiterator","odict_iterator","itertools.zip_longest","itertools.pairwise"].contains n=false)(hQ:Q () s):Yg M A (acO tg (.ref it) u) Q E s:=by
  unfold acO;cases tg<;>first
    |exact XS hQ
    | (cases u<;>first
        |exact XS hQ
        | (refine XM (ady ho ?_)
           rw[hc,hd];show Yg M A (if (["enumerate","zip","dict_itemiterator","dict_reverseitemiterator","odict_iterator","itertools.zip_longest","itertools.pairwise"].contains n&&vs[0]? == some (acx _))=true then _ else _) Q E s;rw[hV (by intro h;rw[hn,Bool.false_and] at h;cases h)];exact XS hQ))
noncomputable def RU (K:XX)(a:Ye):It:=
 ⟨λi H=>∃xs x,fS K H a xs/\xs[i]? = some x,λi H x H'=>H'=H/\∀xs,fS K H a xs->xs[i]? = some x,λi H=>∃xs,fS K H a xs/\xs.length<=i⟩
noncomputable def SU (K:XX)(a:Ye):It:=
 ⟨λi H=>∃xs x,i6 K H a xs/\xs[i]? = some x,λi H x H'=>H'=H/\∀xs,i6 K H a xs->xs[i]? = some x,λi H=>∃xs,i6 K H a xs/\xs.length<=i⟩
noncomputable def RV (lo:Int)(n:Nat):It:=⟨λi _=>i<n,λi H x H'=>H'=H/\x=.int (lo+i),λi _=>n<=i⟩
theorem DV {w:Y6}(a it:Ye):DU P w K tg (RU K a) [it] it (λi h=>h.IsListIter it a i) where
 mem:=by simp
 obj:=λi h st b hb=>by
  have e:b=it:=by grind
  subst e;obtain⟨o,e,c,d⟩:=st;grind
 keep:=λi h h' st k=>st.at λo e=>k it (by simp) o e
 item:=by
  intro X hP hw hK hc i pins s σ H E I hf st hg;subst hP hw hK;obtain⟨xs,x,hq,hx⟩:=hg;obtain⟨aA,rv,p,hz⟩:=I.list hq;obtain⟨u,hu,ru⟩:=rv.get hx;obtain⟨f0,f1,f2,f3,f4,f5⟩:=hf it (by simp);refine wpAny_pyNext_list_item st p.isList (x:=u) (by grind) λh' aZ sb=>?_;have I1:aP X pins σ H {s with heap:=h'}:=I.turned (t':=s.toks) (λb o hb e=>(sb.2 b hb).trans e) f0 f1 f3 f4 f5;obtain⟨o,e,c,d⟩:=id aZ;exact⟨u,rfl,E8 (s:={s with heap:=h'}) e c d (by decide) ⟨x,H,I1,ru,⟨rfl,λys hy=>by rw[I.list_inj hy hq];exact hx⟩,aZ,λb hb=>(hf b hb).1⟩⟩
 done:=by
  intro X hP hw hK hc i pins s σ H E I hf st hg;subst hP hw hK;obtain⟨xs,hq,hx⟩:=hg;obtain⟨aA,rv,p,hz⟩:=I.list hq;obtain⟨f0,f1,f2,f3,f4,f5⟩:=hf it (by simp);have hl:=rv.length;exact wpAny_pyNext_list_end (I.ok.hd hc) st p.isList (by simp;lia) λh' eb=>⟨rfl,I.turned (t':=s.toks) (λb o hb e=>eb b o hb e) f0 f1 f3 f4 f5⟩
 self:=λ_ _ _ _ _ st h=>wpAny_pyIter_listiter st h
theorem A8 {w:Y6}(a it:Ye):DU P w K tg (SU K a) [it] it (λi h=>h.IsTupleIter it a i) where
 mem:=by simp
 obj:=λi h st b hb=>by
  have e:b=it:=by grind
  subst e;obtain⟨o,e,c,d⟩:=st;grind
 keep:=λi h h' st k=>st.at λo e=>k it (by simp) o e
 item:=by
  intro X hP hw hK hc i pins s σ H E I hf st hg;subst hP hw hK;obtain⟨xs,x,hq,hx⟩:=hg;obtain⟨aA,rv,p,hz⟩:=I.tuple hq;obtain⟨u,hu,ru⟩:=rv.get hx;obtain⟨f0,f1,f2,f3,f4,f5⟩:=hf it (by simp);refine wpAny_pyNext_tuple_item st (show s.heap.IsTuple a aA.toArray from p) (x:=u) (by grind) λh' aZ sb=>?_;have I1:aP X pins σ H {s with heap:=h'}:=I.turned (t':=s.toks) (λb o hb e=>(sb.2 b hb).trans e) f0 f1 f3 f4 f5;obtain⟨o,e,c,d⟩:=id aZ;exact⟨u,rfl,E8 (s:={s with heap:=h'}) e c d (by decide) ⟨x,H,I1,ru,⟨rfl,λys hy=>by rw[I.tuple_inj hy hq];exact hx⟩,aZ,λb hb=>(hf b hb).1⟩⟩
 done:=by
  intro X hP hw hK hc i pins s σ H E I hf st hg;subst hP hw hK;obtain⟨xs,hq,hx⟩:=hg;obtain⟨aA,rv,p,hz⟩:=I.tuple hq;obtain⟨f0,f1,f2,f3,f4,f5⟩:=hf it (by simp);have hl:=rv.length;exact wpAny_pyNext_tuple_end (I.ok.hd hc) st (show s.heap.IsTuple a aA.toArray from p) (by simp;lia) λh' eb=>⟨rfl,I.turned (t':=s.toks) (λb o hb e=>eb b o hb e) f0 f1 f3 f4 f5⟩
 self:=λ_ _ _ _ _ st h=>wpAny_pyIter_tupleiter st h
theorem A9 {w:Y6}(it:Ye)(lo:Int)(n:Nat):DU P w K tg (RV lo n) [it] it (λi h=>IsRangeIter h it (lo+(i:Nat)*1) ((n:Int)-(i:Nat)) 1) where
 mem:=by simp
 obj:=λi h st b hb=>by
  grind
 keep:=λi h h' st k=>k it (by simp) _ st
 item:=by
  intro X hP hw hK hc i pins s σ H E I hf st hg;subst hP hw hK;obtain⟨f0,f1,f2,f3,f4,f5⟩:=hf it (by simp);have W:=Walks.range (prog:=X.prog) (w:=X.w) (I.ok.hd hc) it lo 1 n;refine W.item i s _ _ hg st λv h' tk hv aZ kk=>?_;obtain⟨t,rfl⟩:=hv;have I1:aP X pins σ H {s with heap:=h',toks:=tk}:=I.turned (λb o hb e=>kk b o (by grind) e) f0 f1 f3 f4 f5;refine⟨_,rfl,E8 (s:={s with heap:=h',toks:=tk}) (n:="range_iterator") aZ rfl rfl (by decide) ⟨.int (lo+i),H,I1,⟨t,?_⟩,⟨rfl,rfl⟩,aZ,λb hb=>(hf b hb).1⟩⟩;lia
 done:=by
  intro X hP hw hK hc i pins s σ H E I hf st hg;subst hP hw hK;obtain⟨f0,f1,f2,f3,f4,f5⟩:=hf it (by simp);exact wpAny_pyNext_range_end (I.ok.hd hc) st (by have:n<=i:=hg;lia) λh' eb=>⟨rfl,I.turned (t':=s.toks) (λb o hb e=>eb b o hb e) f0 f1 f3 f4 f5⟩
 self:=λ_ _ _ _ _ st h=>wpAny_pyIter_rangeiter st h
end L2
variable {wi:L2.TI}
namespace L2
def P2 (K:XX)(tl:TE):TI:=λσ H R=>tl σ H λx H1=>∃a,x=.ref a/\(∃xs,fS K H1 a xs)/\R (RU K a) H1
def SV (K:XX)(tl:TE):TI:=λσ H R=>tl σ H λx H1=>∃a,x=.ref a/\(∃xs,i6 K H1 a xs)/\R (SU K a) H1
theorem Js {l:aaj}{tl:TE}(hl:PE X l tl):PI X tg l (P2 X.K tl):=by
 intro pins s σ H R I h;refine fj (hl pins s σ H _ I h) λv s1 ⟨x,H1,I1,r1,q1⟩=>?_;obtain⟨a,e,⟨xs,hq⟩,q⟩:=q1;subst e;cases r1;obtain⟨aA,rv,p,hz⟩:=I1.list hq;refine acd p.isList ?_;refine⟨s1.heap.objs.size,[s1.heap.objs.size],_,_,H1,rfl,I1.kept (t':=s1.toks) λb o e=>XQ _ e,DV a _,⟨_,X8 _ rfl,rfl,rfl⟩,λb hb=>?_,q⟩;have e:b=s1.heap.objs.size:=by grind
 subst e;exact I1.fpOk (X6 _) (I1.hok.fresh (X6 _))
theorem Nk {l:aaj}{tl:TE}(hl:PE X l tl):PI X tg l (SV X.K tl):=by
 intro pins s σ H R I h;refine fj (hl pins s σ H _ I h) λv s1 ⟨x,H1,I1,r1,q1⟩=>?_;obtain⟨a,e,⟨xs,hq⟩,q⟩:=q1;subst e;cases r1;obtain⟨aA,rv,p,hz⟩:=I1.tuple hq;refine wpAny_pyIter_tuple (show s1.heap.IsTuple a aA.toArray from p) ?_;refine⟨s1.heap.objs.size,[s1.heap.objs.size],_,_,H1,rfl,I1.kept (t':=s1.toks) λb o e=>XQ _ e,A8 a _,⟨_,X8 _ rfl,rfl,rfl⟩,λb hb=>?_,q⟩;have e:b=s1.heap.objs.size:=by grind
 subst e;exact I1.fpOk (X6 _) (I1.hok.fresh (X6 _))
theorem E9 {R:It->Hp->Prop}{lo hi:Int}{t u v:Tok}{tk:Nat}(I:aP X pins σ H s)(h1 : -(2 ^ 62)<=lo)(h2:lo<2 ^ 62)(h3 : -(2 ^ 62)<=hi)(h4:hi<2 ^ 62)(q:R (RV lo (hi-lo).toNat) H):Yg (Yw X.prog X.w) X.A (pyIter (.ref s.heap.objs.size)) (UN X pins σ tg R) E {s with heap:=s.heap.push {cls:=.type "range",data:=.fields (List.toArray [.int lo t,.int hi u,.int 1 v])},toks:=tk}:=by
 refine wpAny_pyIter_range (IsRange.new ..) (small_one h1 h2 h3 h4) ?_;have I1:aP X pins σ H {s with heap:=s.heap.push {cls:=.type "range",data:=.fields (List.toArray [.int lo t,.int hi u,.int 1 v])},toks:=tk}:=I.kept λb o e=>XQ _ e;refine⟨(s.heap.push {cls:=.type "range",data:=.fields (List.toArray [.int lo t,.int hi u,.int 1 v])}).objs.size,[(s.heap.push {cls:=.type "range",data:=.fields (List.toArray [.int lo t,.int hi u,.int 1 v])}).objs.size],_,_,H,rfl,
  I1.kept (t':=tk) λb o e=>XQ _ e,A9 _ lo (hi-lo).toNat,?_,λb hb=>?_,q⟩
 ·have e1:lo+((0:Nat):Int)*1=lo:=by simp
  have e2:(((hi-lo).toNat:Nat):Int)-((0:Nat):Int)=abW lo hi 1:=by grind[rangeSize_one]
  show IsRangeIter _ _ (lo+((0:Nat):Int)*1) ((((hi-lo).toNat:Nat):Int)-((0:Nat):Int)) 1;rw[e1,e2];exact X8 _ rfl
 ·have e:b=(s.heap.push {cls:=.type "range",data:=.fields (List.toArray [.int lo t,.int hi u,.int 1 v])}).objs.size:=by grind
  subst e;exact I1.fpOk (X6 _) (I1.hok.fresh (X6 _))
def P4 (ta:TA):TI:=λσ H R=>ta σ H λvs H1=>∃j:Int,vs=[.int j]/\ -(2 ^ 62)<=j/\j<2 ^ 62/\R (RV 0 j.toNat) H1
theorem DX {a:aaj}{ta:TA}{p pos:Pos}(hg:Gl X "range")(hm:X.mg "range"=none)(ha:PA X [a] ta)(hs:X7 [a] X.env=[(false,abh a X.env)]:=by rfl):PI X tg (.Call (.Name "range" p) [a] [] pos) (P4 ta):=by
 intro pins s σ H R I h;refine Call_ (nj I hg hm boot_range (ZR (fj (ha pos pins s σ H _ I h) λus s1 ⟨vs,H1,I1,r1,q1⟩=>?_) hs rfl));obtain⟨j,e,q1,q2,q⟩:=q1;subst e;cases r1 with
 |cons r rr=>
  cases rr;obtain⟨t,rfl⟩:=r;exact call_range_1 (E9 I1 (by lia) (by lia) q1 q2 (by simpa using q))
def SW (wi:TI)(g:TG)(tb:TS):TS:=λD σ H=>wi σ H λJ H1=>∃W:Nat->Nat->St->Hp->Prop,(∃m,W 0 m σ H1)/\∀i m σ H,W i m σ H->
 (J.stop i H/\D.nx σ H)\/(J.go i H/\∃N:St->Hp->Prop,(∀σ' H',N σ' H'->∃m',m'<m/\W (i+1) m' σ' H')/\∀x H',J.yld i H x H'->g x σ H' λσ2 H2=>tb {D with nx:=N,ct:=N,bk:=D.nx} σ2 H2)
noncomputable def sV (fp:List Ye)(h:Z9):List (Ye×Obj):=fp.filterMap λb=>(h.get? b).map λo=>(b,o)
def kq {b:Ye}{o:Obj}(hb:b∈fp)(e:h.get? b=some o):(b,o)∈sV fp h:=abX.mpr ⟨b,hb,by rw[e];rfl⟩
theorem DY {p:Ye×Obj}(hp:p∈sV fp h):p.1∈fp/\h.get? p.1=some p.2:=by
 obtain⟨b,hb,e⟩:=abX.mp hp;cases q:h.get? b with
 |none=>grind
 |some o=>
  grind
theorem aP.pinned (I:aP X pins σ H s)(hf:∀b∈fp,rL X pins H b)(ho:∀b∈fp,∃o,s.heap.get? b=some o/\∀v,o.data≠.cell v):aP X (pins++sV fp s.heap) σ H s:=
 I.pins_of λp hp=>(Yk.mp hp).elim (λz=>I.pin p (Yz _ z)) λz=>by
  obtain⟨hb,e⟩:=DY z;obtain⟨f0,f1,f2,_⟩:=hf p.1 hb;grind
def aP.unpinned {pl:List (Ye×Obj)}(I:aP X (pins++pl) σ H s):aP X pins σ H s:=I.pins_of λp hp=>I.pin p (Yz _ (Zz _ hp))
theorem Nl {g:TG}{pos:Pos}(hp:adL (Yw X.prog X.w) X.A X.env X.xe)(hc:X.calm=true)(hi:PI X tg iter wi)(hg:PG X tg g)(hb:sU X body tb)(hs:∀x,ZO iter X.env x=pure x:=by intro _;rfl):PS X (.For tg iter body [] pos) (SW wi g tb):=by
 intro pins s σ H D I h;refine wpAny_For (fj (hi pins s σ H _ I h) λv s1 h1=>fj h1 λSi s2 h2=>?_) hs;obtain⟨it,fp,tn,J,H2,e,I2,T,mF,f2,W,⟨m0,w0⟩,turn⟩:=h2;subst e;have OY:∀{H':Hp},(∀b∈fp,H' b=none)->∀b∈fp,rL X pins H' b:=λhn b hb=>⟨hn b hb,(f2 b hb).2⟩;refine codeAny_forLoop_any (λn s'=>∃i σ' H',aP X pins σ' H' s'/\tn i s'.heap/\(∀b∈fp,H' b=none)/\W i n σ' H') ?_ m0 ⟨0,σ,H2,I2,mF,λb hb=>(f2 b hb).1,w0⟩;rintro n s3 ⟨i,σ3,H3,I3,Jj,fr3,w3⟩;rcases turn i n σ3 H3 w3 with⟨stop,qn⟩|⟨go,N,hN,step⟩
 ·refine aa2 hp (fj (T.done X rfl rfl rfl hc i pins s3 σ3 H3 X.xe I3 (OY fr3) Jj stop) λr s4 ⟨hr,I4⟩=>?_);subst hr;exact abV ⟨σ3,H3,I4,qn⟩
 ·refine aa2 hp (fj (T.item X rfl rfl rfl hc i pins s3 σ3 H3 X.xe I3 (OY fr3) Jj go) λr s4 ⟨u,hr,h4⟩=>?_);subst hr;refine aa2 hp (fj h4 λ_ s5 ⟨x,H5,I5,r5,y5,st5,fr5⟩=>?_);have T5:=I5.pinned (OY fr5) (T.obj _ _ st5);refine aa2 hp (fj (hg _ s5 σ3 H5 x u _ T5 r5 (step x H5 y5)) λ_ s6 ⟨σ6,H6,I6,q6⟩=>?_);refine aa2 hp (fj (hb _ s6 σ6 H6 _ I6 q6) λf s7 q7=>?_);have again:∀{σ7:St} {H7:Hp},aP X (pins++sV fp s5.heap) σ7 H7 s7->N σ7 H7->∃m,m<n/\∃i σ' H',aP X pins σ' H' s7/\tn i s7.heap/\(∀b∈fp,H' b=none)/\W i m σ' H':=λ{σ7 H7} I7 n7=>by
   obtain⟨m',hm,w7⟩:=hN σ7 H7 n7;refine⟨m',hm,i+1,σ7,H7,I7.unpinned,T.keep _ _ _ st5 λb hb o e=>(I7.pin (b,o) (Yz _ (Yz _ (kq hb e)))).1,λb hb=>?_,w7⟩;obtain⟨o,e,d⟩:=T.obj _ _ st5 b hb;exact (I7.pin (b,o) (Yz _ (Yz _ (kq hb e)))).2.1
  cases f with
  |next=>obtain⟨σ7,H7,I7,n7⟩:=q7;exact again I7 n7
  |cont=>obtain⟨σ7,H7,I7,n7⟩:=q7;exact again I7 n7
  |brk=>obtain⟨σ7,H7,I7,q7⟩:=q7;exact⟨σ7,H7,I7.unpinned,q7⟩
  |ret v=>obtain⟨x7,σ7,H7,I7,r7,q7⟩:=q7;exact⟨x7,σ7,H7,I7.unpinned,r7,q7⟩
end L2
namespace L2
abbrev R2:=V->V->Hp->VK->Prop
def l7 (X:Cx)(f:XY->XY->Sem XY)(r:R2):Prop:=
 ∀(pins:List (Ye×Obj)) (s:Ya) (σ:St) (H:Hp) (x y:V) (v u:XY) (Q:VK),aP X pins σ H s->bX x v->bX y u->r x y H Q->
  Yg (Yw X.prog X.w) X.A (f v u) (EP X pins σ Q) X.xe s
def eO (X:Cx)(f:XY)(r:List V->Hp->VK->Prop):Prop:=
 ∀(pins:List (Ye×Obj)) (s:Ya) (σ:St) (H:Hp) (xs:List V) (us:List XY) (Q:VK),aP X pins σ H s->bw xs us->r xs H Q->
  Yg (Yw X.prog X.w) X.A (call f us) (EP X pins σ Q) X.xe s
def SX (X:Cx)(r:V->Hp->(Bool->Hp->Prop)->Prop):Prop:=
 ∀(pins:List (Ye×Obj)) (s:Ya) (σ:St) (H:Hp) (x:V) (v:XY) (Q:Bool->Hp->Prop),aP X pins σ H s->bX x v->r x H Q->
  Yg (Yw X.prog X.w) X.A (truthy v) (TP X pins σ Q) X.xe s
def P5 (r:R2)(ta tb:TE):TE:=λσ H Q=>ta σ H λx H1=>tb σ H1 λy H2=>r x y H2 Q
def rI (C:Int->Int->Prop)(g:Int->Int->V):R2:=λx y H Q=>∃i j,x=.int i/\y=.int j/\C i j/\Q (g i j) H
def DZ (g:Int->Int->V):R2:=λx y H Q=>∃i j,x=.int i/\y=.int j/\Q (g i j) H
section
variable {a b:aaj}{ta tb tc:TE}{pos:Pos}
theorem Nm (ha:PE X a ta)(hb:PE X b tb){R:V->V->Hp->Prop}(I:aP X pins σ H s)(h:ta σ H λx H1=>tb σ H1 λy H2=>R x y H2){f:XY->XY->Sem XY}(hf:∀v u s2 x y H2,aP X pins σ H2 s2->bX x v->bX y u->R x y H2->Yg (Yw X.prog X.w) X.A (f v u) Q X.xe s2) :
  Yg (Yw X.prog X.w) X.A (abh a X.env) (λv s₁=>Yg (Yw X.prog X.w) X.A (abh b X.env) (λu s₂=>Yg (Yw X.prog X.w) X.A (f v u) Q X.xe s₂) X.xe s₁) X.xe s:=by
 refine fj (ha pins s σ H _ I h) λv s1 ⟨x,H1,I1,r1,q1⟩=>?_;refine fj (hb pins s1 σ H1 _ I1 q1) λu s2 ⟨y,H2,I2,r2,q2⟩=>?_;grind
def Cc {op:Operator}{r:R2}(ho:l7 X (abi op) r)(ha:PE X a ta)(hb:PE X b tb):PE X (.BinOp a op b pos) (P5 r ta tb):=by
 intro pins s σ H Q I h;exact wpAny_BinOp (Nm ha hb I h λv u s2 x y H2 I2 rx ry q=>ho pins s2 σ H2 x y v u Q I2 rx ry q)
theorem RW {f:XY->XY->Sem XY}{C:Int->Int->Prop}{g:Int->Int->Int}
  (rule:∀(i j:Int) (t u:Tok) (s:Ya) (Q:XY->Ya->Prop) (E:XY->Ya->Prop),C i j->Q (.int (g i j) s.toks) {s with toks:=s.toks+1}->Yg (Yw X.prog X.w) X.A (f (.int i t) (.int j u)) Q E s) :
  l7 X f (rI C λi j=>.int (g i j)):=by
 intro pins s σ H x y v u Q I rx ry h;obtain⟨i,j,rfl,rfl,hc,q⟩:=h;obtain⟨t,rfl⟩:=rx;obtain⟨t',rfl⟩:=ry;exact rule i j t t' s _ _ hc ⟨.int (g i j),H,I.tok _,⟨_,rfl⟩,q⟩
theorem P6 {f:XY->XY->Sem XY}{g:Int->Int->Int}
  (rule:∀(i j:Int) (t u:Tok) (s:Ya) (Q:XY->Ya->Prop) (E:XY->Ya->Prop),Q (.int (g i j) s.toks) {s with toks:=s.toks+1}->Yg (Yw X.prog X.w) X.A (f (.int i t) (.int j u)) Q E s) :
  l7 X f (DZ λi j=>.int (g i j)):=by
 intro pins s σ H x y v u Q I rx ry h;obtain⟨i,j,rfl,rfl,q⟩:=h;obtain⟨t,rfl⟩:=rx;obtain⟨t',rfl⟩:=ry;exact rule i j t t' s _ _ ⟨.int (g i j),H,I.tok _,⟨_,rfl⟩,q⟩
theorem Nn {f:XY->XY->Sem XY}{g:Int->Int->Bool}
  (rule:∀(i j:Int) (t u:Tok) (s:Ya) (Q:XY->Ya->Prop) (E:XY->Ya->Prop),Q (.bool (g i j)) s->Yg (Yw X.prog X.w) X.A (f (.int i t) (.int j u)) Q E s) :
  l7 X f (DZ λi j=>.bl (g i j)):=by
 intro pins s σ H x y v u Q I rx ry h;obtain⟨i,j,rfl,rfl,q⟩:=h;obtain⟨t,rfl⟩:=rx;obtain⟨t',rfl⟩:=ry;exact rule i j t t' s _ _ ⟨.bl (g i j),H,I,rfl,q⟩
def P7 (i j:Int):Prop:=0<=j/\j<=1000000/\i.natAbs<2 ^ 64
def Jt (i j:Int):Prop:=(-(2 ^ 64)<i/\i<2 ^ 64)\/(-(2 ^ 64)<j/\j<2 ^ 64)
theorem Jt.ok {i j:Int}(h:Jt i j):IntMulOk i j:=by
 rcases h with⟨h1,h2⟩|⟨h1,h2⟩
 ·exact .of_left (intBits_le_64 h1 h2)
 ·exact .of_right (intBits_le_64 h1 h2)
def Np:l7 X (abi .Add) (DZ λi j=>.int (i+j)):=P6 λ_ _ _ _ _ _ _ q=>add_int q
def pS:l7 X (abi .Sub) (DZ λi j=>.int (i-j)):=P6 λ_ _ _ _ _ _ _ q=>sub_int q
def kY:l7 X (abi .Mult) (rI Jt λi j=>.int (i*j)):=RW λ_ _ _ _ _ _ _ hc q=>mul_int q hc.ok
theorem pT:l7 X (abi .Mod) (rI (λ_ j=>0<j) λi j=>.int (i % j)):=RW λi j _ _ _ _ _ hc q=>by
 grind[mod_int',Int.fmod_eq_emod_of_nonneg]
def E_:l7 X (abi .Pow) (rI P7 λi j=>.int (i ^ j.toNat)):=RW λ_ _ _ _ _ _ _ hc q=>pow_int_small hc.1 hc.2.1 hc.2.2 q
end
noncomputable def P8:V->V->Bool
 | .non,.non=>true|.non,.int _=>true|.int _,.non=>true|.non,.bl _=>true|.bl _,.non=>true|.non,.str _=>true|.str _,.non=>true
 | .int _,.int _=>true|.bl _,.bl _=>true|.str _,.str _=>true|.byt _,.byt _=>true
 | .int _,.str _=>true|.str _,.int _=>true|.bl _,.str _=>true|.str _,.bl _=>true
 |_,_=>false
def UO:R2:=λx y H Q=>P8 x y=true/\Q (.bl (decide (x=y))) H
def UP:R2:=λx y H Q=>P8 x y=true/\Q (.bl (!decide (x=y))) H
def sv {i j:Int}:decide (V.int i=V.int j)=(i==j):=by
 rw[Z_];simp
def wZ {i j:Bool}:decide (V.bl i=V.bl j)=(i==j):=by
 rw[Z_];simp
def sC {i j:Str}:decide (V.str i=V.str j)=(i==j):=by
 rw[Z_];simp
def Cd {i j:Array UInt8}:decide (V.byt i=V.byt j)=(i.toList==j.toList):=by
 rw[Z_];simp
section
variable {a b:aaj}{ta tb tc:TE}{pos:Pos}
theorem bW {Q:VK}{k k':Bool}(I:aP X pins σ H s)(q:Q (.bl k) H)(e:k=k'):EP X pins σ Q (.bool k') s:=by
 subst e;exact⟨.bl k,H,I,rfl,q⟩
theorem cE:l7 X (aaz .Eq) UO:=by
 intro pins s σ H x y v u Q I rx ry h;obtain⟨hs,q⟩:=h;cases x with
 |non=>
  cases rx;cases y with
  |non=>cases ry;exact PySem.EqNone.eq_none_none (bW I q (by simp))
  |bl j=>cases ry;exact PySem.EqNone.eq_none_bool (bW I q (by simp))
  |int j=>obtain⟨t',rfl⟩:=ry;exact PySem.EqNone.eq_none_int (bW I q (by simp))
  |str j=>obtain⟨t',rfl⟩:=ry;exact PySem.EqNone.eq_none_str (bW I q (by simp))
  |_=>exact absurd (show false=true from hs) XR
 |bl i=>
  cases rx;cases y with
  |non=>cases ry;exact PySem.EqNone.eq_bool_none (bW I q (by simp))
  |bl j=>cases ry;exact eq_bool (bW I q wZ)
  |str j=>obtain⟨t',rfl⟩:=ry;exact PySem.EqMixed.eq_bool_str (bW I q (by simp))
  |_=>exact absurd (show false=true from hs) XR
 |int i=>
  obtain⟨t,rfl⟩:=rx;cases y with
  |non=>cases ry;exact PySem.EqNone.eq_int_none (bW I q (by simp))
  |int j=>obtain⟨t',rfl⟩:=ry;exact eq_int (bW I q sv)
  |str j=>obtain⟨t',rfl⟩:=ry;exact PySem.EqMixed.eq_int_str (bW I q (by simp))
  |_=>exact absurd (show false=true from hs) XR
 |str i=>
  obtain⟨t,rfl⟩:=rx;cases y with
  |non=>cases ry;exact PySem.EqNone.eq_str_none (bW I q (by simp))
  |bl j=>cases ry;exact PySem.EqMixed.eq_str_bool (bW I q (by simp))
  |int j=>obtain⟨t',rfl⟩:=ry;exact PySem.EqMixed.eq_str_int (bW I q (by simp))
  |str j=>obtain⟨t',rfl⟩:=ry;exact eq_str (bW I q sC)
  |_=>exact absurd (show false=true from hs) XR
 |byt i=>
  obtain⟨t,rfl⟩:=rx;cases y with
  |byt j=>obtain⟨t',rfl⟩:=ry;exact PySem.W.eq_bytes (bW I q Cd)
  |_=>exact absurd (show false=true from hs) XR
 |_=>cases y<;>exact absurd (show false=true from hs) XR
theorem yI:l7 X (aaz .NotEq) UP:=by
 intro pins s σ H x y v u Q I rx ry h;obtain⟨hs,q⟩:=h;cases x with
 |non=>
  cases rx;cases y with
  |non=>cases ry;exact PySem.EqNone.ne_none_none (bW I q (by simp))
  |bl j=>cases ry;exact PySem.EqNone.ne_none_bool (bW I q (by simp))
  |int j=>obtain⟨t',rfl⟩:=ry;exact PySem.EqNone.ne_none_int (bW I q (by simp))
  |str j=>obtain⟨t',rfl⟩:=ry;exact PySem.EqNone.ne_none_str (bW I q (by simp))
  |_=>exact absurd (show false=true from hs) XR
 |bl i=>
  cases rx;cases y with
  |non=>cases ry;exact PySem.EqNone.ne_bool_none (bW I q (by simp))
  |bl j=>cases ry;exact ne_bool (bW I q (congrArg not wZ))
  |str j=>obtain⟨t',rfl⟩:=ry;exact PySem.EqMixed.ne_bool_str (bW I q (by simp))
  |_=>exact absurd (show false=true from hs) XR
 |int i=>
  obtain⟨t,rfl⟩:=rx;cases y with
  |non=>cases ry;exact PySem.EqNone.ne_int_none (bW I q (by simp))
  |int j=>obtain⟨t',rfl⟩:=ry;exact ne_int (bW I q (congrArg not sv))
  |str j=>obtain⟨t',rfl⟩:=ry;exact PySem.EqMixed.ne_int_str (bW I q (by simp))
  |_=>exact absurd (show false=true from hs) XR
 |str i=>
  obtain⟨t,rfl⟩:=rx;cases y with
  |non=>cases ry;exact PySem.EqNone.ne_str_none (bW I q (by simp))
  |bl j=>cases ry;exact PySem.EqMixed.ne_str_bool (bW I q (by simp))
  |int j=>obtain⟨t',rfl⟩:=ry;exact PySem.EqMixed.ne_str_int (bW I q (by simp))
  |str j=>obtain⟨t',rfl⟩:=ry;exact ne_str (bW I q (congrArg not sC))
  |_=>exact absurd (show false=true from hs) XR
 |byt i=>
  obtain⟨t,rfl⟩:=rx;cases y with
  |byt j=>obtain⟨t',rfl⟩:=ry;exact PySem.W.ne_bytes (bW I q (congrArg not Cd))
  |_=>exact absurd (show false=true from hs) XR
 |_=>cases y<;>exact absurd (show false=true from hs) XR
def sW:l7 X (aaz .Lt) (DZ λi j=>.bl (decide (i<j))):=Nn λ_ _ _ _ _ _ _ q=>lt_int q
def sX:l7 X (aaz .Gt) (DZ λi j=>.bl (decide (j<i))):=Nn λ_ _ _ _ _ _ _ q=>gt_int q
def P9:l7 X (aaz .GtE) (DZ λi j=>.bl (decide (j<=i))):=Nn λ_ _ _ _ _ _ _ q=>ge_int q
theorem Fb:l7 X (aaz .Is) (λx y H Q=>y=.non/\Q (.bl (decide (x=.non))) H):=by
 intro pins s σ H x y v u Q I rx ry h;obtain⟨rfl,q⟩:=h;cases ry;refine is_none_gen (bW I q ?_);cases x<;>first
  | (cases rx;rfl)
  | (obtain⟨t,rfl⟩:=rx;rfl)
theorem l7.or {f:XY->XY->Sem XY}{r r':R2}(h:l7 X f r)(h':l7 X f r'):l7 X f (λx y H Q=>r x y H Q\/r' x y H Q):=by
 intro pins s σ H x y v u Q I rx ry q;rcases q with q|q
 ·exact h pins s σ H x y v u Q I rx ry q
 ·exact h' pins s σ H x y v u Q I rx ry q
theorem aM (b:aaj)(h:op≠.In:=by decide)(h2:op≠.NotIn:=by decide):abt op b=false:=by
 have e1:(op==CmpOp.In)=false:=by lia
 have e2:(op==CmpOp.NotIn)=false:=by lia
 cases b<;>simp[abt,e1,e2]
def Ju {r:R2}(ho:l7 X (aaz op) r)(ha:PE X a ta)(hb:PE X b tb)(hm:abt op b=false):PE X (.Compare a [op] [b] pos) (P5 r ta tb):=by
 intro pins s σ H Q I h;exact wpAny_Compare1 (Nm ha hb I h λv u s2 x y H2 I2 rx ry q=>ho pins s2 σ H2 x y v u Q I2 rx ry q) hm
def P_ (t:TE):TT:=λσ H Q=>t σ H λx H'=>∃k,x=.bl k/\Q k H'
theorem w6 {r:R2}(ho:l7 X (aaz op) r)(ha:PE X a ta)(hb:PE X b tb)(hm:abt op b=false):PT X (.Compare a [op] [b] pos) (P_ (P5 r ta tb)):=by
 intro pins s σ H Q I h;refine wpAny_isTrue_Compare1 (fj (ha pins s σ H _ I h) λv s1 ⟨x,H1,I1,r1,q1⟩=>fj (hb pins s1 σ H1 _ I1 q1) λu s2 ⟨y,H2,I2,r2,q2⟩=>
  fj (ho pins s2 σ H2 x y v u _ I2 r1 r2 q2) λc s3 ⟨z,H3,I3,r3,k,e,q3⟩=>?_) hm
 subst e;cases r3;exact aav ⟨H3,I3,q3⟩
def SY (K:XX)(x:V)(H:Hp)(k:Bool):Prop:=
 match x with
 | .non=>k=false
 | .bl b=>k=b
 | .int i=>k=(i != 0)
 | .str y=>y.length<=XU/\k=((y.length:Int) != 0)
 | .byt y=>y.size<=XU/\k=((y.size:Int) != 0)
 | .ref p=>(∃xs,fS K H p xs/\k = !xs.isEmpty)\/(∃xs,i6 K H p xs/\k = !xs.isEmpty)\/∃ir,H p=some (.dK ir)/\k = !ir.isEmpty
 |_=>False
theorem A_ {κ:Type}{ir:List (κ×V)}{vs:List (κ×XY)}(r:KV ir vs):(!vs.isEmpty) = !ir.isEmpty:=by
 cases r<;>rfl
theorem sY (r:bw xs aA):(!aA.toArray.isEmpty) = !xs.isEmpty:=by
 cases r<;>simp
def pU:(XU:Nat)<2 ^ 63:=by rw[aaA];decide
theorem S0:SX X (λx H Q=>∃k,SY X.K x H k/\Q k H):=by
 intro pins s σ H x v Q I rx h;obtain⟨k,e,q⟩:=h;have hl:=pU;have hs:XU=16777216:=aaA;cases x with
 |non=>
  cases rx;have e':k=false:=e;subst e';exact truthy_none ⟨H,I,q⟩
 |bl b=>
  cases rx;have e':k=b:=e;subst e';exact aav ⟨H,I,q⟩
 |int i=>
  obtain⟨t,rfl⟩:=rx;have e':k=(i != 0):=e;subst e';exact PySem.P.truthy_int ⟨H,I,q⟩
 |str y=>
  obtain⟨t,rfl⟩:=rx;obtain⟨hy,e'⟩:y.length<=XU/\k=((y.length:Int) != 0):=e;subst e';exact PySem.P.truthy_str (by lia) ⟨H,I.tok _,q⟩
 |byt y=>
  obtain⟨t,rfl⟩:=rx;obtain⟨hy,e'⟩:y.size<=XU/\k=((y.size:Int) != 0):=e;subst e';exact PySem.W.truthy_bytes (by lia) ⟨H,I.tok _,q⟩
 |ref p=>
  cases rx;have e':(∃xs,fS X.K H p xs/\k = !xs.isEmpty)\/(∃xs,i6 X.K H p xs/\k = !xs.isEmpty)\/∃ir,H p=some (.dK ir)/\k = !ir.isEmpty:=e;rcases e' with⟨xs,hx,e'⟩|⟨xs,hx,e'⟩|⟨ir,hx,e'⟩
  ·subst e';obtain⟨aA,r,pl,hz⟩:=I.list hx;have du:=r.length;exact wpAny_truthy_list pl.isList (by grind) ⟨H,I.tok _,by rw[sY r];exact q⟩
  ·subst e';obtain⟨aA,r,pl,hz⟩:=I.tuple hx;have du:=r.length;exact truthy_tuple pl (by grind) ⟨H,I.tok _,by rw[sY r];exact q⟩
  ·subst e';obtain⟨hz,hS,vs,r,m⟩:ir.length<=XU/\(p==sysModules)=false/\∃vs,KV ir vs/\s.heap.DictOf (wX X.prog X.w) p vs:=I.hok p _ hx;have du:ir.length=vs.length:=Paired.length r;exact wpAny_truthy_dict hS m (by lia) ⟨H,I.tok _,by rw[A_ r];exact q⟩
 |_=>exact (show False from e).elim
theorem jF {x:V}{us:List XY}(r:bw [x] us):∃u,us=[u]/\bX x u:=by
 cases r with
 |cons r1 r2=>cases r2;lia
theorem vL {x:V}{us:List XY}(r:bw [x,y] us):∃u w',us=[u,w']/\bX x u/\bX y w':=by
 cases r with
 |cons r1 r2=>
  cases r2 with
  |cons r3 r4=>cases r4;lia
theorem D0 (hc:X.calm=true):eO X (.builtin "max") (λxs H Q=>∃i j,xs=[.int i,.int j]/\Q (.int (if j>i then j else i)) H):=by
 intro pins s σ H xs us Q I r h;obtain⟨i,j,rfl,q⟩:=h;obtain⟨u,w',rfl,⟨t,rfl⟩,⟨t',rfl⟩⟩:=vL r;refine max_two_ints (I.ok.hd hc) λh' tk k=>⟨_,H,I.kept k,?_,q⟩;by_cases hj:j>i
 ·rw[hZ hj,hZ hj];exact⟨_,rfl⟩
 ·rw[hV hj,hV hj];exact⟨_,rfl⟩
theorem vM (hc:X.calm=true):eO X (.builtin "min") (λxs H Q=>∃i j,xs=[.int i,.int j]/\Q (.int (if j<i then j else i)) H):=by
 intro pins s σ H xs us Q I r h;obtain⟨i,j,rfl,q⟩:=h;obtain⟨u,w',rfl,⟨t,rfl⟩,⟨t',rfl⟩⟩:=vL r;refine min_two_ints (I.ok.hd hc) λh' tk k=>⟨_,H,I.kept k,?_,q⟩;by_cases hj:j<i
 ·rw[hZ hj,hZ hj];exact⟨_,rfl⟩
 ·rw[hV hj,hV hj];exact⟨_,rfl⟩
theorem D1:eO X (.type "int") (λxs H Q=>(∃i,xs=[.int i]/\Q (.int i) H)\/∃k,xs=[.bl k]/\Q (.int (if k then 1 else 0)) H):=by
 intro pins s σ H xs us Q I r h;rcases h with⟨i,rfl,q⟩|⟨k,rfl,q⟩
 ·obtain⟨u,rfl,t,rfl⟩:=jF r;exact call_int_int ⟨.int i,H,I,⟨_,rfl⟩,q⟩
 ·obtain⟨u,rfl,r1⟩:=jF r;cases r1;exact call_int_bool ⟨.int (if k then 1 else 0),H,I.tok _,⟨_,rfl⟩,q⟩
def Qa (K:XX)(x:V)(H:Hp)(n:Nat):Prop:=
 match x with
 | .str y=>y.length<=XU/\n=y.length
 | .byt y=>y.size<=XU/\n=y.size
 | .ref p=>(∃xs,fS K H p xs/\n=xs.length)\/∃xs,i6 K H p xs/\n=xs.length
 |_=>False
theorem c7:eO X (.builtin "len") (λxs H Q=>∃x n,xs=[x]/\Qa X.K x H n/\Q (.int n) H):=by
 intro pins s σ H xs us Q I r h;obtain⟨x,n,rfl,e,q⟩:=h;obtain⟨u,rfl,rx⟩:=jF r;have hl:=pU;have hs:XU=16777216:=aaA;cases x with
 |str y=>
  obtain⟨t,rfl⟩:=rx;obtain⟨hy,e'⟩:y.length<=XU/\n=y.length:=e;subst e';exact len_str (by lia) ⟨.int _,H,I.tok _,⟨_,rfl⟩,q⟩
 |byt y=>
  obtain⟨t,rfl⟩:=rx;obtain⟨hy,e'⟩:y.size<=XU/\n=y.size:=e;subst e';exact PySem.W.len_bytes (by lia) ⟨.int _,H,I.tok _,⟨_,rfl⟩,q⟩
 |ref p=>
  cases rx;have e':(∃xs,fS X.K H p xs/\n=xs.length)\/∃xs,i6 X.K H p xs/\n=xs.length:=e;rcases e' with⟨xs,hx,e'⟩|⟨xs,hx,e'⟩
  ·subst e';obtain⟨aA,r',pl,hz⟩:=I.list hx;have du:=r'.length;exact Calls.call_len_list pl.isList (by simp only[XZ];lia) ⟨.int xs.length,H,I.tok _,⟨_,by simp only[XZ];rw[du]⟩,q⟩
  ·subst e';obtain⟨aA,r',pl,hz⟩:=I.tuple hx;have du:=r'.length;exact len_tuple pl (by simp only[XZ];lia) ⟨.int xs.length,H,I.tok _,⟨_,by simp only[XZ];rw[du]⟩,q⟩
 |_=>exact (show False from e).elim
end
end L2
variable {r:L2.R2}
namespace L2
structure Nq (h:Z9)(x dx C:Ye)(mA:Str->Option XY):Prop where
 obj:h.get? x=some (PySem.W.instObj C dx)
 ns:h.Ns1 dx mA
 ne:dx≠x
theorem D2 {dx:Ye}{mA:Str->Option XY}(n:h.Ns1 dx mA):∃od,h.get? dx=some od/\∀name,PySem.W.lookIn name od=some (mA name):=by
 obtain⟨o,es,ep,ho,hd,hk,_,hm⟩:=n;refine⟨o,ho,λname=>?_⟩;have e:=hm name;unfold nsFind findBy at e;rw[←Array.find?_toList] at e;unfold PySem.W.lookIn;rw[hd];dsimp only;split
 ·grind
 ·rename_i q;rw[q] at e;have a:es.toList.any (·.refKey)=false:=by
   rw[List.any_eq_false];intro y hy;obtain⟨z,t,Lm⟩:=hk y (Array.mem_toList_iff.mp hy);simp[DictEntry.refKey,Lm]
  grind
def Nq.look {x dx:Ye}{mA:Str->Option XY}(I:Nq h x dx C mA):∃od,PySem.W.InstAt h x (PySem.W.instObj C dx) C (some od)/\∀name,PySem.W.lookIn name od=some (mA name):=
 let ⟨od,ho,hl⟩:=D2 I.ns
 ⟨od,⟨I.obj,rfl,rfl,ho⟩,hl⟩
section
variable {w:Y6}{dx:Ye}{fs fs':List (Str×V)}
theorem Jv (hok:mR P w H h)(e:H a=some (.ins C dx fs)):∃mA,Nq h a dx C mA/\(∀f,M9 (fs.lookup f) (mA f))/\PySem.Within mA (fs.map (·.1))/\fs.length<=1000/\H dx=some (.own a):=by
 obtain⟨d,z,ne,ob,mA,n,r,q⟩:=(show cD P w H h a (.ins C dx fs) from hok a _ e);exact⟨mA,⟨ob,n,ne⟩,r,q,z,d⟩
end
structure S1 (K:XX)(C:Ye):Prop where
 pg:PySem.W.plainGet K C Str.empty=true
 hd:PySem.W.hasDictIn K C=true
 po:PySem.W.plainOver K C=true
 sa:ZQ K (.ref C) "__setattr__"=some (some (.builtin "object.__setattr__"))
def S1.get (c:S1 K C)(f:Str):PySem.W.plainGet K C f=true:=c.pg
structure Xu (K:XX)(C:Ye)(f:Str)(v:V)(u:XY):Prop where
 at_:ZQ K (.ref C) f=some (some u)
 rel:bX v u
 get:adz K u "__get__"=some none
 cp:PySem.W.copiedNames.contains f=false
structure VL (K:XX)(C:Ye)(m:Str)(f:Ye):Prop where
 at_:ZQ K (.ref C) m=some (some (.ref f))
 fn:PySem.W.isFn K (.ref f)=true
 kp:Zn K (.ref f)=true
section
variable {A:YG}{c:XY}
inductive pV (K:XX)(H:Hp):V->XY->Prop where
 |non:pV K H .non (.type "NoneType")
 |bl (x:Bool):pV K H (.bl x) (.type "bool")
 |int (i:Int):pV K H (.int i) (.type "int")
 |str (x:Str):pV K H (.str x) (.type "str")
 |flt (x:UInt64):pV K H (.flt x) (.type "float")
 |lst {a:Ye} {xs:List V} (e:H a=some (.lst xs)):pV K H (.ref a) (.type "list")
 |frz {a:Ye} {o:Obj} {xs:List V} (e:H a=some (.frz o (.lst xs))):pV K H (.ref a) (.type "list")
 |tup {a:Ye} {xs:List V} (e:H a=some (.tup xs)):pV K H (.ref a) (.type "tuple")
 |dK {a:Ye} {ir:List (vj×V)} (e:H a=some (.dK ir)):pV K H (.ref a) (.type "dict")
 |dT {a:Ye} {ir:List (List vj×V)} (e:H a=some (.dT ir)):pV K H (.ref a) (.type "dict")
 |ins {a C dx:Ye} {fs:List (Str×V)} (e:H a=some (.ins C dx fs)) (cl:S1 K C) (ha:ZQ K (.ref C) "__class__"=some (some (.builtin "object.__class__")))
   (hn:adz K (.builtin "object.__class__") "__get__"=some (some (.builtin "getset_descriptor.__get__"))) (htk:PySem.W.takesIn K (.builtin "object.__class__")=some true)
   (hm:acJ K C (.type "object")=some true):pV K H (.ref a) (.ref C)
theorem D3 {x:V}{u t:XY}(I:aP X pins σ H s)(rx:bX x u)(ty:pV X.K H x t)(e:Y1 X.K t c=some b)(h:∀tk,Q (.bool b) {s with toks:=tk}) :
  Yg (Yw X.prog X.w) A (call (.builtin "isinstance") [u,c]) Q E s:=by
 cases ty with
 |non=>cases (show u=Value.none from rx);exact Zt PySem.W.kitx_none I.kIn True.intro e (λz=>nomatch z) h
 |bl y=>cases (show u=Value.bool y from rx);exact Zt PySem.W.kitx_bool I.kIn True.intro e (λz=>nomatch z) h
 |int i=>obtain⟨t,q⟩:=(show ∃t,u=Value.int i t from rx);cases q;exact Zt PySem.W.kitx_int I.kIn True.intro e (λz=>nomatch z) h
 |str y=>obtain⟨t,q⟩:=(show ∃t,u=Value.str y t from rx);cases q;exact Zt PySem.W.kitx_str I.kIn True.intro e (λz=>nomatch z) h
 |flt y=>obtain⟨t,q⟩:=(show ∃t,u=Value.float y t from rx);cases q;exact Zt PySem.W.kitx_float I.kIn True.intro e (λz=>nomatch z) h
 | @lst a xs ea=>
  cases (show u=Value.ref a from rx);obtain⟨_,_,n,_,h1⟩:=(show cD X.prog X.w H s.heap a (.lst xs) from I.hok a _ ea);exact Zt ace I.kIn ⟨_,h1,rfl⟩ e (λz=>nomatch z) h
 | @frz a ob xs ea=>
  cases (show u=Value.ref a from rx);obtain⟨_,_,_,n,_,h1⟩:=(show cD X.prog X.w H s.heap a (.frz ob (.lst xs)) from I.hok a _ ea);exact Zt ace I.kIn ⟨_,h1,rfl⟩ e (λz=>nomatch z) h
 | @tup a xs ea=>
  cases (show u=Value.ref a from rx);obtain⟨_,_,_,p,_⟩:=(show cD X.prog X.w H s.heap a (.tup xs) from I.hok a _ ea);obtain⟨o,h1,h2,_⟩:=p;exact Zt PySem.W.kitx_tuple I.kIn ⟨o,h1,h2⟩ e (λz=>nomatch z) h
 | @dK a ir ea=>
  cases (show u=Value.ref a from rx);obtain⟨_,_,vs,_,p⟩:=(show cD X.prog X.w H s.heap a (.dK ir) from I.hok a _ ea);obtain⟨o,es,ep,h1,h2,_⟩:=p;exact Zt acf I.kIn ⟨o,h1,h2.1⟩ e (λz=>nomatch z) h
 | @dT a ir ea=>
  cases (show u=Value.ref a from rx);obtain⟨_,_,xs,_,o,es,ep,h1,h2,_⟩:=(show cD X.prog X.w H s.heap a (.dT ir) from I.hok a _ ea);exact Zt acf I.kIn ⟨o,h1,h2.1⟩ e (λz=>nomatch z) h
 | @ins a C dx fs ea cl ha hn htk hm=>
  cases (show u=Value.ref a from rx);obtain⟨mA,O,_⟩:=Jv I.hok ea;obtain⟨od,J,_⟩:=O.look;exact Zt (PySem.W.kitx_own (cl.get _) cl.hd ha hn htk hm) I.kIn J e (λz=>nomatch z) h
end
end L2
namespace L2
structure eV (k:Nat)(A:YG):Prop where
 hd:A.handled=none
 dp:A.depth+3*k+5<adl
 un:A.units+16*k+200<abH
theorem eV.mono {A:YG}(r:eV k A)(h:j<=k):eV j A:=⟨r.hd,by have:=r.dp;lia,by have:=r.un;lia⟩
theorem eV.deeper {A:YG}(r:eV (k+1) A)(env:Env):eV k (A.deeper env):=
 ⟨r.hd,by have:=r.dp;show A.depth+1+3*k+5<_;lia,by have:=r.un;show A.units+3+16*k+200<_;lia⟩
theorem eV.depth {A:YG}(r:eV k A):A.depth<adl:=by have:=r.dp;lia
theorem eV.units {A:YG}(r:eV k A):A.units+64<abH:=by have:=r.un;lia
def S2:TA:=λ_ H Q=>Q [] H
def Qb (ta:TE)(tr:TA):TA:=λσ H Q=>ta σ H λx H1=>tr σ H1 λxs H2=>Q (x::xs) H2
section
variable {e:aaj}{es:List aaj}{t:TA}{pos:Pos}
def cM:PA X [] S2:=λ_ _ _ _ H Q I h=>Calls.spliced_nil ⟨[],H,I,.nil,h⟩
def aG (ha:PE X e te)(hr:PA X es t)(hs:X7 (e::es) X.env=(false,abh e X.env)::X7 es X.env:=by rfl):PA X (e::es) (Qb te t):=by
 intro pos pins s σ H Q I h;rw[hs];show Yg _ _ (spliced ((false,abh e X.env)::aan pos (X7 es X.env))) _ _ s;refine Calls.spliced_cons (fj (ha pins s σ H _ I h) λu s1 ⟨x,H1,I1,r1,q1⟩=>?_);exact fj (hr pos pins s1 σ H1 _ I1 q1) λus s2 ⟨xs,H2,I2,r2,q2⟩=>⟨x::xs,H2,I2,.cons r1 r2,q2⟩
def S3 (t:TA):TE:=λσ H Q=>t σ H λxs H1=>xs.length<=XU/\∀p,H1 p=none->Q (.ref p) (dF H1 p (.tup xs))
def S4 (t:TA):TE:=λσ H Q=>t σ H λxs H1=>xs.length<=XU/\∀p,H1 p=none->Q (.ref p) (dF H1 p (.lst xs))
def Fc {x1}(h:PA X es t):PE X (.Tuple es x1 pos) (S3 t):=by
 intro pins s σ H Q I hq;refine wpAny_Tuple_spliced (fj (h pos pins s σ H _ I hq) λus s1 ⟨xs,H1,I1,r,z,q⟩=>⟨by rw[←r.length];exact z,?_⟩);have hf:H1 s1.heap.objs.size=none:=I1.hok.fresh (X6 _);refine⟨.ref s1.heap.objs.size,dF H1 s1.heap.objs.size (.tup xs),I1.laid (t':=s1.toks) (λb u e=>XQ _ e) (X6 _) ?_,rfl,q _ hf⟩;exact⟨z,us,r,⟨_,X8 _ rfl,rfl,_,rfl⟩,_,X8 _ rfl⟩
def nq (h:PA X es t):PE X (.List es pos) (S4 t):=by
 intro pins s σ H Q I hq;refine wpAny_List_spliced (fj (h pos pins s σ H _ I hq) λus s1 ⟨xs,H1,I1,r,z,q⟩=>⟨by rw[←r.length];exact z,?_⟩);have hf:H1 s1.heap.objs.size=none:=I1.hok.fresh (X6 _);refine⟨.ref s1.heap.objs.size,dF H1 s1.heap.objs.size (.lst xs),I1.laid (t':=s1.toks) (λb u e=>XQ _ e) (X6 _) ?_,rfl,q _ hf⟩;exact⟨z,us,0,r,X8 _ rfl⟩
end
abbrev Sp:=List V->Hp->VK->XK->Prop
abbrev CXT:=List Env->Hp->Ya->XK->XY->Ya->Prop
structure D4 (P:aaT)(w:Y6)(K:XX)(mg:Str->Option XY)(base:Z9)(A:YG)(outer:List Env)(s:Ya)(H:Hp):Prop where
 frames:A.frames=some outer
 mod:Mod K mg base
 bs:∀b o,base.get? b=some o->s.heap.get? b=some o/\H b=none
 bsz:base.objs.size<=s.heap.objs.size
 funs:s.heap.FunFrames base outer
 frf:∀b∈sR outer,H b=none
 hok:mR P w H s.heap
 bare:adj s.gens
def CE (outer:List Env)(P:aaT)(w:Y6)(H:Hp)(s:Ya)(Q:VK)(u:XY)(s':Ya):Prop:=
 ∃v H',s'.os=s.os/\adj s'.gens/\Un (sR outer) [] H H' s.heap s'.heap/\mR P w H' s'.heap/\bX v u/\Q v H'
def CR (CX:CXT)(outer:List Env)(P:aaT)(w:Y6)(H:Hp)(s:Ya)(Q:VK)(E:XK)(r:Result)(s':Ya):Prop:=
 match r with
 | .ok (.ret u)=>CE outer P w H s Q u s'
 | .ok _=>False
 | .error e=>CX outer H s E e s'
structure j3 (P:aaT)(w:Y6)(K:XX)(mg:Str->Option XY)(base:Z9)(CX:CXT)(k:Nat)(f:Ye)(fd:aa9)(ps:List Str)(sp:Sp):Prop where
 len:∀vs H Q E,sp vs H Q E->vs.length=ps.length
 run:∀(A:YG) (outer:List Env) (s:Ya) (H:Hp) (args:Args) (us:List XY) (vs:List V) (Q:VK) (E:XK),eV k A->D4 P w K mg base A outer s H->BindsTo s fd args (ps.zip us)->bw vs us->sp vs H Q E->
  acg (Yw P w) A (.call (.ref f) args) (CR CX outer P w H s Q E) s
theorem j3.imp {w:Y6}{base:Z9}{CX:CXT}{sp Vb:Sp}(F:j3 P w K mg base CX k f fd ps sp)(h:∀vs H Q E,Vb vs H Q E->sp vs H Q E):j3 P w K mg base CX k f fd ps Vb:=
 ⟨λvs H Q E q=>F.len vs H Q E (h _ _ _ _ q),λA outer s H args us vs Q E hr he hb hv hs=>F.run A outer s H args us vs Q E hr he hb hv (h _ _ _ _ hs)⟩
section
variable {s':Ya}
def aP.env0 (I:aP X pins σ H s):D4 X.prog X.w X.K X.mg X.base X.A X.stack s H:=
 ⟨I.ok.frames,I.ok.mod,I.bs,YX I.ok.bsz I.sz,I.stack,I.stkFree,I.hok,I.bare⟩
theorem aP.after {Q:VK}{u:XY}(I:aP X pins σ H s)(h:CE X.stack X.prog X.w H s Q u s'):EP X pins σ Q u s':=by
 obtain⟨v,H',os,bare,un,hok,r,q⟩:=h;obtain⟨hh,g,d,t,os'⟩:=s';obtain rfl:os'=s.os:=os;exact⟨v,H',I.call (h':=hh) (g':=g) (d':=d) (t':=t) (ch:=[]) un hok bare (λb z=>absurd z (by simp)),r,q⟩
end
def Fd (sp:Sp)(MO:List V)(E:XK)(t:TA):TE:=λσ H Q=>t σ H λvs H1=>sp (vs++MO) H1 Q E
def j4 (K:XX)(fd:aa9)(ps:List Str)(ds:List XY):Prop:=
 ∀(s:Ya) (us:List XY),K.In s.heap->(us++ds).length=ps.length->BindsTo s fd ⟨us,[]⟩ (ps.zip (us++ds))
def j4.all (h:∀us:List XY,us.length=ps.length->bindArgs fd ⟨us,[]⟩=pure (ps.zip us)):j4 K fd ps []:=λs us _ hl=>by
 rw[Yu] at hl ⊢;exact .of_eq (h us hl)
def Ba (CX:CXT)(X:Cx)(E:XK):Prop:=∀(pins:List (Ye×Obj)) (σ:St) (H:Hp) (s:Ya) (e:XY) (s':Ya),aP X pins σ H s->CX X.stack H s E e s'->X.xe e s'
section
variable {CX:CXT}{sp:Sp}{MO:List V}{ds:List XY}{E:XK}{m:Str}{p pos AN:Pos}{e o:aaj}{es:List aaj}{ta:TE}{t:TA}
theorem Nr {Q:VK}{us:List XY}(F:j3 X.prog X.w X.K X.mg X.base CX k f fd ps sp)(hr:eV k X.A)(hb:j4 X.K fd ps ds)(hd:bw MO ds)(hx:Ba CX X E)(I:aP X pins σ H s)(r:bw vs us)(h:sp (vs++MO) H Q E):Yg (Yw X.prog X.w) X.A (call (.ref f) us) (EP X pins σ Q) X.xe s:=by
 have r2:bw (vs++MO) (us++ds):=r.append hd;have hl:(us++ds).length=ps.length:=by rw[←r2.length];exact F.len _ _ _ _ h
 refine adA (aaL (F.run X.A X.stack s H ⟨us,[]⟩ (us++ds) (vs++MO) Q E hr I.env0 (hb s us I.kIn hl) r2 h) λr s' hq=>?_);cases r with
 |error e=>exact hx pins σ H s e s' I hq
 |ok fl=>
  cases fl with
  |ret u=>exact I.after hq
  |next=>exact Zy hq
  |brk=>exact Zy hq
  |cont=>exact Zy hq
def Jw (F:j3 X.prog X.w X.K X.mg X.base CX k f fd ps sp)(hr:eV k X.A)(hg:Gl X x)(hm:X.mg x=some (.ref f))(hk:Zn X.K (.ref f)=true)(hb:j4 X.K fd ps ds)(hd:bw MO ds)(hx:Ba CX X E)
  (ha:PA X (e::es) t) (yr:(x==("__debug__":Str))=false:=by decide) (he:X7 (e::es) X.env=(false,abh e X.env)::X7 es X.env:=by rfl) (jZ:(aan pos (X7 es X.env)).any (·.1)=false:=by rfl) :
  PE X (.Call (.Name x p) (e::es) [] pos) (Fd sp MO E t):=by
 intro pins s σ H Q I h;refine aad (l6 I hg hm ?_ yr);refine ac9 (h₀:=X.base) I.ok.mod.kin hk (fj (ha pos pins s σ H _ I h) λus s1 ⟨vs,H1,I1,r,q⟩=>⟨I1.kIn,?_⟩) he jZ;exact Nr F hr hb hd hx I1 r q
structure Mk (K:XX)(C f:Ye):Prop where
 makes:PySem.W.makesIn K C=true
 init:ZQ K (.ref C) "__init__"=some (some (.ref f))
 fn:PySem.W.isFn K (.ref f)=true
 kp:Zn K (.ref C)=true
end
section
variable {CX:CXT}{ks:List Str}{sp:Sp}{E:XK}{m:Str}{p pos AN kpos:Pos}{e o:aaj}{es:List aaj}{kws:List Keyword}{ta:TE}{t tk:TA}{nm:Option Str}
structure S5 (K:XX)(fd:aa9)(ps ks:List Str)(g:List XY->List XY->List XY)(gV:List V->List V->List V):Prop where
 to:∀(s:Ya) (us ws:List XY),K.In s.heap->(g us ws).length=ps.length->BindsTo s fd ⟨us,ks.zip ws⟩ (ps.zip (g us ws))
 rel:∀{vs:List V} {us:List XY} {zs:List V} {ws:List XY},bw vs us->bw zs ws->bw (gV vs zs) (g us ws)
variable {g:List XY->List XY->List XY}{gV:List V->List V->List V}
end
structure aW (N P:List Str)(sc:acY):Prop where
 kind:sc.kind=.function
 co:sc.isCoroutine=false
 gen:sc.isGenerator=false
 nd:N.Nodup
 pre:N.take P.length=P
 par:∀x∈P,sc.names.lookup x=some .local\/sc.names.lookup x=some .cell
 nofree:∀y∈sc.names,y.2≠.free
theorem vN {Zs:Str->Option adJ}{x:Str}:∀{binds:List (Str×XY)} {m:Str->Option XY},(∀v,(x,v)∉binds)->bindL Zs binds m x=m x
 | [],_,_=>rfl
 | (n,v)::r,m,h=>by
  unfold bindL;rw[vN λw hw=>h w (X4 _ hw)];split
  ·grind
  ·rfl
theorem vO {Zs:Str->Option adJ}{x:Str}:∀{binds:List (Str×XY)} {m:Str->Option XY},(∀v,(x,v)∉binds)->bindC Zs binds m x=m x
 | [],_,_=>rfl
 | (n,v)::r,m,h=>by
  unfold bindC;rw[vO λw hw=>h w (X4 _ hw)];split
  ·rfl
  grind
theorem pW {Zs:Str->Option adJ}{x:Str}{v:XY}:∀{P:List Str} {vs:List XY} {i:Nat} {m:Str->Option XY},P.Nodup->P[i]? = some x->vs[i]? = some v->Zs x=some .local->
  bindL Zs (P.zip vs) m x=some v
 | [],_,_,_,_,h,_,_=>by simp at h
 |_::_,[],_,_,_,_,h,_=>by simp at h
 |p::P,w::vs,0,m,nd,h1,h2,hk=>by
  simp at h1 h2;subst h1;subst h2;show bindL Zs ((p,w)::P.zip vs) m p=_;unfold bindL;rw[vN λv hv=>(aaB.mp nd).1 (acP hv).1,hZ hk];simp
 |p::P,w::vs,i+1,m,nd,h1,h2,hk=>by
  show bindL Zs ((p,w)::P.zip vs) m x=_;unfold bindL;exact pW (i:=i) (aaB.mp nd).2 (by simpa using h1) (by simpa using h2) hk
theorem pX {Zs:Str->Option adJ}{x:Str}{v:XY}:∀{P:List Str} {vs:List XY} {i:Nat} {m:Str->Option XY},P.Nodup->P[i]? = some x->vs[i]? = some v->Zs x≠some .local->
  bindC Zs (P.zip vs) m x=some v
 | [],_,_,_,_,h,_,_=>by simp at h
 |_::_,[],_,_,_,_,h,_=>by simp at h
 |p::P,w::vs,0,m,nd,h1,h2,hk=>by
  simp at h1 h2;subst h1;subst h2;show bindC Zs ((p,w)::P.zip vs) m p=_;unfold bindC;rw[vO λv hv=>(aaB.mp nd).1 (acP hv).1,hV hk];simp
 |p::P,w::vs,i+1,m,nd,h1,h2,hk=>by
  show bindC Zs ((p,w)::P.zip vs) m x=_;unfold bindC;exact pX (i:=i) (aaB.mp nd).2 (by simpa using h1) (by simpa using h2) hk
noncomputable def abc (N:List Str)(vs:List V):St:=vs.map some++List.replicate (N.length-vs.length) none
noncomputable def jC (CX:CXT)(P:aaT)(w:Y6)(K:XX)(mg:Str->Option XY)(base:Z9)(N:List Str)(qual:Str)(scope:acY)(f:Ye)(cd:XY)(A:YG)(outer:List Env)(s:Ya)(H:Hp)(E:XK):Cx where
 prog:=P
 w:=w
 K:=K
 mg:=mg
 base:=base
 A:=A.deeper (aae qual scope s.heap.objs.size f cd)
 N:=N
 s₀:=s
 H₀:=H
 env:=aae qual scope s.heap.objs.size f cd
 outer:=outer
 stack:=aae qual scope s.heap.objs.size f cd::outer
 ex:=[]
 calm:=true
 fn:=λ_=>true
 pn:=[]
 xe:=λe s'=>Yg (Yw P w) (A.deeper (aae qual scope s.heap.objs.size f cd)) (leaving (aae qual scope s.heap.objs.size f cd) e) (λ_ DB=>CX outer H s E e DB) (λe' DB=>CX outer H s E e' DB) s'
def om {sc:acY}(h:sc.names.lookup x=some .cell):∃c,(cellsFrom n sc.names []).lookup x=some c:=by
 have q:=ab_ sc.names n [] (.inl h);exact abN.mp q
theorem D5 {CX:CXT}{w:Y6}{base:Z9}{cd:XY}{A:YG}{outer:List Env}{s1:Ya}{E:XK}{us:List XY}(S:aW N ps scope)(hd:A.handled=none)(e0:D4 P w K mg base A outer s H)(hl:vs.length=ps.length)(r:bw vs us)(x:InCallC s s.heap.objs.size (bindL (aae qual scope s.heap.objs.size f cd).kindOf (ps.zip us) λ_=>none) (cellsFrom (s.heap.objs.size+1) scope.names []) (bindC (aae qual scope s.heap.objs.size f cd).kindOf (ps.zip us) λ_=>none) s1) :
  aP (jC CX P w K mg base N qual scope f cd A outer s H E) [] (abc N vs) H s1:=by
 have jZ:ps.length<=N.length:=by have:=congrArg Z2 S.pre;grind
 obtain⟨h1,tk,rfl,hk⟩:=x.done;have Lg:∀b:Ye,b∉(jC CX P w K mg base N qual scope f cd A outer s H E).ex:=λb z=>absurd (show b∈([]:List Ye) from z) (by simp);refine⟨⟨e0.mod,S.kind,rfl,rfl,X6 _,λy z c h1 h2=>?_,λy hy=>?_,λy c _ h=>?_,λ_=>hd,Around.frames_deeper e0.frames,.inr ⟨rfl,rfl⟩,λb z=>absurd z (Lg b),e0.bs,e0.bsz,λb _ _=>Lg b,λb z=>absurd z (Lg b),e0.funs,e0.frf⟩,
  rfl,e0.bare,Un.kept hk,⟨_,x.toInCall.ns,λi y v h1 h2 h3=>?_⟩,λy c h=>⟨_,x.cell y c h⟩,e0.hok.fresh (X6 _),λy c h=>?_,λp hp=>absurd (show p∈([]:List (Ye×Obj)) from hp) (by simp),e0.hok.kept hk,?_⟩
 ·exact name_of_addr x.apart (YM h1) (YM h2)
 ·have hy:scope.names.lookup y=some .cell\/scope.names.lookup y=some .free:=hy;rcases hy with hy|hy
  ·exact om hy
  ·exact absurd rfl (S.nofree _ (YM hy))
 ·exact abM (x.above y c (YM h))
 ·have hi:i<vs.length:=by
   unfold abc at h2;by_cases hi:i<vs.length
   ·exact hi
   ·rw[Y3 (by simpa using hi)] at h2;rw[abY] at h2;split at h2<;>cases h2
  have ha:vs[i]? = some v:=by
   unfold abc at h2;rw[Y7 (by simpa using hi),Yq] at h2;cases e:vs[i]? with
   |none=>rw[e] at h2;cases h2
   |some a=>rw[e] at h2;cases h2;rfl
  obtain⟨u,hu,rv⟩:=r.get ha;have hp:ps[i]? = some y:=by
   rw[←S.pre,abO (by lia)];exact h1
  have Ro:ps.Nodup:=by rw[←S.pre];exact S.nd.sublist (adB _ _)
  refine⟨u,rv,?_⟩;rcases S.par y (YA hp) with k|k
  ·exact .inl ⟨k,pW Ro hp hu k⟩
  ·obtain⟨c,e⟩:=om (n:=s.heap.objs.size+1) k;refine .inr ⟨.inl k,c,e,?_⟩;have q:=x.cell y c e;rw[pX Ro hp hu (by show scope.names.lookup y≠_;lia)] at q;exact q
 ·exact e0.hok.fresh (abM (x.above y c (YM h)))
 ·unfold abc;show _=N.length;grind
theorem Lu {CX:CXT}{w:Y6}{base:Z9}{name:Str}{params:Arguments}{dV kV kX pm bQ ct oc:XY}{sp:Sp}(lk:K.lookup f=some ⟨oc,od,.func (Zu name qual params body scope dV kV kX pm an bQ ct),osl⟩)(kI:acr K bQ qual=true)(S:aW N ps scope)(len:∀vs H Q E,sp vs H Q E->vs.length=ps.length)(gf:∀(A:YG) (outer:List Env) (s:Ya) (H:Hp) (vs:List V) (Q:VK) (E:XK),eV k (A.deeper (aae qual scope s.heap.objs.size f bQ))->sp vs H Q E->
   ∃t,sU (jC CX P w K mg base N qual scope f bQ A outer s H E) body t/\t {nx:=λ_ H'=>Q .non H',rt:=Q} (abc N vs) H) :
  j3 P w K mg base CX (k+1) f (Zu name qual params body scope dV kV kX pm an bQ ct) ps sp:=by
 refine⟨len,λA outer s H args us vs Q E hr e0 hb r Iz=>?_⟩;have hl:=len _ _ _ _ Iz;have KX:K.In s.heap:=e0.mod.kin.keeps λb o e=>(e0.bs b o e).1;have T6:s.heap.NoLimit:=e0.mod.nolimit.keeps λb o e=>(e0.bs b o e).1;have IA:∀y∈ps.zip us,scope.names.lookup y.1=some .local\/(scope.names.lookup y.1=some .cell/\((cellsFrom (s.heap.objs.size+1) scope.names []).lookup y.1).isSome=true):=fun⟨n,v⟩ hy=>by
  rcases S.par n (acP hy).1 with q|q
  ·exact .inl q
  grind[ab_]
 refine codeAny_call_function hr.depth (KX _ _ lk) rfl S.co S.gen rfl (PySem.W.codeRec_of KX kI) (hb _ _ _ _ ?_);refine wpAny_newFunctionEnv_cells S.kind IA λenv he s1 x=>?_;subst he;refine⟨T6.keeps x.toInCall.keep,codeAny_func ?_⟩;obtain⟨t,ht,hq⟩:=gf A outer s H vs Q E (hr.deeper _) Iz;have I:aP (jC CX P w K mg base N qual scope f bQ A outer s H E) [] (abc N vs) H s1:=D5 S hr.hd e0 hl r x;refine Zc (ht [] s1 (abc N vs) H _ I hq) (λfl s' hs=>?_) λe s' hs=>hs;have fin:∀{σ':St} {H':Hp} {v:V} {u:XY},aP (jC CX P w K mg base N qual scope f bQ A outer s H E) [] σ' H' s'->bX v u->Q v H'->CE outer P w H s Q u s' :=
  λ{σ' H' v u} J rv q=>⟨v,H',J.os,J.bare,J.base,J.hok,rv,q⟩
 cases fl with
 |ret u=>
  obtain⟨v,σ',H',J,rv,q⟩:=hs;exact fin J rv q
 |next=>
  obtain⟨σ',H',J,q⟩:=hs;exact fin (v:=V.non) (u:=Value.none) J rfl q
 |brk=>
  obtain⟨_,_,_,q⟩:=hs;lia
 |cont=>
  obtain⟨_,_,_,q⟩:=hs;lia
end L2
variable {CX:L2.CXT}{sp:L2.Sp}
namespace L2
section
variable {p pos:Pos}{e:aaj}{es:List aaj}{t:TA}{id T:String}{r:List V->Hp->VK->Prop}
def S6 (r:List V->Hp->VK->Prop)(t:TA):TE:=λσ H Q=>t σ H λvs H1=>r vs H1 Q
def j5 (hc:eO X (.builtin id) r)(hg:Gl X x)(hm:X.mg x=none)(hv:YQ x=some (.builtin id))(ha:PA X (e::es) t)(hn:x≠"__name__":=by decide)(yr:(x==("__debug__":Str))=false:=by decide)
  (he:X7 (e::es) X.env=(false,abh e X.env)::X7 es X.env:=by rfl) (jZ:(aan pos (X7 es X.env)).any (·.1)=false:=by rfl):PE X (.Call (.Name x p) (e::es) [] pos) (S6 r t):=by
 intro pins s σ H Q I h;refine aad (nj I hg hm hv ?_ hn yr);exact PyProof.Rows.callWith_builtin1 (fj (ha pos pins s σ H _ I h) λus s1 ⟨vs,H1,I1,r1,q1⟩=>hc pins s1 σ H1 vs us Q I1 r1 q1) he jZ
def iV (hc:eO X (.type T) r)(hg:Gl X x)(hm:X.mg x=none)(hv:YQ x=some (.type T))(ha:PA X (e::es) t)(hn:x≠"__name__":=by decide)(yr:(x==("__debug__":Str))=false:=by decide)
  (he:X7 (e::es) X.env=(false,abh e X.env)::X7 es X.env:=by rfl) (jZ:(aan pos (X7 es X.env)).any (·.1)=false:=by rfl):PE X (.Call (.Name x p) (e::es) [] pos) (S6 r t):=by
 intro pins s σ H Q I h;refine aad (nj I hg hm hv ?_ hn yr);exact ZR (fj (ha pos pins s σ H _ I h) λus s1 ⟨vs,H1,I1,r1,q1⟩=>hc pins s1 σ H1 vs us Q I1 r1 q1) he jZ
end
end L2
namespace HT
noncomputable def lexLt:List Int->List Int->Bool
 | [],[]=>false
 | [],_::_=>true
 |_::_,[]=>false
 |x::xs,y::ys=>if x=y then lexLt xs ys else decide (x<y)
def lexLt_cons (x y:Int)(xs ys:List Int):lexLt (x::xs) (y::ys)=if x=y then lexLt xs ys else decide (x<y):=rfl
def vn:lexLt [] []=false:=rfl
def sZ (y:Int)(ys:List Int):lexLt [] (y::ys)=true:=rfl
def s_ (x:Int)(xs:List Int):lexLt (x::xs) []=false:=rfl
def Fe (A:YG)(s:Ya)(a:Int)(t:Tok)(c:Int)(u:Tok):∃e,abu A s (.int a t) (.int c u) e/\(e=true↔a=c):=
 ⟨(a==c),ac_ a t c u,by simp⟩
def Ff (A:YG)(s:Ya)(a:Int)(t:Tok)(c:Int)(u:Tok)(prog:aaT)(w:Y6)(E:XY->Ya->Prop)(Q:XY->Ya->Prop)(h:Q (.bool (decide (a<c))) s) :
  Yg (Yw prog w) A (richCompare .Lt (.int a t) (.int c u)) Q E s:=
 (PyProof.Rows.lt_int h:Yg (Yw prog w) A (aaz .Lt (.int a t) (.int c u)) Q E s)
section
open PySem.SeqAt
open PySem.AutoSeq1 (wpAny_loadPart')
open PySem.MeetsSeq PySem.MeetsSeq2 PySem.MeetsSeq3
theorem vo (l b:Ye)(items j0:Array XY)(n n2:Nat)(dd MQ:Option Ye)(sl MR:Array (Option XY))(ns ms:List Int)(hi:aaU items.toList ns)(hj:aaU j0.toList ms) :
  Meets (Builtin.«tuple.__lt__» ⟨[.ref l,.ref b],[]⟩)
   (λ_ R s=>s.heap.get? l=some {cls:=.type "tuple",dict:=dd,data:=.seq items n,slots:=sl}/\s.heap.get? b=some {cls:=.type "tuple",dict:=MQ,data:=.seq j0 n2,slots:=MR} /\
    R (.ok (.ret (.bool (lexLt ns ms)))) s):=
 .of_wp λprog w A R s h=>by
  obtain⟨hp,g,d,tk,os⟩:=s;obtain⟨hl,hb,h⟩:=h;have f2:=AutoSeq1.sub_tuple_tuple;have z1:items.size=ns.length:=by rw[←hi.length];simp
  have z2:j0.size=ms.length:=by rw[←hj.length];simp
  wp_walk using wpAny_loadPart' hl,wpAny_loadPart' hb,wpAny_forIn_list _ (λrest b s'=>b.1=none/\s'=⟨hp,g,d,tk,os⟩/\∃(vs ws:List XY) (ns' ms':List Int),rest=vs.zip ws/\
   aaU vs ns'/\aaU ws ms'/\ns'.length+j0.size=ms'.length+items.size/\R (.ok (.ret (.bool (lexLt ns' ms')))) ⟨hp,g,d,tk,os⟩) _
  case turn=>
   rintro⟨y,x⟩ rest b s' ⟨DL,rfl,vs,ws,ns',ms',hz,hvi,hwi,du,hR⟩;cases hvi with
   |nil=>simp_all
   |cons a t hvi'=>
    cases hwi with
    |nil=>simp_all
    |cons c u hwi'=>
     rw[abZ] at hz;injection hz with hyx hrest
     injection hyx with hy hx
     subst hy hx;rw[lexLt_cons] at hR;simp only[X1] at du;obtain⟨e,he,hiff⟩:=Fe A.in1 ⟨hp,g,d,tk,os⟩ a t c u;refine XM (he prog w _ _ ?_);cases e with
     |true=>
      rw[hZ (hiff.mp rfl)] at hR;wp_walk;exact⟨rfl,rfl,_,_,_,_,hrest,hvi',hwi',(by lia),hR⟩
     |false=>
      rw[hV (λq=>absurd (hiff.mpr q) XR)] at hR;have V4:=Ff A.in1 ⟨hp,g,d,tk,os⟩ a t c u prog w;wp_walk using V4;exact⟨_,rfl,by simpa using hR⟩
  case fin=>
   rintro⟨b1,b2⟩ s' ⟨DL,rfl,vs,ws,ns',ms',hz,hvi,hwi,du,hR⟩;simp only at DL;subst DL;have hv:lexLt ns' ms'=decide (items.size<j0.size):=by
    cases hvi with
    |nil=>
     cases hwi with
     |nil=>
      simp_all[aaC,vn,hU]
     |cons c u hw=>
      simp_all[aaC,X1,sZ,hJ]
    |cons a t hv=>
     cases hwi with
     |nil=>
      simp only[aaC,X1] at du;rw[s_];lia
     |cons c u hw=>
      simp_all
   rw[hv] at hR;wp_walk;exact⟨_,rfl,by simpa [Builtin.Tuple.tupleCompareSizes] using hR⟩
  case h=>
   exact⟨rfl,rfl,items.toList,j0.toList,ns,ms,rfl,hi,hj,(by lia),h⟩
end
section
variable {w:Y6}{A:YG}
theorem lt_tupInts {l b:Ye}{j0:Array XY}{ms:List Int}(hl:IsTup s.heap l items)(hb:IsTup s.heap b j0)(hi:aaU items.toList ns)(hj:aaU j0.toList ms)(hu:A.units<abH)(h:Q (.bool (lexLt ns ms)) s):Yg (Yw prog w) A (aaz .Lt (.ref l) (.ref b)) Q E s:=by
 obtain⟨⟨cls,dd,data,sl⟩,ho,hc,n,hd⟩:=id hl;obtain⟨⟨cls2,MQ,data2,MR⟩,ho2,hc2,n2,EZ⟩:=id hb;simp only at hc hd hc2 EZ;subst hc hd hc2 EZ;exact richCompare_meets_room (op:=.Lt) ⟨_,ho,rfl⟩ ⟨_,ho2,rfl⟩ PySem.F.slot_tuple_lt PySem.F.entry_tuple_lt (PySem.F.args_tuple_lt_2 _ _) (vo l b items j0 n n2 dd MQ sl MR ns ms hi hj)
  ⟨ho,ho2,show Value.bool (lexLt ns ms)≠Value.notImplemented/\Q (.bool (lexLt ns ms)) s from ⟨(λx=>nomatch x),h⟩⟩ hu
theorem cat_tup {t b:Ye}{vs ws:List XY}(ht:IsTup s.heap t vs.toArray)(hb:IsTup s.heap b ws.toArray)(hv:vs≠[])(h1:ws=[]->Q (.ref t) s)(h2:ws≠[]->Q (.ref s.heap.objs.size) {s with heap:=s.heap.push {cls:=.type "tuple",data:=.seq (vs++ws).toArray}})(hsz:vs.length+ws.length<=XU):Yg (Yw prog w) A (abi .Add (.ref t) (.ref b)) Q E s:=by
 obtain⟨⟨cls,dd,data,sl⟩,ho,hc,n,hd⟩:=id ht;obtain⟨⟨cls2,MQ,data2,MR⟩,ho2,hc2,n2,EZ⟩:=id hb;simp only at hc hd hc2 EZ;subst hc hd hc2 EZ;have e:vs.toArray++ws.toArray=(vs++ws).toArray:=by simp
 by_cases hw:ws=[]
 ·exact concat_meets ⟨_,ho,rfl⟩ ⟨_,ho2,rfl⟩ noFill_tuple_add seq_tuple_add aca ab0 (abP _ _)
   (tuple_addW1 t b vs.toArray ws.toArray n n2 dd MQ sl MR (by grind) (by simp[hw])) ⟨ho,ho2,h1 hw⟩
 ·refine concat_meets ⟨_,ho,rfl⟩ ⟨_,ho2,rfl⟩ noFill_tuple_add seq_tuple_add aca ab0 (abP _ _)
   (tuple_addW2 t b vs.toArray ws.toArray n n2 dd MQ sl MR (by grind) (by grind) (by rw[XZ,XZ];exact hsz)) ⟨ho,ho2,?_⟩
  rw[e];exact h2 hw
noncomputable def sIx (n d:Nat):Option Int->Nat
 |none=>d
 |some v=>if v<0 then (v+(n:Int)).toNat else min v.toNat n
def sIx_none (n d:Nat):sIx n d none=d:=rfl
def sIx_nat (n d k:Nat):sIx n d (some (k:Int))=min k n:=by
 rfl
theorem Nt (n d:Nat)(hd:d<=n)(o:Option Int):sIx n d o<=n:=by
 cases o with
 |none=>exact hd
 |some v=>
  show (if v<0 then (v+(n:Int)).toNat else min v.toNat n)<=n;lia
theorem Ce (v:Int)(n d:Nat):(if v<0 then max (v+(n:Int)) 0 else min v (n:Int))=((sIx n d (some v):Nat):Int):=by
 show (if v<0 then max (v+(n:Int)) 0 else min v (n:Int))=(((if v<0 then (v+(n:Int)).toNat else min v.toNat n):Nat):Int);lia
theorem Bb (lo hi:Option Int)(n:Nat):abz lo hi 1 (n:Int)=(((sIx n 0 lo:Nat):Int),((sIx n n hi:Nat):Int)):=by
 have h1:¬((1:Int)<0):=(by lia)
 unfold abz;simp only[h1,if_false];refine Prod.ext ?_ ?_
 ·cases lo with
  |none=>rfl
  |some v=>exact Ce v n 0
 ·cases hi with
  |none=>rfl
  |some v=>exact Ce v n n
theorem Bc (i j:Nat):aaV (i:Int) (j:Int) 1=j-i:=by
 unfold aaV;lia
theorem td {v:XY}{o:Option Int}{Q:Option Int->Ya->Prop}(p:IsPart v o)(h:Q o s):Yg (Yw prog w) A (Builtin.Slice.slicePartIndex v) Q E s:=by
 cases p with
 |none=>exact slicePart_none h
 |int i t=>exact slicePart_int h
theorem j6 {sl:Ye}{vl vu:XY}{Q:Int×Int×Nat->Ya->Prop}(hs:s.heap.IsSliceOf sl vl vu .none)(pl:IsPart vl lo)(pu:IsPart vu hi)(h:Q (((sIx n 0 lo:Nat):Int),1,sIx n n hi-sIx n 0 lo) s):Yg (Yw prog w) A (ac0 (.ref sl) (pure (n:Int))) Q E s:=by
 obtain⟨os,Jk,hcs,hds⟩:=id hs;unfold ac0 Builtin.Slice.sliceFields;refine XM (XM (Zf Jk hds (x:=vl) rfl (XM (Zf Jk hds (x:=vu) rfl (XM (Zf Jk hds (x:=.none) rfl (XS ?_)))))));refine XM (slicePart_none ?_);show Yg _ _ (if ((1:Int)==0)=true then _ else _) _ _ s;rw[hV (by decide)];refine XM (td pl (XM (td pu (XM (XS ?_)))));show Yg _ _ (match abz lo hi 1 (n:Int) with|(lo,hi)=>pure (lo,(1:Int),aaV lo hi 1)) _ _ s;rw[Bb lo hi n];show Yg _ _ (pure (((sIx n 0 lo:Nat):Int),(1:Int),aaV ((sIx n 0 lo:Nat):Int) ((sIx n n hi:Nat):Int) 1)) _ _ s;rw[Bc];exact XS h
theorem Fg (xs:Array XY)(i k:Nat):((YF k).filterMap λ(m:Nat)=>xs[((i:Int)+(m:Int)*1).toNat]?).toArray=((xs.toList.drop i).take k).toArray:=by
 have e:(λ(m:Nat)=>xs[((i:Int)+(m:Int)*1).toNat]?)=λm=>xs[i+m]? := by
  grind
 rw[e];have:=pick_run xs i k;rw[List.filterMap_map] at this;have e2:((λx=>xs[x]?)∘λx=>i+x)=λm=>xs[i+m]? := rfl;lia
theorem getItem_tuple_cut {t sl:Ye}{vl vu:XY}(ht:IsTup s.heap t items)(hs:s.heap.IsSliceOf sl vl vu .none)(pl:IsPart vl lo)(pu:IsPart vu hi)(hw:¬(sIx items.size 0 lo=0/\sIx items.size items.size hi=items.size))(h:Q (.ref s.heap.objs.size) {s with heap:=s.heap.push {cls:=.type "tuple",data:=.seq ((items.toList.drop (sIx items.size 0 lo)).take (sIx items.size items.size hi-sIx items.size 0 lo)).toArray}})(hsz:items.size<=XU):Yg (Yw prog w) A (getItem (.ref t) (.ref sl)) Q E s:=by
 have DC:sizeOk (.seq ((items.toList.drop (sIx items.size 0 lo)).take (sIx items.size items.size hi-sIx items.size 0 lo)).toArray):=by
  show ((items.toList.drop (sIx items.size 0 lo)).take (sIx items.size items.size hi-sIx items.size 0 lo)).toArray.size<=XU;rw[XZ,Ys,YR,X0];lia
 have hj:sIx items.size items.size hi<=items.size:=Nt _ _ (X6 _) hi;obtain⟨os,Jk,hcs,hds⟩:=id hs;have T7:s.TypeIs (.ref sl) "slice":=⟨os,Jk,hcs⟩;unfold getItem
 try with_reducible refine Y4 ?_
 first|refine XM (XS ?_)|skip
 refine XM (wpAny_sequenceKey ht.typeIs (by decide) ?_);refine XM (Y5 (name:=X9 "__getitem__") ht.typeIs Z3
  (Zd Z3 ht.typeIs entry_tuple_getitem ?_ (args_tuple_getitem _ _)))
 show Yg _ _ (ac1 (.ref t) >>= _) _ _ s;refine XM (tupleItemsOf_ ht ?_);refine XM (abk T7 ?_);rw[hZ (by decide)];refine XM (j6 hs pl pu ?_);have T8:¬((((sIx items.size 0 lo:Nat):Int)==0&&(1:Int)==1&&(sIx items.size items.size hi-sIx items.size 0 lo)==items.size)=true):=by
  lia
 show Yg _ _ (if (((sIx items.size 0 lo:Nat):Int)==0&&(1:Int)==1&&(sIx items.size items.size hi-sIx items.size 0 lo)==items.size)=true then _ else _) _ _ s;rw[hV T8,Fg]
 first
  |exact XM (m:=Zg _) (YY (XS ⟨_,rfl,XS h⟩) DC)
  |exact XM (m:=Zg _) (YY (XM (XS (XS ⟨_,rfl,XS h⟩))) DC)
  |exact XM (XM (m:=Zg _) (YY (XS (XS ⟨_,rfl,XS h⟩)) DC))
  |exact XM (XM (m:=Zg _) (YY (XS ⟨_,rfl,XS h⟩) DC))
end
end HT
namespace L2
abbrev TO:=St->Hp->(Option Int->Hp->Prop)->Prop
def PO (X:Cx)(e:Option aaj)(t:TO):Prop:=
 ∀(pins:List (Ye×Obj)) (s:Ya) (σ:St) (H:Hp) (Q:Option Int->Hp->Prop),aP X pins σ H s->t σ H Q->
  Yg (Yw X.prog X.w) X.A (evalPart e X.env) (λu s'=>∃o H',aP X pins σ H' s'/\IsPart u o/\Q o H') X.xe s
def Jx:TO:=λ_ H Q=>Q none H
def Qc (t:TE):TO:=λσ H Q=>t σ H λx H1=>∃i,x=.int i/\Q (some i) H1
theorem i8:∀{us:List XY},bw (ns.map V.int) us->aaU us ns:=by
 induction ns with
 |nil=>intro us r;rw[aaa] at r;cases r;exact .nil
 |cons n ns ih=>
  intro us r;rw[X5] at r;cases r with
  |cons r1 r2=>
   obtain⟨t,e⟩:=r1;subst e;exact .cons n t (ih r2)
section
variable {e:aaj}{lo hi:Option aaj}{tl th:TO}{pos:Pos}
def Jy:PO X none Jx:=by
 intro pins s σ H Q I h;rw[evalPart_none];exact XS ⟨none,H,I,.none,h⟩
theorem Jz (h:PE X e te):PO X (some e) (Qc te):=by
 intro pins s σ H Q I hw;rw[evalPart_some];refine fj (h pins s σ H _ I hw) λu s1 ⟨x,H1,I1,r1,q1⟩=>?_;obtain⟨i,rfl,q⟩:=q1;obtain⟨t,rfl⟩:=r1;exact⟨some i,H1,I1,.int i t,q⟩
def Fh (X:Cx)(r:V->Option Int->Option Int->Hp->VK->Prop):Prop:=
 ∀(pins:List (Ye×Obj)) (s:Ya) (σ:St) (H:Hp) (x:V) (v vl vu:XY) (lo hi:Option Int) (sl:Ye) (Q:VK),aP X pins σ H s->bX x v->s.heap.IsSliceOf sl vl vu .none->IsPart vl lo->IsPart vu hi->r x lo hi H Q->
  ∃T id,typeLookup (.type T) "__getitem__"=pure (some (.builtin id))/\s.TypeIs v T/\Yg (Yw X.prog X.w) X.A (getItem v (.ref sl)) (EP X pins σ Q) X.xe s
theorem Fh.or {r r':V->Option Int->Option Int->Hp->VK->Prop}(h:Fh X r)(h':Fh X r'):Fh X (λx lo hi H Q=>r x lo hi H Q\/r' x lo hi H Q):=by
 intro pins s σ H x v vl vu lo hi sl Q I rx hs pl pu q;rcases q with q|q
 ·exact h pins s σ H x v vl vu lo hi sl Q I rx hs pl pu q
 ·exact h' pins s σ H x v vl vu lo hi sl Q I rx hs pl pu q
def VM (r:V->Option Int->Option Int->Hp->VK->Prop)(te:TE)(tl th:TO):TE:=λσ H Q=>te σ H λx H1=>tl σ H1 λl H2=>th σ H2 λu H3=>r x l u H3 Q
theorem Fi {r:V->Option Int->Option Int->Hp->VK->Prop}(hr:Fh X r)(he:PE X e te)(hl:PO X lo tl)(hu:PO X hi th):PE X (.Subscript e (.Slice lo hi none p2) pos) (VM r te tl th):=by
 intro pins s σ H Q I h;refine Subscript_ (fj (he pins s σ H _ I h) λv s1 ⟨x,H1,I1,r1,q1⟩=>?_);refine wpAny_Slice (fj (hl pins s1 σ H1 _ I1 q1) λvl s2 ⟨l,H2,I2,pl,q2⟩=>fj (hu pins s2 σ H2 _ I2 q2) λvu s3 ⟨u,H3,I3,pu,q3⟩=>?_);rw[evalPart_none];refine XS ?_;have I4:aP X pins σ H3 {s3 with heap:=s3.heap.push {cls:=.type "slice",data:=.fields (List.toArray [vl,vu,.none])}}:=I3.kept (t':=s3.toks) λb ob q=>XQ _ q;obtain⟨T,id,hT,ht,hg⟩:=hr pins {s3 with heap:=s3.heap.push {cls:=.type "slice",data:=.fields (List.toArray [vl,vu,.none])}} σ H3 x v vl vu l u s3.heap.objs.size Q I4 r1 (Heap.IsSliceOf.new ..) pl pu q3;show Yg (Yw X.prog X.w) X.A (subscriptTail e (.Slice lo hi none p2) v (.ref s3.heap.objs.size)) (EP X pins σ Q) X.xe {s3 with heap:=s3.heap.push {cls:=.type "slice",data:=.fields (List.toArray [vl,vu,.none])}};exact tail_any (ops:=[.ref s3.heap.objs.size,v]) ht hT hg (by rfl)
noncomputable def tj (xs:List V)(lo hi:Option Int):List V:=(xs.drop (HT.sIx xs.length 0 lo)).take (HT.sIx xs.length xs.length hi-HT.sIx xs.length 0 lo)
theorem qA (xs:List V)(lo hi:Option Int):(tj xs lo hi).length<=xs.length:=by
 unfold tj;rw[Ys,YR];lia
def Qd (K:XX):V->Option Int->Option Int->Hp->VK->Prop:=λx lo hi H Q=>∃a xs,x=.ref a/\i6 K H a xs/\
 ¬(HT.sIx xs.length 0 lo=0/\HT.sIx xs.length xs.length hi=xs.length)/\∀p,H p=none->Q (.ref p) (dF H p (.tup (tj xs lo hi)))
theorem Nu:Fh X (Qd X.K):=by
 intro pins s σ H x v vl vu lo hi sl Q I rx hs pl pu h;obtain⟨a,xs,rfl,hx,hw,q⟩:=h;cases rx;obtain⟨aA,r,ht,hz⟩:=I.tuple hx;have du:aA.toArray.size=xs.length:=by rw[XZ];exact r.length.symm
 refine⟨"tuple",_,PyProof.Rows.slot_tuple_getitem.lookup,ht.typeIs,?_⟩;refine HT.getItem_tuple_cut ht hs pl pu (by rw[du];exact hw) ?_ (by rw[du];exact hz);rw[du];refine⟨.ref s.heap.objs.size,_,I.laid (t':=s.toks) (o:=.tup (tj xs lo hi)) (λb ob q=>XQ _ q) (X6 _) ?_,rfl,q _ (I.hok.fresh (X6 _))⟩;exact⟨YX (qA xs lo hi) hz,_,(r.drop (HT.sIx xs.length 0 lo)).take (HT.sIx xs.length xs.length hi-HT.sIx xs.length 0 lo),IsTup.new _ _,_,X8 _ rfl⟩
def Qe (K:XX):R2:=λx y H Q=>∃a b xs ys,x=.ref a/\y=.ref b/\i6 K H a xs/\i6 K H b ys/\xs≠[]/\xs.length+ys.length<=XU/\
 (ys=[]->Q (.ref a) H)/\(ys≠[]->∀p,H p=none->Q (.ref p) (dF H p (.tup (xs++ys))))
theorem bw.nil_iff {us:List XY}(r:bw xs us):us=[]↔xs=[]:=by
 cases r with
 |nil=>simp
 |cons _ _=>simp
theorem JA:l7 X (abi .Add) (Qe X.K):=by
 intro pins s σ H x y v u Q I rx ry h;obtain⟨a,b,xs,ys,rfl,rfl,ha,hb,hx,hz,q1,q2⟩:=h;cases rx;cases ry;obtain⟨aA,r1,p1,_⟩:=I.tuple ha;obtain⟨its2,r2,p2,_⟩:=I.tuple hb;refine HT.cat_tup p1 p2 (λz=>hx (r1.nil_iff.mp z)) (λz=>⟨.ref a,H,I,rfl,q1 (r2.nil_iff.mp z)⟩) (λz=>?_) (by rw[←r1.length,←r2.length];exact hz);refine⟨.ref s.heap.objs.size,_,I.laid (t':=s.toks) (o:=.tup (xs++ys)) (λb ob q=>XQ _ q) (X6 _) ?_,rfl,q2 (λw=>z (r2.nil_iff.mpr w)) _ (I.hok.fresh (X6 _))⟩;exact⟨by rw[XW];exact hz,_,r1.append r2,IsTup.new _ _,_,X8 _ rfl⟩
end
end L2
namespace L2
noncomputable def Be (n:Nat)(i:Int):Option Nat:=if 0<=i then (if i<n then some i.toNat else none) else if -(n:Int)<=i then some (i+n).toNat else none
noncomputable def mS {α:Type}(xs:List α)(i:Int):Option α:=(Be xs.length i).bind λj=>xs[j]?
theorem Cf {i:Int}(h:Be n i=some j):adC i n=some j/\j<n/\ -(n:Int)<=i/\i<n:=by
 unfold Be at h;by_cases h0:0<=i
 ·rw[hZ h0] at h;by_cases h1:i<n
  ·rw[hZ h1] at h;grind[Yl,seqIndex_of]
  ·rw[hV h1] at h;cases h
 ·rw[hV h0] at h;by_cases h1 : -(n:Int)<=i
  ·rw[hZ h1] at h;grind[Yl,seqIndex_neg]
  ·rw[hV h1] at h;cases h
theorem w9 {α:Type}{xs:List α}{i:Int}{v:α}(h:mS xs i=some v):∃j,adC i xs.length=some j/\xs[j]? = some v/\j<xs.length/\ -(xs.length:Int)<=i/\i<xs.length:=by
 unfold mS at h;cases e:Be xs.length i with
 |none=>rw[e] at h;cases h
 |some j=>
  rw[e] at h;obtain⟨h1,h2,h3,h4⟩:=Cf e;exact⟨j,h1,h,h2,h3,h4⟩
def Cg (b:aaj):Prop:=∀o i,subscripted b false o i=operate [o,i] (getItem o i)
def Ja (X:Cx)(r:R2):Prop:=
 ∀(value slice:aaj) (pins:List (Ye×Obj)) (s:Ya) (σ:St) (H:Hp) (x y:V) (v u:XY) (Q:VK),aP X pins σ H s->bX x v->bX y u->r x y H Q->
  subscripted slice false v u=operate [v,u] (getItem v u)->Yg (Yw X.prog X.w) X.A (subscriptTail value slice v u) (EP X pins σ Q) X.xe s
def Jb (X:Cx)(id:String)(r:V->List V->Hp->VK->Prop):Prop:=
 ∀(pins:List (Ye×Obj)) (s:Ya) (σ:St) (H:Hp) (x:V) (xs:List V) (v:XY) (us:List XY) (Q:VK),aP X pins σ H s->bX x v->bw xs us->r x xs H Q->
  Yg (Yw X.prog X.w) X.A (call (.builtin id) (v::us)) (EP X pins σ Q) X.xe s
section
variable {a b:aaj}{ta tb:TE}{pos:Pos}
theorem Ja.or {r':R2}(h:Ja X r)(h':Ja X r'):Ja X (λx y H Q=>r x y H Q\/r' x y H Q):=by
 intro value slice pins s σ H x y v u Q I rx ry q hs;rcases q with q|q
 ·exact h value slice pins s σ H x y v u Q I rx ry q hs
 ·exact h' value slice pins s σ H x y v u Q I rx ry q hs
theorem Jb.or {id:String}{r r':V->List V->Hp->VK->Prop}(h:Jb X id r)(h':Jb X id r'):Jb X id (λx xs H Q=>r x xs H Q\/r' x xs H Q):=by
 intro pins s σ H x xs v us Q I rx rs q;rcases q with q|q
 ·exact h pins s σ H x xs v us Q I rx rs q
 ·exact h' pins s σ H x xs v us Q I rx rs q
def Fj (hr:Ja X r)(ha:PE X a ta)(hb:PE X b tb)(hs:Cg b):PE X (.Subscript a b pos) (P5 r ta tb):=by
 intro pins s σ H Q I h;exact Subscript_ (Nm ha hb I h λv u s2 x y H2 I2 rx ry q=>hr a b pins s2 σ H2 x y v u Q I2 rx ry q (hs _ _))
def Qf (K:XX):R2:=λx y H Q=>∃p xs i v,x=.ref p/\y=.int i/\fS K H p xs/\mS xs i=some v/\Q v H
def Qg (K:XX):R2:=λx y H Q=>∃p xs i v,x=.ref p/\y=.int i/\i6 K H p xs/\mS xs i=some v/\Q v H
def Qh:R2:=λx y H Q=>∃z i c,x=.str z/\y=.int i/\z.length<=XU/\mS z.cps.toList i=some c/\Q (.str ⟨(List.toArray [c])⟩) H
theorem w_:Ja X (Qf X.K):=by
 intro value slice pins s σ H x y v u Q I rx ry h hs;obtain⟨p,xs,i,z,rfl,rfl,hq,he,q⟩:=h;cases rx;obtain⟨t,rfl⟩:=ry;obtain⟨aA,r,pl,hz⟩:=I.list hq;obtain⟨j,h1,h2,h3,h4,h5⟩:=w9 he;obtain⟨w,ew,rw'⟩:=r.get h2;have hl:=r.length;have hn:=pU;have fin:EP X pins σ Q w s:=⟨z,H,I,rw',q⟩;by_cases h0:0<=i
 ·have hj:i.toNat=j:=by
   rw[seqIndex_of h0 h5] at h1;exact Yl h1
  exact item_listR pl.isList h0 (by lia) (by grind) fin hs
 ·have hj:(i+(aA.toArray.size:Int)).toNat=j:=by
   rw[seqIndex_neg (by lia) h4] at h1;rw[XZ,←hl];exact Yl h1
  exact subscriptTail_builtinR (x:=w) pl.isList.typeIs slot_list_getitem.lookup
   (wpAny_getItem_list_neg (Q:=λr s'=>r=w/\EP X pins σ Q r s') pl.isList (by lia) (by rw[XZ]<;>lia) (by lia) (by grind) ⟨rfl,fin⟩) hs
theorem Nv:Ja X (Qg X.K):=by
 intro value slice pins s σ H x y v u Q I rx ry h hs;obtain⟨p,xs,i,z,rfl,rfl,hq,he,q⟩:=h;cases rx;obtain⟨t,rfl⟩:=ry;obtain⟨aA,r,pl,hz⟩:=I.tuple hq;obtain⟨j,h1,h2,h3,h4,h5⟩:=w9 he;obtain⟨w,ew,rw'⟩:=r.get h2;have hl:=r.length;have hn:=pU;have fin:EP X pins σ Q w s:=⟨z,H,I,rw',q⟩;exact subscriptTail_builtinR (x:=w) pl.typeIs slot_tuple_getitem.lookup
  (getItem_tuple (j:=j) (Q:=λr s'=>r=w/\EP X pins σ Q r s') pl (by lia) (by lia) (by grind) (by grind) ⟨rfl,fin⟩) hs
theorem Nw:Ja X Qh:=by
 intro value slice pins s σ H x y v u Q I rx ry h hs;obtain⟨z,i,c,rfl,rfl,hz,he,q⟩:=h;obtain⟨t,rfl⟩:=rx;obtain⟨t',rfl⟩:=ry;obtain⟨j,h1,h2,h3,h4,h5⟩:=w9 he;have hl:z.cps.toList.length=z.length:=by rfl
 rw[hl] at h1 h4 h5;have hn:=pU;exact tail_any (typeIs_str s z t) slot_str_getitem.lookup (getItem_str (c:=c) (by
  lia) (by grind) ⟨.str ⟨(List.toArray [c])⟩,H,I.tok _,⟨_,rfl⟩,q⟩) hs
def UQ (K:XX):R2:=λx y H Q=>Qf K x y H Q\/Qg K x y H Q\/Qh x y H Q
def aB:Ja X (UQ X.K):=w_.or (Nv.or Nw)
def Bf (aA:List XY)(n j:Nat)(u:XY):aaJ (·.setIfInBounds j u) {cls:=.type "list",data:=.seq aA.toArray n}={cls:=.type "list",data:=.seq (aA.set j u).toArray n}:=by
 simp[aaJ]
theorem aP.lst {p:Ye}(I:aP X pins σ H s)(h:H p=some (.lst xs)) :
  ∃(aA:List XY) (n:Nat),bw xs aA/\s.heap.get? p=some {cls:=.type "list",data:=.seq aA.toArray n}/\xs.length<=XU:=by
 obtain⟨z,aA,n,r,e⟩:=I.hok p _ h;exact⟨aA,n,r,e,z⟩
def aP.lstUpd {p:Ye}{ys:List V}{its':List XY}{n':Nat}{f:Obj->Obj}(I:aP X pins σ H s)(h:H p=some (.lst xs))(ho:s.heap.get? p=some {cls:=.type "list",data:=.seq aA.toArray n})(hf:f {cls:=.type "list",data:=.seq aA.toArray n}={cls:=.type "list",data:=.seq its'.toArray n'})(r:bw ys its')(hz:ys.length<=XU)(t:Nat) :
  aP X pins σ (dF H p (.lst ys)) {s with heap:=s.heap.update p f,toks:=t}:=by
 have e:(s.heap.update p f).get? p=some {cls:=.type "list",data:=.seq its'.toArray n'}:=by
  rw[Zv f ho (by rw[hf]<;>rfl),hf]
 refine I.write (x:=p) (e:=p) (by rw[h];trivial) (.inl rfl) (λb u hb q=>(aaG _ _ (acN hb)).trans q) ⟨_,e⟩ ?_;exact⟨hz,its',n',r,e⟩
def Qi:V->V->V->Hp->(Hp->Prop)->Prop:=λo i v H Q=>∃p xs k j,o=.ref p/\i=.int k/\H p=some (.lst xs)/\Be xs.length k=some j/\Q (dF H p (.lst (xs.set j v)))
theorem Fm:PZ X Qi:=by
 intro pins s σ H o i v ov iv u Q I ro ri rv h;obtain⟨p,xs,k,j,rfl,rfl,hp,hj,q⟩:=h;cases ro;obtain⟨t,rfl⟩:=ri;obtain⟨aA,n,r,ho,hz⟩:=I.lst hp;obtain⟨h1,h2,h3,h4⟩:=Cf hj;have hl:=r.length;have hn:=pU;have I':aP X pins σ (dF H p (.lst (xs.set j v))) {s with heap:=s.heap.update p (aaJ (·.setIfInBounds j u))}:=
  I.lstUpd hp ho (Bf aA n j u) (r.set rv j) (by rw[Zw];exact hz) s.toks
 grind[seqIndex_of,Yl,PySem.W.ki_setAt,XZ,seqIndex_neg,PySem.W.ki_setBack]
theorem xa (lo hi:Option Int)(n:Nat):(ach lo hi none n).1=((HT.sIx n 0 lo:Nat):Int)/\(ach lo hi none n).2.1=((HT.sIx n n hi:Nat):Int)/\(ach lo hi none n).2.2=1:=by
 refine⟨?_,?_,rfl⟩
 ·cases lo with
  |none=>rfl
  |some i=>
   simp only[ach,HT.sIx,acB,show (1:Int)>0 by decide,if_true];by_cases h:i<0
   ·simp only[h,if_true]<;>lia
   ·simp only[h,if_false]<;>lia
 ·cases hi with
  |none=>rfl
  |some i=>
   simp only[ach,HT.sIx,acB,show (1:Int)>0 by decide,if_true];by_cases h:i<0
   ·simp only[h,if_true]<;>lia
   ·simp only[h,if_false]<;>lia
theorem vp (aA:List XY)(lo hi:Option Int):slicePick aA.toArray lo hi none=((aA.drop (HT.sIx aA.length 0 lo)).take (HT.sIx aA.length aA.length hi-HT.sIx aA.length 0 lo)).toArray:=by
 obtain⟨h1,h2,h3⟩:=xa lo hi aA.toArray.size;unfold slicePick;rw[h1,h2,h3];simp only[sliceRange_one,pick_run,XZ]<;>rfl
def JB (K:XX):V->Option Int->Option Int->Hp->VK->Prop:=λx lo hi H Q=>∃a xs,x=.ref a/\fS K H a xs/\∀p,H p=none->Q (.ref p) (dF H p (.lst (tj xs lo hi)))
theorem JC:Fh X (JB X.K):=by
 intro pins s σ H x v vl vu lo hi sl Q I rx hs pl pu h;obtain⟨a,xs,rfl,hx,q⟩:=h;cases rx;obtain⟨aA,r,ht,hz⟩:=I.list hx;have du:=r.length;refine⟨"list",_,slot_list_getitem.lookup,ht.isList.typeIs,?_⟩;refine wpAny_getItem_list_slice ht.isList hs pl pu .none (by simp) ?_ (by grind);rw[vp,←du];refine⟨.ref s.heap.objs.size,_,I.laid (t':=s.toks) (o:=.lst (tj xs lo hi)) (λb ob q=>XQ _ q) (X6 _) ?_,rfl,q _ (I.hok.fresh (X6 _))⟩;exact⟨YX (qA xs lo hi) hz,_,0,(r.drop (HT.sIx xs.length 0 lo)).take (HT.sIx xs.length xs.length hi-HT.sIx xs.length 0 lo),X8 _ rfl⟩
noncomputable def kZ:V->Bool
 | .non=>true
 | .bl _=>true
 | .int _=>true
 | .str _=>true
 |_=>false
noncomputable def EV:V->V->Bool
 | .non,.non=>true
 | .bl a,.bl b=>a==b
 | .bl a,.int b=>(if a then 1 else 0)==b
 | .int a,.bl b=>a==(if b then 1 else 0)
 | .int a,.int b=>a==b
 | .str a,.str b=>a==b
 |_,_=>false
theorem Ny {A:YG}{x:V}{u v:XY}(ry:bX y u)(rx:bX x v)(fy:kZ y=true)(fx:kZ x=true):abu A s u v (EV y x):=by
 cases y with
 |non=>
  cases ry;cases x with
  |non=>cases rx;exact acQ _
  |bl b=>cases rx;exact SeqAt.EqAt.none_bool b
  |int b=>obtain⟨t,rfl⟩:=rx;exact SeqAt.EqAt.none_int b t
  |str b=>obtain⟨t,rfl⟩:=rx;exact SeqAt.EqAt.none_str b t
  |_=>exact absurd (show false=true from fx) XR
 |bl a=>
  cases ry;cases x with
  |non=>cases rx;exact SeqAt.EqAt.bool_none a
  |bl b=>cases rx;exact SeqAt.EqAt.bool_bool a b
  |int b=>obtain⟨t,rfl⟩:=rx;exact SeqAt.EqAt.bool_int a b t
  |str b=>obtain⟨t,rfl⟩:=rx;exact SeqAt.EqAt.bool_str a b t
  |_=>exact absurd (show false=true from fx) XR
 |int a=>
  obtain⟨t',rfl⟩:=ry;cases x with
  |non=>cases rx;exact SeqAt.EqAt.int_none a t'
  |bl b=>cases rx;exact SeqAt.EqAt.int_bool a t' b
  |int b=>obtain⟨t,rfl⟩:=rx;exact ac_ a t' b t
  |str b=>obtain⟨t,rfl⟩:=rx;exact ac7 a t' b t
  |_=>exact absurd (show false=true from fx) XR
 |str a=>
  obtain⟨t',rfl⟩:=ry;cases x with
  |non=>cases rx;exact SeqAt.EqAt.str_none a t'
  |bl b=>cases rx;exact SeqAt.EqAt.str_bool a t' b
  |int b=>obtain⟨t,rfl⟩:=rx;exact ac8 a t' b t
  |str b=>obtain⟨t,rfl⟩:=rx;exact SeqAt.EqAt.str_str a t' b t
  |_=>exact absurd (show false=true from fx) XR
 |_=>exact absurd (show false=true from fy) XR
noncomputable def Nz (x:V)(u:XY):Bool:=match u with
 | .none=>EV .non x
 | .bool b=>EV (.bl b) x
 | .int i _=>EV (.int i) x
 | .str z _=>EV (.str z) x
 |_=>false
theorem Bg {x:V}{u:XY}(r:bX y u)(f:kZ y=true):Nz x u=EV y x:=by
 cases y with
 |non=>cases r;rfl
 |bl b=>cases r;rfl
 |int i=>obtain⟨t,rfl⟩:=r;rfl
 |str z=>obtain⟨t,rfl⟩:=r;rfl
 |_=>exact absurd (show false=true from f) XR
theorem tm {A:YG}{s:Ya}{x:V}{v:XY}(rx:bX x v)(fx:kZ x=true):∀{xs:List V} {us:List XY},bw xs us->xs.all kZ=true->∀u∈us,abu A s u v (Nz x u)
 |_,_,.nil,_=>λu hu=>by cases hu
 |y::xs,u::us,.cons r t,f=>λu' hu=>by
  rw[Z6,YD] at f;rcases Yb.mp hu with rfl|hu
  ·rw[Bg r f.1];exact Ny r rx f.1 fx
  ·exact tm rx fx t f.2 u' hu
theorem xb:eO X (.type "list") (λxs H Q=>∃p ys,xs=[.ref p]/\(fS X.K H p ys\/i6 X.K H p ys)/\∀l,H l=none->Q (.ref l) (dF H l (.lst ys))):=by
 intro pins s σ H xs us Q I r h;obtain⟨p,ys,rfl,hq,q⟩:=h;obtain⟨u,rfl,rx⟩:=jF r;cases rx;have fin:∀(aA:List XY),bw ys aA->ys.length<=XU->∀(h':Z9) (c':Nat),(∀b o',s.heap.get? b=some o'->h'.get? b=some o')->
   h'.get? s.heap.objs.size=some {cls:=.type "list",dict:=none,data:=.seq aA.toArray c',slots:=(List.toArray [])}->EP X pins σ Q (.ref s.heap.objs.size) {s with heap:=h'}:=λaA r' hz h' c' kp e=>
  ⟨.ref s.heap.objs.size,_,I.laid (t':=s.toks) kp (X6 _) (show cD X.prog X.w _ h' _ (.lst ys) from ⟨hz,aA,c',r',e⟩),rfl,q _ (I.hok.fresh (X6 _))⟩
 rcases hq with hq|hq
 ·obtain⟨aA,r',pl,hz⟩:=I.list hq;have du:=r'.length;obtain⟨o,ho,hc,n,hd⟩:=pl.isList;exact call_list_seq p (.inl rfl) ho hc hd (λh' c' kp e=>fin aA r' hz h' c' kp e) (by simp only[XZ]<;>lia)
 ·obtain⟨aA,r',pl,hz⟩:=I.tuple hq;have du:=r'.length;obtain⟨o,ho,hc,n,hd⟩:=pl;exact call_list_seq p (.inr rfl) ho hc hd (λh' c' kp e=>fin aA r' hz h' c' kp e) (by simp only[XZ]<;>lia)
theorem br:eO X (.type "tuple") (λxs H Q=>∃p ys,xs=[.ref p]/\((fS X.K H p ys/\∀l,H l=none->Q (.ref l) (dF H l (.tup ys)))\/(i6 X.K H p ys/\Q (.ref p) H))):=by
 intro pins s σ H xs us Q I r h;obtain⟨p,ys,rfl,h⟩:=h;obtain⟨u,rfl,rx⟩:=jF r;cases rx;rcases h with⟨hq,q⟩|⟨hq,q⟩
 ·obtain⟨aA,r',pl,hz⟩:=I.list hq;have du:=r'.length;refine call_tuple_list pl.isList (λh' kp=>?_) (by simp only[XZ]<;>lia);have I1:aP X pins σ H {s with heap:=h'}:=I.kept (t':=s.toks) kp;have I2:aP X pins σ (dF H h'.objs.size (.tup ys)) {s with heap:=h'.push {cls:=.type "tuple",data:=.seq aA.toArray}}:=
   I1.laid (t':=s.toks) (λb o e=>XQ _ e) (X6 _) (show cD X.prog X.w _ _ _ (.tup ys) from ⟨hz,aA,r',IsTup.new _ _,_,X8 _ rfl⟩)
  exact⟨.ref h'.objs.size,_,I2,rfl,q _ (I1.hok.fresh (X6 _))⟩
 ·obtain⟨aA,r',pl,hz⟩:=I.tuple hq;exact call_tuple_same pl ⟨.ref p,H,I,rfl,q⟩
def S7 (K:XX)(T:String)(x:V)(H:Hp):Prop:=match x with
 | .str _=>T="str"
 | .int _=>T="int"
 | .ref p=>(T="list"/\∃xs,fS K H p xs)\/(T="tuple"/\((∃o,K.lookup p=some o/\o.cls=.type "tuple"/\o.dict=none)\/∃xs,H p=some (.tup xs))) \/
   (T="dict"/\((∃ir,H p=some (.dK ir))\/∃ir,H p=some (.dT ir)))\/(T="set"/\∃S n,H p=some (.set S n))
 |_=>False
theorem NA {T:String}{x:V}{v:XY}(I:aP X pins σ H s)(r:bX x v)(ty:S7 X.K T x H) :
  s.TypeIs v T/\∀a,v=.ref a->∃ob,s.heap.get? a=some ob/\ob.dict=none:=by
 cases x with
 |str z=>
  obtain⟨t,rfl⟩:=r;cases (show T="str" from ty);grind[typeIs_str]
 |int i=>
  obtain⟨t,rfl⟩:=r;cases (show T="int" from ty);grind[typeIs_int]
 |ref p=>
  cases r;rcases ty with⟨rfl,xs,hq⟩|⟨rfl,⟨o,hk,hc,hd⟩|⟨xs,hq⟩⟩|⟨rfl,hk⟩|⟨rfl,S,n,hk⟩
  ·obtain⟨aA,_,pl,_⟩:=I.list hq;refine⟨pl.isList.typeIs,λa e=>?_⟩;cases e;obtain⟨o,n,e,c,hd,_⟩:=pl;exact⟨o,e,hd⟩
  ·refine⟨⟨o,I.kIn p o hk,hc⟩,λa e=>?_⟩;cases e;exact⟨o,I.kIn _ o hk,hd⟩
  ·obtain⟨_,aA,_,⟨o,e,c,_⟩,n2,e2⟩:=I.hok p _ hq;refine⟨⟨o,e,c⟩,λa e'=>?_⟩;grind
  ·have z:∃o,s.heap.get? p=some o/\o.ExactDict:=by
    rcases hk with⟨ir,hk⟩|⟨ir,hk⟩
    ·obtain⟨_,_,_,_,o,_,_,e,ex,_⟩:=I.hok p _ hk;exact⟨o,e,ex⟩
    ·obtain⟨_,_,_,_,o,_,_,e,ex,_⟩:=I.hok p _ hk;exact⟨o,e,ex⟩
   obtain⟨o,e,ex⟩:=z;refine⟨⟨o,e,ex.1⟩,λa e2=>?_⟩;cases e2;exact⟨o,e,ex.2.1⟩
  ·obtain⟨o,_,_,_,e,ex,_⟩:=I.hok p _ hk;refine⟨⟨o,e,ex.1⟩,λa e2=>?_⟩;cases e2;exact⟨o,e,ex.2.1⟩
 |_=>exact Zy ty
def UR (K:XX)(T:String)(r:V->List V->Hp->VK->Prop)(to:TE)(t:TA):TE:=λσ H Q=>to σ H λx H1=>S7 K T x H1/\t σ H1 λxs H2=>r x xs H2 Q
variable {o e:aaj}{es:List aaj}{to:TE}{t:TA}{name:Str}{AN cpos:Pos}{T id:String}{r:V->List V->Hp->VK->Prop}
theorem yJ (pa:PlainAttrs T)(slot:Slot T name id)(T9:typeOf (.builtin id)=pure (.type "method_descriptor"))(hm:Jb X id r)(ho:PE X o to)(ha:PA X (e::es) t)
  (IB:attributeBase o name X.env (abh o X.env)=abh o X.env:=by rfl)
  (OZ:((aan cpos (X7 (e::es) X.env)).all (λx=> !x.1)&&(backToKw cpos (keywordEach [] X.env)).all (λx=>x.1.isSome)
   && decide ((e::es).length+([]:List Keyword).length+(if ([]:List Keyword).isEmpty then 0 else 1)<30))=true:=by rfl)
  (IC:(AN.endLine==cpos.line)=true:=by rfl) (hs:X7 (e::es) X.env=(false,abh e X.env)::X7 es X.env:=by rfl) (B2:(aan cpos (X7 es X.env)).any (·.1)=false:=by rfl) :
  PE X (.Call (.Attribute o name AN) (e::es) [] cpos) (UR X.K T r to t):=by
 intro pins s σ H Q I h;refine wpAny_Call_method_late IB OZ IC rfl (fj (ho pins s σ H _ I h) λv s1 ⟨x,H1,I1,r1,ty,q1⟩=>?_);obtain⟨h1,h2⟩:=NA I1 r1 ty;refine⟨T,id,pa,slot,T9,h1,h2,?_⟩;have hA:=ha cpos pins s1 σ H1 _ I1 q1;rw[hs] at hA ⊢;refine Calls.callWith_builtin (by grind) (Calls.evalArgs_plain ?_);exact fj hA λus s2 ⟨vs,H2,I2,r2,q2⟩=>hm pins s2 σ H2 x vs v us Q I2 r1 r2 q2
end
end L2
namespace L2
def RX (X:Cx)(id:String)(r:V->List V->Hp->VK->Prop):Prop:=
 ∀(pins:List (Ye×Obj)) (s:Ya) (σ:St) (H:Hp) (x:V) (xs:List V) (v:XY) (us:List XY) (Q:VK),aP X pins σ H s->bX x v->bw xs us->r x xs H Q->
  Yg (Yw X.prog X.w) X.A (call (.builtin id) (v::us)) (EP X pins σ Q) X.xe s
def bw.one:∀{x:V} {us:List XY},bw [x] us->∃u,us=[u]/\bX x u
 |_,_,.cons r .nil=>⟨_,rfl,r⟩
theorem bw.eraseIdx:∀{xs:List V} {us:List XY} (i:Nat),bw xs us->bw (xs.eraseIdx i) (us.eraseIdx i)
 |_,_,_,.nil=>.nil
 |_,_,0,.cons _ t=>t
 |_,_,i+1,.cons r t=>.cons r (bw.eraseIdx i t)
theorem vP {α:Type}:∀(l:List α) (i:Nat),(l.eraseIdx i).length<=l.length
 | [],_=>X6 _
 |_::_,0=>Nat.le_succ _
 |_::r,i+1=>Nat.succ_le_succ (vP r i)
section
variable {l b:Ye}{ys zs:List V}
def aP.lset {t':Nat}{its':List XY}{f:Array XY->Array XY}(I:aP X pins σ H s)(hH:H l=some (.lst xs))(e:s.heap.get? l=some {cls:=.type "list",data:=.seq aA.toArray n})(hf:f aA.toArray=its'.toArray)(hv:bw ys its')(hz:ys.length<=XU) :
  aP X pins σ (dF H l (.lst ys)) {s with heap:=s.heap.update l (aaJ f),toks:=t'}:=by
 have q:=PySem.IsL.update e f;rw[hf] at q;refine I.write (x:=l) (e:=l) (by rw[hH];exact trivial) (.inl rfl) (λb' u hb hu=>(aaG s.heap (aaJ f) (acN hb)).trans hu) ⟨_,q⟩ ?_;exact⟨hz,its',_,hv,q⟩
def aP.lnew {t':Nat}(I:aP X pins σ H s)(hv:bw ys aA)(hz:ys.length<=XU) :
  aP X pins σ (dF H s.heap.objs.size (.lst ys)) {s with heap:=s.heap.push {cls:=.type "list",data:=.seq aA.toArray},toks:=t'}:=
 I.laid (λ_ _ q=>XQ _ q) (X6 _) ⟨hz,aA,0,hv,X8 _ rfl⟩
def aP.fresh (I:aP X pins σ H s):H s.heap.objs.size=none:=I.hok.fresh (X6 _)
theorem aP.lstM (I:aP X pins σ H s)(hH:H l=some (.lst xs)):xs.length<=XU/\∃(aA:List XY) (n:Nat),bw xs aA/\xs.length=aA.length/\s.heap.get? l=some {cls:=.type "list",data:=.seq aA.toArray n}:=by
 obtain⟨z,aA,n,r,e⟩:=I.hok l _ hH;exact⟨z,aA,n,r,r.length,e⟩
theorem tq (h:n<=XU):aaf n=false:=by
 simp_all[aaf,hU]
end
def Ci:V->List V->Hp->VK->Prop:=λx vs H Q=>∃l xs y,x=.ref l/\vs=[y]/\H l=some (.lst xs)/\xs.length<XU/\Q .non (dF H l (.lst (xs++[y])))
theorem pY:RX X "list.append" Ci:=by
 intro pins s σ H x vs v us Q I rx rv h;obtain⟨l,xs,y,rfl,rfl,hH,hz,q⟩:=h;cases rx;obtain⟨u,rfl,ru⟩:=rv.one;obtain⟨z,aA,n,r,hl,e⟩:=I.lstM hH;refine acM F.slot_list_append ⟨_,e,rfl⟩ F.entry_list_append (F.args_list_append_2 _ _) (PySem.list_append l aA.toArray n u (by rw[XZ];lia)) ⟨e,?_⟩;refine⟨.non,_,I.lset (its':=aA++[u]) hH e (by simp) (r.append (.cons ru .nil)) ?_,rfl,q⟩;rw[XW,ZP];lia
def JD:V->List V->Hp->VK->Prop:=λx vs H Q=>∃l b xs zs,x=.ref l/\vs=[.ref b]/\H l=some (.lst xs)/\H b=some (.lst zs)/\xs.length+zs.length<=XU/\Q .non (dF H l (.lst (xs++zs)))
theorem Pn:RX X "list.extend" JD:=by
 intro pins s σ H x vs v us Q I rx rv h;obtain⟨l,b,xs,zs,rfl,rfl,hH,hB,hz,q⟩:=h;cases rx;obtain⟨u,rfl,ru⟩:=rv.one;cases ru;obtain⟨z,aA,n,r,hl,e⟩:=I.lstM hH;obtain⟨z2,its2,n2,r2,IG,e2⟩:=I.lstM hB;have hsz:aA.toArray.size+its2.toArray.size<=XU:=by grind
 have AM:¬(!aA.toArray.isEmpty&&aaf (aA.toArray.size+its2.toArray.size))=true:=by
  rw[tq hsz,abA];exact XR
 refine acM ada ⟨_,e,rfl⟩ acR (acG _ _)
  (AutoSeq1.list_extend_list_list_0 l aA.toArray n b its2.toArray n2 AM (by lia) (by lia)) ⟨e,e2,?_⟩
 refine⟨.non,_,I.lset (its':=aA++its2) hH e (by simp) (r.append r2) ?_,rfl,q⟩;rw[XW];lia
def Fo:V->List V->Hp->VK->Prop:=λx vs H Q=>∃l xs i k y,x=.ref l/\vs=[.int i]/\H l=some (.lst xs)/\ -(2 ^ 63)<=i/\i<2 ^ 63/\adC i xs.length=some k/\xs[k]? = some y/\Q y (dF H l (.lst (xs.eraseIdx k)))
theorem Fp:RX X "list.pop" Fo:=by
 intro pins s σ H x vs v us Q I rx rv h;obtain⟨l,xs,i,k,y,rfl,rfl,hH,h1,h2,hk,hy,q⟩:=h;cases rx;obtain⟨u,rfl,ru⟩:=rv.one;obtain⟨t,rfl⟩:=ru;obtain⟨z,aA,n,r,hl,e⟩:=I.lstM hH;obtain⟨w,hw,rw'⟩:=r.get hy;refine acM F.slot_list_pop ⟨_,e,rfl⟩ F.entry_list_pop (F.args_list_pop_2 _ _)
  (MeetsSeq.list_pop_at l aA.toArray n i t k w (fitsIndex_both h1 h2) (by grind) (by grind) (by rw[XZ];lia)) ⟨e,?_⟩
 refine⟨y,_,I.lset (its':=aA.eraseIdx k) hH e ?_ (r.eraseIdx k) ?_,rw',q⟩
 ·simp
 ·have:=vP xs k;lia
def S8:R2:=λx y H Q=>∃l b xs zs,x=.ref l/\y=.ref b/\H l=some (.lst xs)/\H b=some (.lst zs)/\xs.length+zs.length<=XU/\∀p,H p=none->Q (.ref p) (dF H p (.lst (xs++zs)))
theorem Fq:l7 X (abi .Add) S8:=by
 intro pins s σ H x y v u Q I rx ry h;obtain⟨l,b,xs,zs,rfl,rfl,hH,hB,hz,q⟩:=h;cases rx;cases ry;obtain⟨z,aA,n,r,hl,e⟩:=I.lstM hH;obtain⟨z2,its2,n2,r2,IG,e2⟩:=I.lstM hB;refine PySem.P.add_list e e2 ?_ (by rw[XZ,XZ];lia);have ea:aA.toArray++its2.toArray=(aA++its2).toArray:=by simp
 rw[ea];exact⟨.ref _,_,I.lnew (t':=s.toks) (r.append r2) (by rw[XW];lia),rfl,q _ I.fresh⟩
section
variable {w:Y6}{A:YG}
set_option maxRecDepth 100000 in
end
end L2
namespace Att
open PySem.W PySem.Calls
theorem rM {P:Params}:∀(ns:List Int) (vs:List XY),WellAll P h vs (ns.map WData.int)->aaU vs ns:=by
 intro ns
 induction ns with
 |nil=>
  intro vs w;rw[aaa] at w;cases w;exact .nil
 |cons n ns ih=>
  intro vs w;rw[X5] at w;cases w with
  |cons a b=>
   cases a;exact .cons _ _ (ih _ b)
theorem D6 {l:OpenLaw}(hn:l.most=some n){P:Params}{args:List WData}{O0:List XY}(Lh:l.row.toRowW.claim.pre args=true)(T_:WellAll P h O0 args) :
  ∃a vs ns,O0=[Value.ref a]/\args=[WData.list (ns.map WData.int)]/\h.get? a=some {cls:=.type "list",data:=.seq vs.toArray}/\aaU vs ns/\ns.length<=n:=by
 have V5:WShape.hasAll [] args [.list .int]=true:=(pre_splitW Lh).1;have hc:l.pre.holds [] {args:=args}=true:=(pre_splitW Lh).2;obtain⟨d,r,rfl,h1,h2⟩:=hasAllW_cons V5;obtain rfl:=hasAllW_nil h2;obtain⟨xs,rfl,h3⟩:=hasW_list h1;obtain⟨ns,rfl⟩:=items_int h3;have du:ns.length<=n:=by
  unfold OpenLaw.pre at hc;have h4:(WTm.not (.lt (.lit (.int (n:Int))) (.len (.arg 0)))).holds [] {args:=[.list (ns.map .int)]}=true:=by
   have h4:=(holds_andW hc).1;rw[hn] at h4;exact h4
  have h5:=condW_of h4 (w_not (w_lt w_lit (w_len_list (w_arg rfl))));grind
 cases T_ with
 |cons w1 w2=>
  cases w2;cases w1 with
  |list ho hall=>exact⟨_,_,ns,rfl,rfl,ho,rM ns _ hall,du⟩
def D7 (l:OpenLaw)(args:List WData):l.row.toRowW.claim.post args (.bool true) args=true:=
 postW_of (r:=l.row.toRowW) (X:=(true==true))
  (show WShape.has [] (.bool true) .bool=true by rfl)
  (show (WTm.eq .res (.lit (.bool true))).value [] {args:=args,res:=some (.bool true),after:=args}=some (.bool (true==true)) from w_eq_bool (w_res rfl) w_lit) rfl
theorem attach_call {l:OpenLaw}{q:aaT}{d:DefRec}(hn:l.most=some n)(Rq:d.params.defaults=[])(call:∀(w:Y6) (s₀ s₁:Ya) (mg mb:Str->Option XY) (fa:Ye) (o:Obj) (pm cd kX:XY) (a:Ye) (vs:List XY) (ns:List Int),
   Ground q loose [] XP w s₀ mg mb s₁.heap->YP w s₁.heap->
   s₁.heap.get? fa=some o->o.data=.func (docDef d.name d.params d.body d.scope pm cd kX)->s₁.heap.CodeRec cd d.name->mg d.name=some (.ref fa)->
   s₁.heap.get? a=some {cls:=.type "list",data:=.seq vs.toArray}->aaU vs ns->ns.length<=n->s₁.gens=(List.toArray [])->
   acg (Yw l.prog w) callerA (.call (.ref fa) ⟨[.ref a],[]⟩) (λr s'=>r=.ok (.ret (.bool true))/\OldK s₁.heap s'.heap/\s'.os=s₁.os/\adj s'.gens) s₁) :
  WalkO q loose XP YP l.row.toRowW d [] (λf vs=>PySem.call f vs):=by
 intro w s₀ s₁ mg mb G Y fa o pm cd kX dV kV ho hd kI hD Rr hg args O0 as Lh V6 Xw T_ Ua;obtain rfl:dV=.none:=Dflts.none hD Rq;obtain rfl:kV=.none:=Dflts.noKw hD;obtain⟨a,vs,ns,rfl,rfl,O1,ID,du⟩:=D6 hn Lh T_;refine enter_call (aaL (call w s₀ s₁ mg mb fa o pm cd kX a vs ns G Y ho (fd_plain hd) kI Rr O1 ID du hg) λr s' hq=>?_);obtain⟨rfl,h2,h3,h4⟩:=hq;exact⟨.inl ⟨.bool true,.bool true,[],rfl,λ_=>rfl,.bool true,D7 l _,λ_=>⟨List.Pairwise.nil,λ_ hm=>(nomatch hm)⟩⟩,h2,h3,h4⟩
end Att
namespace L2
theorem vQ:∀{vs:List XY} {ns:List Int},aaU vs ns->bw (ns.map V.int) vs
 |_,_,.nil=>.nil
 |_,_,.cons n t h=>.cons ⟨t,rfl⟩ (vQ h)
def JE (H:Hp):Prop:=∀b,H b=none\/∃o xs,H b=some (.frz o (.lst xs))
theorem Fs {w:Y6}{mb:Str->Option XY}{fa:Ye}{s₁:Ya}{vs:List XY}(KX:K.In s₁.heap)(Vc:s₁.heap.Ns YC mg)(hb:s₁.heap.Ns builtinsNs mb)(V7:∀x:Str,x≠"__name__"->mb x=YQ x)(Ub:s₁.heap.NoLimit)(hg:s₁.gens=(List.toArray []))(ha:s₁.heap.get? a=some {cls:=.type "list",data:=.seq vs.toArray})(hi:aaU vs ns)(hl:ns.length<=XU)(hr:eV k callerA)(F:∀base:Z9,K.In base->base.Ns YC mg->j3 P w K mg base CX k fa fd [x] sp)(Rt:∀(s:Ya) (u:XY),BindsTo s fd ⟨[u],[]⟩ [(x,u)])(Iz:∀H:Hp,JE H->fS K H a (ns.map V.int)->sp [.ref a] H (λv _=>v=.bl true) λ_ _ _=>False)(Uc:∀H e s',CX [] H s₁ (λ_ _ _=>False) e s'->False) :
  acg (Yw P w) callerA (.call (.ref fa) ⟨[.ref a],[]⟩) (λr s'=>r=.ok (.ret (.bool true))/\OldK s₁.heap s'.heap/\s'.os=s₁.os/\adj s'.gens) s₁:=by
 have rv:=vQ hi;have Ud:=hi.length;have Ru:∀H:Hp,JE H->fS K H a (ns.map V.int)->mR P w H s₁.heap->(∀b,H b≠none->b=a)->(H a≠none->K.lookup a=none)->
   acg (Yw P w) callerA (.call (.ref fa) ⟨[.ref a],[]⟩) (λr s'=>r=.ok (.ret (.bool true))/\OldK s₁.heap s'.heap/\s'.os=s₁.os/\adj s'.gens) s₁:=by
  intro H hO hS hok hA hK;have DD:∀{b:Ye} {o:Obj},s₁.heap.get? b=some o->H b=none->(wY s₁.heap H).get? b=some o:=λe n=>E1 e n;have Lg:∀{b:Ye} {o:Obj} {es:Array DictEntry} {ep:Nat},s₁.heap.get? b=some o->o.data=.dict es ep->H b=none:=λ{b o es ep} e d=>by
   grind
  have Sj:∀{b:Ye} {m:Str->Option XY},s₁.heap.Ns b m->(wY s₁.heap H).Ns b m:=λ{b m} ⟨o,es,ep,e,d,r⟩=>⟨o,es,ep,DD e (Lg e d),d,r⟩;have Vd:K.In (wY s₁.heap H):=λb o e=>DD (KX b o e) (by
   grind)
  have hM:Mod K mg (wY s₁.heap H):=⟨Vd,Sj Vc,⟨mb,Sj hb,V7⟩,let ⟨mc,h1,h2⟩:=Ub;⟨mc,Sj h1,h2⟩⟩;have e0:D4 P w K mg (wY s₁.heap H) callerA [] s₁ H:=⟨rfl,hM,λb o e=>Jl e,Nat.le_of_eq (DQ _ _),trivial,λb hb=>absurd (show b∈([]:List Ye) from hb) (by simp),hok,.of_eq hg⟩;refine aaL ((F _ Vd (Sj Vc)).run callerA [] s₁ H ⟨[.ref a],[]⟩ [.ref a] [.ref a] _ _ hr e0 (Rt s₁ (.ref a)) (.cons rfl .nil) (Iz H hO hS)) λr s' h=>?_;cases r with
  |error e=>exact (Uc H e s' h).elim
  |ok fl=>
   cases fl with
   |next=>exact Zy h
   |brk=>exact Zy h
   |cont=>exact Zy h
   |ret u=>
    obtain⟨v,H',os,bare,un,hok',r',q⟩:=h;have q':v=.bl true:=q;subst q';obtain rfl:u=Value.bool true:=r';refine⟨rfl,OldK.of_keep λb o e=>?_,os,bare⟩;cases q:H b with
    |none=>exact un.keep b o e q (by intro z;exact absurd (show b∈([]:List Ye) from z) (by simp)) (by simp)
    |some u=>
     rcases hO b with z|⟨ob,xs,z⟩
     ·lia
     ·have z2:=un.frzs b ob _ z;obtain⟨e1,_⟩:=hok b _ z;obtain⟨e2,_⟩:=hok' b _ z2;lia
 cases hk:K.lookup a with
 |some o=>
  have e:=KX a o hk;rw[ha] at e;cases e;refine Ru (λ_=>none) (λ_=>.inl rfl) (.inr ⟨_,vs.toArray,_,hk,rfl,rfl,rfl,by rw[XZ,Ud];exact hl,by lia⟩) (λb u z=>by lia) (λb z=>absurd rfl z) λz=>absurd rfl z
 |none=>
  refine Ru (λb=>if b=a then some (.frz {cls:=.type "list",data:=.seq vs.toArray} (.lst (ns.map V.int))) else none) (λb=>?_) (.inl (.inr ⟨{cls:=.type "list",data:=.seq vs.toArray},hZ rfl⟩)) (λb u z=>?_) (λb z=>?_) λ_=>hk
  ·grind
  ·by_cases hb:b=a
   ·have z':=(hZ hb).symm.trans z;cases z';subst hb;exact⟨ha,by rw[XO];exact hl,vs,_,rv,ha⟩
   lia
  lia
end L2
namespace L2
theorem walk_of {l:PySem.W.OpenLaw}{q:aaT}{d:DefRec}{K:Params->XX}{CX:Y6->CXT}{sp:Y6->Sp}(hn:l.most=some n)(MT:n<=XU)(Rq:d.params.defaults=[])(hr:eV k callerA)(hY:∀(w:Y6) (h:Z9),YP w h->(K w.params).In h)(F:∀(w:Y6) (mg:Str->Option XY) (fa:Ye) (h:Z9),(K w.params).In h->h.Ns YC mg->mg d.name=some (.ref fa)->
   ∃fd:aa9,(∀(s:Ya) (u:XY),BindsTo s fd ⟨[u],[]⟩ [(x,u)])/\
    ∀base:Z9,(K w.params).In base->base.Ns YC mg->j3 l.prog w (K w.params) mg base (CX w) k fa fd [x] (sp w))(Iz:∀(w:Y6) (H:Hp) (a:Ye) (ns:List Int),ns.length<=n->JE H->fS (K w.params) H a (ns.map V.int)->sp w [.ref a] H (λv _=>v=.bl true) λ_ _ _=>False)(Uc:∀(w:Y6) (H:Hp) (s:Ya) (e:XY) (s':Ya),CX w [] H s (λ_ _ _=>False) e s'->False) :
  PySem.W.WalkO q loose XP YP l.row.toRowW d [] (λf vs=>PySem.call f vs):=by
 refine Att.attach_call hn Rq λw s₀ s₁ mg mb fa o pm cd kX a vs ns G Y ho hd kI Rr O1 ID du hg=>?_;have KX:=hY w _ Y;obtain⟨fd,hb,hF⟩:=F w mg fa _ KX G.T.g Rr;exact Fs KX G.T.g G.T.b G.T.builtins G.T.nolimit hg O1 ID (YX du MT) hr hF hb (λH hO hS=>Iz w H a ns du hO hS) λH e s'=>Uc w H s₁ e s'
end L2
namespace L2
abbrev vR:CXT:=λ_ _ _ _ _ _=>False
abbrev E0:XK:=λ_ _ _=>False
def Qj:Ba vR X E0:=λ_ _ _ _ _ _ _ h=>h.elim
structure Jc (K:XX)(x qual:Str)(st:ab7)(f:Ye)(fd:aa9):Prop where
 ex:∃(oc:XY) (od:Option Ye) (kV kX pm:XY) (an:Option Ye) (bQ ct:XY) (osl:Array (Option XY)),
  fd=Zu x qual (ff st) (cJ st) (aq st) .none kV kX pm an bQ ct/\K.lookup f=some ⟨oc,od,.func fd,osl⟩/\acr K bQ qual=true
 kp:Zn K (.ref f)=true
section
variable {w:Y6}{base:Z9}
theorem Jc.ok (F:Jc K x qual st f fd)(S:aW N ps (aq st))(len:∀vs H Q E,sp vs H Q E->vs.length=ps.length)(gf:∀(bQ:XY) (A:YG) (outer:List Env) (s:Ya) (H:Hp) (vs:List V) (Q:VK) (E:XK),eV k (A.deeper (aae qual (aq st) s.heap.objs.size f bQ))->sp vs H Q E->
   ∃t,sU (jC vR P w K mg base N qual (aq st) f bQ A outer s H E).nox (cJ st) t/\t {nx:=λ_ H'=>Q .non H',rt:=Q} (abc N vs) H):j3 P w K mg base vR (k+1) f fd ps sp:=by
 obtain⟨oc,od,kV,kX,pm,an,bQ,ct,osl,rfl,lk,kI⟩:=F.ex;refine Lu lk kI S len λA outer s H vs Q E hr Iz=>?_;obtain⟨t,h,q⟩:=gf bQ A outer s H vs Q E hr Iz;exact⟨t,h.nox,q⟩
theorem Jc.binds (F:Jc K x qual st f fd)(h:∀(kV kX pm:XY) (an:Option Ye) (bQ ct:XY) (us:List XY),us.length=ps.length->bindArgs (Zu x qual (ff st) (cJ st) (aq st) .none kV kX pm an bQ ct) ⟨us,[]⟩=pure (ps.zip us)):j4 K fd ps []:=by
 obtain⟨oc,od,kV,kX,pm,an,bQ,ct,osl,rfl,lk,kI⟩:=F.ex;exact .all (h kV kX pm an bQ ct)
def Ft {oc:XY}{kV kX pm bQ ct:XY}(l:K.lookup f=some ⟨oc,od,.func (Zu x qual (ff st) (cJ st) (aq st) .none kV kX pm an bQ ct),osl⟩)(c:acr K bQ qual=true)(k:Zn K (.ref f)=true):Jc K x qual st f (Zu x qual (ff st) (cJ st) (aq st) .none kV kX pm an bQ ct):=⟨⟨oc,od,kV,kX,pm,an,bQ,ct,osl,rfl,l,c⟩,k⟩
end
def cm {A:YG}(hr:eV k A):A.units+1<abH:=ab1 (Nat.add_le_add_left (by decide:1<=64) _) hr.units
def pv (i:Nat){pos:Pos}(hN:X.N[i]? = some x:=by rfl)(hv:DR X.env.scope x:=by first|exact Or.inl rfl|exact Or.inr (Or.inl rfl)|exact Or.inr (Or.inr rfl))(hd:(x==("__debug__":Str))=false:=by decide)(kI:(x==("__classdict__":Str))=false:=by decide):PE X (.Name x pos) (Jm i):=i5 hN hv hd kI
theorem iteF {A B:Prop}(h:B):if false=true then A else B:=by
 lia
def aX (H H':Hp):Prop:=∀b o,H b=some o->H' b=some o
theorem aX.refl (H:Hp):aX H H:=λ_ _ h=>h
theorem aX.trans (a:aX H H1)(b:aX H1 H2):aX H H2:=λc o h=>b c o (a c o h)
theorem aX.seq (e:aX H H')(h:fS K H a xs):fS K H' a xs:=by
 rcases h with (h|⟨o,h⟩)|h
 ·exact .inl (.inl (e _ _ h))
 ·exact .inl (.inr ⟨o,e _ _ h⟩)
 ·exact .inr h
end L2
namespace L2
theorem Bh {env:Env}(hf:∀x,(x,NameKind.free)∈scope.names->∃c,env.cells.lookup x=some c) :
  ∃cl:List (Str×Ye),closureFor scope env=pure cl/\(∀x c,cl.lookup x=some c->env.cells.lookup x=some c)/\∀x,(x,NameKind.free)∈scope.names->∃c,cl.lookup x=some c:=by
 have gen:∀(names:List (Str×adJ)) (cs:List (Str×Ye)),(∀x,(x,NameKind.free)∈names->∃c,env.cells.lookup x=some c)->(∀x c,cs.lookup x=some c->env.cells.lookup x=some c)->
   ∃cl:List (Str×Ye),(forIn names cs λ(x:Str×adJ) (r:List (Str×Ye))=>(match x with|(name,kind)=>if (kind==NameKind.free)=true then (do let a ←cellOf env name;pure (ForInStep.yield ((name,a)::r))) else pure (ForInStep.yield r):Sem (ForInStep (List (Str×Ye)))))=(pure cl:Sem _)/\
    (∀x c,cl.lookup x=some c->env.cells.lookup x=some c)/\(∀x c,cs.lookup x=some c->∃c',cl.lookup x=some c')/\∀x,(x,NameKind.free)∈names->∃c,cl.lookup x=some c:=by
  intro names
  induction names with
  |nil=>intro cs _ h;exact⟨cs,rfl,h,λx c e=>⟨c,e⟩,λx hx=>absurd hx (by simp)⟩
  |cons p r ih=>
   intro cs hn h;obtain⟨n,k⟩:=p;by_cases hk:k=NameKind.free
   ·subst hk;obtain⟨c,hc⟩:=hn n X2;have h':∀x c',((n,c)::cs).lookup x=some c'->env.cells.lookup x=some c':=λx c' e=>by
     grind
    obtain⟨cl,e1,e2,e3,e4⟩:=ih ((n,c)::cs) (λx hx=>hn x (X4 _ hx)) h';refine⟨cl,?_,e2,λx c' e=>?_,λx hx=>?_⟩
    ·rw[aa4];have:cellOf env n=pure c:=by unfold cellOf;rw[hc]
     simp only[beq_self_eq_true,if_true,this];exact e1
    ·grind
    grind
   ·obtain⟨cl,e1,e2,e3,e4⟩:=ih cs (λx hx=>hn x (X4 _ hx)) h;grind
 obtain⟨cl,e1,e2,_,e4⟩:=gen scope.names [] hf (λx c e=>by simp at e);refine⟨cl,?_,e2,e4⟩;unfold closureFor;grind
structure rN where
 C:Ye
 s:Ya
 H:Hp
 fp:List Ye
 pins:List (Ye×Obj)
 cl:List (Str×Ye)
noncomputable abbrev eo (X:Cx)(scope:acY)(N:List Str)(Y:rN):Cx where
 prog:=X.prog
 w:=X.w
 K:=X.K
 mg:=X.mg
 base:=X.base
 A:=X.A
 N:=N
 s₀:=Y.s
 H₀:=Y.H
 env:=compEnvC scope Y.cl Y.C X.env
 outer:=X.stack
 stack:=X.stack
 ex:=Y.fp
 fn:=λ_=>false
 calm:=X.calm
 pn:=X.pn++Y.pins
 xe:=λ_ _=>False
noncomputable def tv (kO:acY)(NX:List Str)(scope:acY)(N:List Str)(js:List (Option Nat)):Bool:=
 decide (scope.kind=.function)&&scope.names.all (λy=>decide (y.2≠.cell))&&scope.names.all (λy=>decide (y.2=.local->scope.names.lookup y.1=some .local))&&decide (js.length=N.length) &&
 (js.zip N).all (λp=>match p.1 with|none=>true|some j=>decide (NX[j]? = some p.2)&&decide (scope.names.lookup p.2=some .free)) &&
 scope.names.all (λy=>decide (y.2=.free->kO.names.lookup y.1=some .cell\/kO.names.lookup y.1=some .free))
structure oq (kO:acY)(NX:List Str)(scope:acY)(N:List Str)(js:List (Option Nat)):Prop where
 kind:scope.kind=.function
 nocell:∀y∈scope.names,y.2≠.cell
 loc:∀y∈scope.names,y.2=.local->scope.names.lookup y.1=some .local
 len:js.length=N.length
 cap:∀(i j:Nat) (x:Str),js[i]? = some (some j)->N[i]? = some x->NX[j]? = some x/\scope.names.lookup x=some .free
 free:∀x,(x,NameKind.free)∈scope.names->kO.names.lookup x=some .cell\/kO.names.lookup x=some .free
theorem tv.to {kO:acY}{NX:List Str}(h:tv kO NX scope N js=true):oq kO NX scope N js:=by
 unfold tv at h;simp only[YD] at h;obtain⟨⟨⟨⟨⟨h1,h2⟩,h3⟩,h4⟩,h5⟩,h6⟩:=h;refine⟨of_decide_eq_true h1,λy hy=>of_decide_eq_true (YT.mp h2 y hy),λy hy=>of_decide_eq_true (YT.mp h3 y hy),of_decide_eq_true h4,λi j x e1 e2=>?_,λx hx=>of_decide_eq_true (YT.mp h6 (x,NameKind.free) hx) rfl⟩;have hz:(js.zip N)[i]? = some (some j,x):=by
  rw[List.getElem?_zip_eq_some];exact⟨e1,e2⟩
 have q:=YT.mp h5 _ (YA hz);simp only[YD] at q;exact⟨of_decide_eq_true q.1,of_decide_eq_true q.2⟩
noncomputable def vS (js:List (Option Nat))(σ:St):St:=js.map λo=>match o with
 |none=>none
 |some j=>match σ[j]? with
  |some v=>v
  |none=>none
theorem ou {env:Env}(wU:∀y∈scope.names,y.2≠.cell)(h:(relabel scope env).names.lookup x=some .cell\/(relabel scope env).names.lookup x=some .free):(x,NameKind.free)∈scope.names:=by
 have gen:∀k,(k=NameKind.cell\/k=NameKind.free)->(relabel scope env).names.lookup x=some k->(x,NameKind.free)∈scope.names:=λk hk e=>by
  have hm:=YM e;obtain⟨⟨n,k0⟩,hy,q⟩:=Yn.mp hm;grind
 grind
theorem eQ {env:Env}{x:Str}:∀{names:List (Str×adJ)},names.lookup x=some .free->
  (names.map λ(n,k)=>if (k==NameKind.free&&env.scope.kind==.function&&env.kindOf n==some .cell) then (n,NameKind.cell) else (n,k)).lookup x=some .cell \/
  (names.map λ(n,k)=>if (k==NameKind.free&&env.scope.kind==.function&&env.kindOf n==some .cell) then (n,NameKind.cell) else (n,k)).lookup x=some .free
 | [],h=>by simp at h
 | (n,k)::r,h=>by
  rw[X5];by_cases hx:x==n
  ·grind
  ·have vk:=aa3.mpr hx;rw[Zk,vk] at h;have ih:=eQ (env:=env) (x:=x) (names:=r) h;grind
def D8 (X:Cx)(rH:List aaj)(t:TT):Prop:=
 ∀(pins:List (Ye×Obj)) (s:Ya) (σ:St) (H:Hp) (Q:Bool->Hp->Prop),aP X pins σ H s->t σ H Q->
  Yg (Yw X.prog X.w) X.A (forIn rH true λc r=>if r=true then do let ok ←isTrue c X.env (abh c X.env);pure (ForInStep.yield ok) else pure (ForInStep.yield r)) (TP X pins σ Q) X.xe s
def S9:TT:=λ_ H Q=>Q true H
def Fv:D8 X [] S9:=λ_ _ _ H _ I h=>wpAny_tests_nil ⟨H,I,h⟩
def Fw {t:TT}(h:PT X c t):D8 X [c] t:=λpins s σ H Q I q=>wpAny_tests_one (h pins s σ H Q I q)
end L2
namespace L2
theorem k7 {w:Y6}{A:YG}{R:Result->Ya->Prop}{qs:aaj}{pos:Pos}{it b9:XY}{env:Env}(I:Nat->Ya->Prop)(turn:∀n s,I n s->Yg (Yw prog w) A (ab9 it) (λr s₁=>match r with
   |none=>R (.ok .next) s₁
   |some v=>Yg (Yw prog w) A (acO qs it v) (λ_ Ve=>Yg (Yw prog w) A (assign qs env v) (λ_ s₂=>
     Yg (Yw prog w) A (forIn rH true λc r=>if r=true then do let ok ←isTrue c env (abh c env);pure (ForInStep.yield ok) else pure (ForInStep.yield r)) (λok s₃=>
      if ok=true then Yg (Yw prog w) A (abh elt env) (λx s₄=>
       Yg (Yw prog w) A (call (.builtin "list.append") [b9,x]) (λ_ s₅=>∃m,m<n/\I m s₅) (λ_ _=>False) s₄) (λ_ _=>False) s₃
      else ∃m,m<n/\I m s₃) (λ_ _=>False) s₂) (λ_ _=>False) Ve) (λ_ _=>False) s₁) (λ_ _=>False) s)(n:Nat)(h:I n s) :
  acg (Yw prog w) A (.compLoop (.ListComp elt [⟨qs,iter,rH,0⟩] scope pos) 0 it b9 env) R s:=by
 refine codeAny_loop rfl I (λn s hI=>?_) n h;show Yg _ A ((compTurn (.ListComp elt [⟨qs,iter,rH,0⟩] scope pos) 0 it b9 env).onRaise (λx=>do noteFrame x env;theTreesLotGoes x)) _ _ s;refine wpAny_noted ?_;rw[compTurn_list];have fe:∀{e:XY} {s':Ya} {Z:Prop},(λ(_:XY) (_:Ya)=>False) e s'->Z:=λh=>h.elim;refine XM (wpAny_standAt (XM (Zc (turn n s hI) (λr s₁ h₁=>?_) λ_ _ h'=>h'.elim)));cases r with
 |none=>exact XS h₁
 |some v=>
  refine XM (Zc h₁ (λ_ Ve V8=>?_) λ_ _ h'=>h'.elim);refine XM (Zc V8 (λ_ s₂ h₂=>XM (Zc h₂ (λok s₃ h₃=>?_) λ_ _ h'=>h'.elim)) λ_ _ h'=>h'.elim);cases ok with
  |false=>exact XS ⟨rfl,h₃⟩
  |true=>
   exact XM (XM (Zc h₃ (λx s₄ h₄=>XM (Zc h₄ (λ_ s₅ h₅=>XS (XS ⟨rfl,h₅⟩)) λ_ _ h'=>h'.elim)) λ_ _ h'=>h'.elim))
def Qk (J:It)(js:List (Option Nat))(g:rN->TG)(tt:rN->TT)(te:rN->TE)(σ:St)(H1:Hp)(P:List V->Hp->Prop):Prop:=
 ∀Y:rN,∃W:Nat->Nat->List V->Hp->Prop,(∃m,W 0 m [] H1)/\∀i m ys H2,W i m ys H2->
  (J.stop i H2/\P ys H2) \/
  (J.go i H2/\ys.length<XU/\∃Nx:List V->Hp->Prop,(∀MV H',Nx MV H'->∃m',m'<m/\W (i+1) m' MV H')/\∀x H3,J.yld i H2 x H3->g Y x (vS js σ) H3 λσ4 H4=>tt Y σ4 H4 λb H5=>
   if b=true then te Y σ4 H5 λy H6=>Nx (ys++[y]) H6 else Nx ys H5)
def RY (wi:TI)(js:List (Option Nat))(g:rN->TG)(tt:rN->TT)(te:rN->TE):TE:=λσ H Q=>wi σ H λJ H1=>
 Qk J js g tt te σ H1 λys H2=>∀p,H2 p=none->Q (.ref p) (dF H2 p (.lst ys))
theorem tw {E:XY->Ya->Prop}{s2:Ya}{kO:acY}{pos:Pos}{g:rN->TG}{tt:rN->TT}{te:rN->TE}{J:It}{tn:Nat->Z9->Prop}{P:List V->Hp->Prop}{cl:List (Str×Ye)}{RR:XY->Ye->Result->Ya->Prop}(I:aP X pins σ H s2)(hc:X.calm=true)(T:DU X.prog X.w X.K tg J fp it tn)(mF:tn 0 s2.heap)(f2:∀b∈fp,rL X pins H b)(rJ:∀Y:rN,PG (eo X scope N Y) tg (g Y)/\D8 (eo X scope N Y) rH (tt Y)/\PE (eo X scope N Y) elt (te Y))(S:oq kO X.N scope N js)(kT:X.env.scope=kO)(c1:∀x c,cl.lookup x=some c->X.env.cells.lookup x=some c)(c2:∀x,(x,NameKind.free)∈scope.names->∃c,cl.lookup x=some c)(h:Qk J js g tt te σ H P)(hR:∀(b9 C:Ye) (ys:List V) (H':Hp) (s':Ya),aP X pins σ (dF H' b9 (.lst ys)) s'->(∃m,s'.heap.Ns C m)->rL X pins (dF H' b9 (.lst ys)) C->H' b9=none->P ys H'->RR (.ref b9) C (.ok .next) s') :
  Yg (Yw X.prog X.w) X.A (newList []) (λb9 s₃=>Yg (Yw X.prog X.w) X.A (newFunctionEnv scope X.env.globals cl [] X.env.qual none .none (some X.env)) (λRv s₄=>
   acg (Yw X.prog X.w) X.A (.compStart (.ListComp elt [⟨tg,iter,rH,0⟩] scope pos) 0 (.ref it) b9 {Rv with scope:=relabel scope X.env}) (RR b9 Rv.locals) s₄) E s₃) E s2:=by
 refine YY (wpAny_newFunctionEnv S.nocell (by simp) (λh₁ O2 Li=>?_) S.kind);dsimp only at O2 Li ⊢;generalize hH2:s2.heap.push {cls:=.type "list",dict:=none,data:=.seq ([]:List XY).toArray}=H2 at O2 Li ⊢;have hC:H2.objs.size=s2.heap.objs.size+1:=by rw[←hH2,aas]
 have Sk:s2.heap.objs.size≠H2.objs.size:=by lia
 have Lj:s2.heap.objs.size<=H2.objs.size:=by lia
 have below:∀b,b<s2.heap.objs.size->b≠H2.objs.size/\b≠s2.heap.objs.size:=λb hb=>⟨by lia,Ym hb⟩;have old:∀b o,s2.heap.get? b=some o->h₁.get? b=some o:=λb o e=>Li.extBut b o (below b (X_ e)).1 (XQ _ (hH2▸XQ _ e));have jr:h₁.PlainList s2.heap.objs.size (List.toArray []):=⟨_,Li.extBut _ _ Sk (XQ _ (hH2▸X8 _ rfl))⟩;have Ue:∀b∈fp,b<s2.heap.objs.size:=λb hb=>by
  obtain⟨o,e,_⟩:=T.obj _ _ mF b hb;exact X_ e
 generalize hCg:H2.objs.size=C at *;generalize hAg:s2.heap.objs.size=b9 at *
 let Y:rN:=⟨C,s2,H,fp,pins,cl⟩
 have ok:(eo X scope N Y).Ok:=by
  refine⟨I.ok.mod,S.kind,I.ok.glob,I.ok.blt,?_,λx y c e1 e2=>I.ok.inj x y c (c1 x c e1) (c1 y c e2),λx hx=>c2 x (ou S.nocell hx),λx c e=>(by cases e),I.ok.hd,I.ok.frames,.inl rfl,λb hb=>⟨?_,λx c e=>?_⟩,I.bs,YX I.ok.bsz I.sz,λb o e hb=>?_,λb hb hf=>?_,I.stack,I.stkFree⟩
  ·show s2.heap.objs.size<=C;rw[hAg];exact Lj
  ·exact (below b (Ue b hb)).1
  ·exact (f2 b hb).2.2.2.2.1 x c (c1 x c e)
  ·rcases (f2 b hb).2.2.2.1 with z|z
   ·exact I.ok.noex b o e z
   ·exact absurd (YE (X_ (I.ok.bs b o e).1) z) (ZJ _)
  ·rcases Yb.mp (I.stkSub b hf) with z|z
   ·exact (f2 b hb).2.1 z
   ·exact (f2 b hb).2.2.1 z
 have Ug:∀x c,X.env.cells.lookup x=some c->c<b9:=λx c e=>by
  obtain⟨v,q⟩:=I.cell x c e;rw[←hAg];exact q.lt
 have MU:∀p∈X.pn++pins,p.1<b9:=λp hp=>by rw[←hAg];exact X_ (I.pin p hp).1
 have Xx:X.env.locals<b9:=by rw[←hAg];exact I.lt
 have Rx:∀b∈sR X.stack,b<b9:=λb hb=>by
  obtain⟨_,o,ho,_⟩:=I.stack.mem hb;rw[←hAg];exact X_ ho
 have Ry:∀p∈X.pn++pins,p.1∉sR X.stack:=λp hp hf=>by
  rcases Yb.mp (I.stkSub _ hf) with z|z
  ·exact (I.pin p hp).2.2.1 z
  ·exact (I.pin p hp).2.2.2.1 z
 have DF:H b9=none:=by rw[←hAg];exact I.hok.fresh (X6 _)
 have V9:H C=none:=I.hok.fresh (by rw[hAg];exact Lj);have I4:∀tk:Nat,aP (eo X scope N Y) [] (vS js σ) H {s2 with heap:=h₁,toks:=tk}:=λtk=>by
  refine⟨ok,rfl,I.bare,Un.kept old,⟨_,O2,λi x v e1 e2 e3=>?_⟩,λx c e=>?_,V9,λx c e=>I.freeC x c (c1 x c e),λp hp=>?_,I.hok.kept old,?_⟩
  ·
   have Lk:(vS js σ)[i]? = some (some v):=e2;unfold vS at Lk;rw[Yq] at Lk;cases hj:js[i]? with
   |none=>rw[hj] at Lk;cases Lk
   |some o=>
    rw[hj] at Lk;cases o with
    |none=>cases Lk
    |some j=>
     have e4:(match σ[j]? with|some v=>v|none=>none)=some v:=Yl Lk;obtain⟨nx,fr⟩:=S.cap i j x hj e1;have e5:σ[j]? = some (some v):=by
      lia
     obtain⟨m,hn,hl⟩:=I.loc;have kx:X.env.scope.names.lookup x=some .cell\/X.env.scope.names.lookup x=some .free:=by rw[kT];exact S.free x (YM fr)
     obtain⟨u,r,lk⟩:=hl j x v nx e5 (.inr kx);refine⟨u,r,.inr ⟨eQ fr,?_⟩⟩;obtain⟨c,hcl⟩:=c2 x (YM fr);rcases lk with⟨k,_⟩|⟨k,c',e',z⟩
     ·have k':X.env.scope.names.lookup x=some .local:=k;lia
     ·have:c'=c:=by
       grind
      subst this;obtain⟨o,ho,hd⟩:=z;exact⟨c',hcl,o,old _ _ ho,hd⟩
  ·obtain⟨v,o,ho,hd⟩:=I.cell x c (c1 x c e);exact⟨v,o,old _ _ ho,hd⟩
  ·have Jh:p∈X.pn++pins:=by simpa using hp
   obtain⟨q1,q2,q3,q4,q5⟩:=I.pin p Jh;exact⟨old _ _ q1,q2,λz=>absurd (MU p Jh) (by rw[z];exact Nat.not_lt.mpr Lj),Ry p Jh,q5⟩
  ·show (vS js σ).length=N.length;unfold vS;rw[XO];exact S.len
 obtain⟨hg,ht,he⟩:=rJ Y;obtain⟨W,⟨m0,w0⟩,turn⟩:=h Y;have Uh:∀{H':Hp} {pl:List (Ye×Obj)},H' b9=none->(∀p∈pl,p.1≠b9)->rL (eo X scope N Y) pl H' b9:=λ{H' pl} hn hp=>by
  refine⟨hn,Sk,λz=>absurd (Rx _ z) (ZJ _),.inr (by lia),λx c e=>Ym (Ug x c (c1 x c e)),λp Jh=>?_⟩;grind
 have Ui:∀{H':Hp} {pl:List (Ye×Obj)},(∀b∈fp,H' b=none)->(∀p∈pl,p.1∉fp)->∀b∈fp,rL (eo X scope N Y) pl H' b:=λ{H' pl} hn hp b hb=>by
  refine⟨hn b hb,(below b (Ue b hb)).1,λz=>?_,.inl hb,λx c e=>(f2 b hb).2.2.2.2.1 x c (c1 x c e),λp Jh=>?_⟩
  ·rcases Yb.mp (I.stkSub b z) with q|q
   ·exact (f2 b hb).2.1 q
   ·exact (f2 b hb).2.2.1 q
  ·rcases Yk.mp Jh with z|z
   ·exact (f2 b hb).2.2.2.2.2 p z
   grind
 have Vf:b9∉fp:=λz=>absurd (Ue b9 z) (by lia);have Uj:∀{i:Nat} {x:Str} {v:V},N[i]? = some x->(vS js σ)[i]? = some (some v)->∃u c o,bX v u/\scope.names.lookup x=some .free/\cl.lookup x=some c/\s2.heap.get? c=some o/\o.data=.cell (some u):=λ{i x v} e1 e2=>by
  unfold vS at e2;rw[Yq] at e2;cases hj:js[i]? with
  |none=>rw[hj] at e2;cases e2
  |some o=>
   rw[hj] at e2;cases o with
   |none=>cases e2
   |some j=>
    have e4:(match σ[j]? with|some v=>v|none=>none)=some v:=Yl e2;obtain⟨nx,fr⟩:=S.cap i j x hj e1;have e5:σ[j]? = some (some v):=by
     lia
    obtain⟨m,hn,hl⟩:=I.loc;have kx:X.env.scope.names.lookup x=some .cell\/X.env.scope.names.lookup x=some .free:=by rw[kT];exact S.free x (YM fr)
    obtain⟨u,r,lk⟩:=hl j x v nx e5 (.inr kx);obtain⟨c,hcl⟩:=c2 x (YM fr);rcases lk with⟨k,_⟩|⟨k,c',e',z⟩
    ·have k':X.env.scope.names.lookup x=some .local:=k;rcases kx with q|q<;>· rw[q] at k';cases k'
    ·have:c'=c:=by
      grind
     subst this;obtain⟨o,ho,hd⟩:=z;exact⟨u,c',o,r,fr,hcl,ho,hd⟩
 have Rz:∀{pl:List (Ye×Obj)} {σ':St} {H':Hp} {s':Ya},aP (eo X scope N Y) pl σ' H' s'->aP (eo X scope N Y) pl (vS js σ) H' s':=λ{pl σ' H' s'} K=>by
  refine⟨K.ok,K.os,K.bare,K.base,?_,K.cell,K.free,K.freeC,K.pin,K.hok,?_⟩
  ·obtain⟨m,hn,_⟩:=K.loc;refine⟨m,hn,λi x v e1 e2 e3=>?_⟩;obtain⟨u,c,o,r,fr,hcl,ho,hd⟩:=Uj e1 e2;refine⟨u,r,.inr ⟨eQ fr,c,hcl,?_⟩⟩;obtain⟨sl,q⟩:=K.base.any ho (I.freeC x c (c1 x c hcl)) λz=>(f2 c z).2.2.2.2.1 x c (c1 x c hcl) rfl;exact⟨_,q,hd⟩
  ·show (vS js σ).length=N.length;unfold vS;rw[XO];exact S.len
 have loop:∀tk:Nat,acg (Yw X.prog X.w) X.A (.compLoop (.ListComp elt [⟨tg,iter,rH,0⟩] scope pos) 0 (.ref it) (.ref b9) (compEnvC scope cl C X.env)) (RR (.ref b9) C) {s2 with heap:=h₁,toks:=tk}:=by
  intro tk;refine k7 (λn s'=>∃(i:Nat) (ys:List V) (aA:List XY) (H':Hp),aP (eo X scope N Y) [] (vS js σ) H' s'/\tn i s'.heap/\(∀b∈fp,H' b=none)/\H' b9=none/\s'.heap.PlainList b9 aA.toArray/\bw ys aA/\ys.length<=XU/\W i n ys H') ?_ m0
   ⟨0,[],[],H,I4 tk,T.keep _ _ _ mF (λb hb o e=>old b o e),λb hb=>(f2 b hb).1,DF,jr,.nil,ZT _,w0⟩
  rintro n s3 ⟨i,ys,aA,H3,I3,Jj,fr3,na3,⟨nn,ea⟩,rv3,hz3,w3⟩;have O3:∀p∈[(b9,({cls:=.type "list",data:=.seq aA.toArray nn}:Obj))],p.1∉fp:=λp hp=>by
   grind
  have Ip:aP (eo X scope N Y) [(b9,({cls:=.type "list",data:=.seq aA.toArray nn}:Obj))] (vS js σ) H3 s3:=I3.pins_of λp hp=>by
   have e:p=(b9,({cls:=.type "list",data:=.seq aA.toArray nn}:Obj)):=by grind
   subst e;exact⟨ea,na3,Sk,λz=>absurd (Rx _ z) (ZJ _),λv z=>by cases z⟩
  rcases turn i n ys H3 w3 with⟨stop,p⟩|⟨go,yt,Nx,hNx,step⟩
  ·refine Zc (T.done (eo X scope N Y) rfl rfl rfl hc i _ s3 _ H3 (λ_ _=>False) Ip (Ui fr3 O3) Jj stop) (λr s4 V_=>?_) λ_ _ z=>z;obtain⟨hr,J4⟩:=V_;subst hr;have pa:=(J4.pin (b9,({cls:=.type "list",data:=.seq aA.toArray nn}:Obj)) (Yz _ X2)).1;have u:Un (sR X.stack) fp H (dF H3 b9 (.lst ys)) s2.heap s4.heap:=
    ⟨J4.base.keep,J4.base.slot,λb o e nb hx=>by rw[aS (below b (by rw[←hAg];exact X_ e)).2];exact J4.base.free b o e nb hx,J4.base.there,
     λb xs e=>by rw[aS (bG e DF)];exact J4.base.tups b xs e,λb o w' e=>by rw[aS (bG e DF)];exact J4.base.frzs b o w' e,λb ps e=>by rw[aS (bG e DF)];exact J4.base.tbls b ps e⟩
   have hok:mR X.prog X.w (dF H3 b9 (.lst ys)) s4.heap:=λb o e=>by
    by_cases hb:b=b9
    ·subst hb;rw[aQ] at e;cases e;exact⟨hz3,aA,nn,rv3,pa⟩
    ·rw[aS hb] at e;refine (J4.hok b o e).stay (λ_ _ _ q=>q) (λc q=>?_) λc xs q=>?_
     ·rw[aS (bG q na3)];exact q
     ·rw[aS (bG q na3)];exact q
   have Uk:aP X pins σ (dF H3 b9 (.lst ys)) s4:=I.call' (ch:=fp) J4.os u hok J4.bare λb hb=>⟨(f2 b hb).2.2.2.1,(f2 b hb).2.1,(f2 b hb).2.2.2.2.1,(f2 b hb).2.2.2.2.2⟩;have Wa:∃m,s4.heap.Ns C m:=by obtain⟨m,hn,_⟩:=J4.loc;exact⟨m,hn⟩
   exact hR b9 C ys H3 s4 Uk Wa (I.fpOk (by rw[hAg];exact Lj) (by rw[aS (acN Sk)];exact J4.free)) na3 p
  ·refine Zc (T.item (eo X scope N Y) rfl rfl rfl hc i _ s3 _ H3 (λ_ _=>False) Ip (Ui fr3 O3) Jj go) (λr s4 h4=>?_) λ_ _ z=>z;obtain⟨u,hr,h4⟩:=h4;subst hr;refine Zc h4 (λ_ s5 h5=>?_) λ_ _ z=>z;obtain⟨x,H5,I5,r5,y5,st5,fr5⟩:=h5;have T5:=I5.pinned (Ui fr5 O3) (T.obj _ _ st5);refine Zc (hg _ s5 _ H5 x u _ T5 r5 (step x H5 y5)) (λ_ s6 h6=>?_) λ_ _ z=>z;obtain⟨σ6,H6,I6,q6⟩:=h6;refine Zc (ht _ s6 σ6 H6 _ I6 q6) (λb s7 h7=>?_) λ_ _ z=>z;obtain⟨H7,I7,q7⟩:=h7;have RA:∀{H8:Hp} {σ8:St} {s8:Ya},aP (eo X scope N Y) ([(b9,({cls:=.type "list",data:=.seq aA.toArray nn}:Obj))]++sV fp s5.heap) σ8 H8 s8->
     s8.heap.get? b9=some ({cls:=.type "list",data:=.seq aA.toArray nn}:Obj)/\H8 b9=none/\(∀b∈fp,H8 b=none)/\(∀b∈fp,∀o,s5.heap.get? b=some o->s8.heap.get? b=some o):=λ{H8 σ8 s8} K=>by
    have q:=K.pin (b9,({cls:=.type "list",data:=.seq aA.toArray nn}:Obj)) (Yz _ (Zz _ X2));refine⟨q.1,q.2.1,λb hb=>?_,λb hb o e=>(K.pin (b,o) (Yz _ (Yz _ (kq hb e)))).1⟩;obtain⟨o,e,d⟩:=T.obj _ _ st5 b hb;exact (K.pin (b,o) (Yz _ (Yz _ (kq hb e)))).2.1
   have IE:∀{H8:Hp} {σ8:St} {s8:Ya} {pl:List (Ye×Obj)},aP (eo X scope N Y) pl σ8 H8 s8->aP (eo X scope N Y) [] σ8 H8 s8:=λK=>K.pins_of λp hp=>absurd hp (by simp);cases b with
   |false=>
    rw[hV (by simp)] at q7;obtain⟨m',hm,w7⟩:=hNx _ _ q7;obtain⟨p1,p2,p3,p4⟩:=RA I7;exact⟨m',hm,i+1,ys,aA,H7,Rz (IE I7),T.keep _ _ _ st5 p4,p3,p2,⟨nn,p1⟩,rv3,hz3,w7⟩
   |true=>
    rw[hZ rfl] at q7;refine Zc (he _ s7 σ6 H7 _ I7 q7) (λv s8 h8=>?_) λ_ _ z=>z;obtain⟨y,H8,I8,r8,q8⟩:=h8;obtain⟨m',hm,w8⟩:=hNx _ _ q8;obtain⟨p1,p2,p3,p4⟩:=RA I8;refine wpAny_list_append_plain (items:=aA.toArray) ⟨nn,p1⟩ (λh' Wb sb=>?_) (by rw[XZ,←rv3.length];exact hz3);obtain⟨f0,f1,f2',f3,f4,f5⟩:=Uh (H':=H8) (pl:=[]) p2 (by simp);have I9:aP (eo X scope N Y) [] σ6 H8 {s8 with heap:=h'}:=(IE I8).turned (t':=s8.toks) (λb o hb e=>(sb.2 b hb).trans e) f0 f1 f3 f4 f5;refine⟨m',hm,i+1,ys++[y],aA++[v],H8,Rz I9,T.keep _ _ _ st5 (λb hb o e=>(sb.2 b (λz=>Vf (z▸hb))).trans (p4 b hb o e)),p3,p2,?_,rv3.append (.cons r8 .nil),?_,w8⟩
    ·grind
    ·rw[XW,ZP];exact yt
 exact codeAny_compStart_list (loop _) (T.self _ _ _ _ _ (T.keep _ _ _ mF (λb hb o e=>old b o e)) (loop _))
def tx {kO:acY}(I:aP X pins σ H s)(S:oq kO X.N scope N js)(kT:X.env.scope=kO) :
  ∃cl:List (Str×Ye),closureFor scope X.env=pure cl/\(∀x c,cl.lookup x=some c->X.env.cells.lookup x=some c)/\∀x,(x,NameKind.free)∈scope.names->∃c,cl.lookup x=some c:=
 Bh λx hx=>I.ok.has x (by
  have:=S.free x hx;rw[←kT] at this;exact this)
theorem Lv {pos:Pos}{g:rN->TG}{tt:rN->TT}{te:rN->TE}(kO:acY)(NX N:List Str)(js:List (Option Nat))(hc:X.calm=true)(hi:PI X tg iter wi)(rJ:∀Y:rN,PG (eo X scope N Y) tg (g Y)/\D8 (eo X scope N Y) rH (tt Y)/\PE (eo X scope N Y) elt (te Y))(kT:X.env.scope=kO:=by rfl)(IF:X.N=NX:=by rfl)(hS:tv kO NX scope N js=true:=by decide+kernel)(hs:∀x,ZO iter X.env x=pure x:=by intro _;rfl):PE X (.ListComp elt [⟨tg,iter,rH,0⟩] scope pos) (RY wi js g tt te):=by
 intro pins s σ H Q I h;have S:oq kO X.N scope N js:=by grind[tv.to]
 obtain⟨cl,e1,e2,e3⟩:=tx I S kT;rw[eval_ListComp];refine wpAny_comprehension_free (use:=none) rfl hs e1 S.kind S.loc (fj (hi pins s σ H _ I h) λv s1 h1=>fj h1 λSi s2 h2=>?_);obtain⟨it,fp,tn,J,H2,e,I2,T,mF,f2,q⟩:=h2;subst e;refine tw (RR:=λb9 C=>compPost (Yw X.prog X.w) X.A X.xe none (EP X pins σ Q) b9 C) I2 hc T mF f2 rJ S kT e2 e3 q ?_;intro b9 C ys H' s' I' ns fC na p;obtain⟨m,hn⟩:=ns;obtain⟨f0,f1,f2',f3,f4,f5⟩:=fC;exact⟨m,hn,λh' sb=>⟨.ref b9,_,I'.turned (t':=s'.toks) (λb o hb e=>(sb.2 b hb).trans e) f0 f1 f3 f4 f5,rfl,p b9 na⟩⟩
theorem yK {pos pM pN:Pos}{g:rN->TG}{tt:rN->TT}{te:rN->TE}(kO:acY)(NX N:List Str)(js:List (Option Nat))(hN:X.N.Nodup)(hx:X.N[i]? = some x)(hl:E2 X.env.scope x)(hc:X.calm=true)(hi:PI X tg iter wi)(rJ:∀Y:rN,PG (eo X scope N Y) tg (g Y)/\D8 (eo X scope N Y) rH (tt Y)/\PE (eo X scope N Y) elt (te Y))(kT:X.env.scope=kO:=by rfl)(IF:X.N=NX:=by rfl)(hS:tv kO NX scope N js=true:=by decide+kernel)(hw:acw (.ListComp elt [⟨tg,iter,rH,0⟩] scope pN) (some (.Name x pM)) pos.line X.env=pure true:=by rfl)(hf:X.fn x=true\/X.env.scope.names.lookup x=some .local:=by first|exact .inl rfl|exact .inr rfl|assumption)(hs:∀x,ZO iter X.env x=pure x:=by intro _;rfl) :
  PS X (.Assign [.Name x pM] (.ListComp elt [⟨tg,iter,rH,0⟩] scope pN) pos) (E5 (RY wi js g tt te) (yH i)):=by
 intro pins s σ H D I h;have S:oq kO X.N scope N js:=by grind[tv.to]
 obtain⟨cl,e1,e2,e3⟩:=tx I S kT;rw[exec_Assign_Name_used _ _ _ _ hw];refine XM (wpAny_standAt (XM ?_));show Yg _ X.A (do let _ ←comprehension (.ListComp elt [⟨tg,iter,rH,0⟩] scope pN) scope X.env _ (newList []) false (abh iter X.env) (some (assign (.Name x pM) X.env))) _ _ s;refine XM (Zc (wpAny_comprehension_free (use:=some (assign (.Name x pM) X.env)) (Q:=λ_ s'=>SP X pins D .next s') rfl hs e1 S.kind S.loc
  (fj (hi pins s σ H _ I h) λv s1 h1=>fj h1 λSi s2 h2=>?_)) (λ_ s' hq=>XS (XS hq)) λ_ _ e=>e)
 obtain⟨it,fp,tn,J,H2,e,I2,T,mF,f2,q⟩:=h2;subst e;refine tw (RR:=λb9 C=>compPost (Yw X.prog X.w) X.A X.xe (some (assign (.Name x pM) X.env)) (λ_ s'=>SP X pins D .next s') b9 C) I2 hc T mF f2 rJ S kT e2 e3 q ?_;intro b9 C ys H' s' I' ns fC na p;obtain⟨m,hn⟩:=ns;obtain⟨f0,f1,f2',f3,f4,f5⟩:=fC;show Yg _ X.A (assign (.Name x pM) X.env (.ref b9)) _ _ _;refine wpAny_assign_Name (vK I' hN hx hl (v:=.ref b9) rfl (λDB Wc Wd=>?_) hf);obtain⟨a,sb,ha⟩:=Wd;have aC:C≠a:=by
  grind
 refine⟨m,hn.sameBut sb aC,λh' We=>⟨_,_,Wc.turned (t':=DB.toks) (λb o hb e=>(We.2 b hb).trans e) f0 f1 f3 f4 f5,?_⟩⟩;exact p b9 na
def Ql (J:It)(g:TG)(tb:TS)(D:oh)(σ:St)(H1:Hp):Prop:=∃W:Nat->Nat->St->Hp->Prop,(∃m,W 0 m σ H1)/\∀i m σ H,W i m σ H->
 (J.stop i H/\D.nx σ H)\/(J.go i H/\∃N:St->Hp->Prop,(∀σ' H',N σ' H'->∃m',m'<m/\W (i+1) m' σ' H')/\∀x H',J.yld i H x H'->g x σ H' λσ2 H2=>tb {D with nx:=N,ct:=N,bk:=D.nx} σ2 H2)
def Qm (wi:TI)(g:TG)(tb:TS):TS:=λD σ H=>wi σ H λJ H1=>Ql J g tb D σ H1
def JG {g:TG}{pos:Pos}(hp:adL (Yw X.prog X.w) X.A X.env X.xe)(hc:X.calm=true)(hi:PI X tg iter wi)(hg:PG X tg g)(hb:sU X body tb)(hs:∀x,ZO iter X.env x=pure x:=by intro _;rfl):PS X (.For tg iter body [] pos) (Qm wi g tb):=Nl hp hc hi hg hb hs
end L2
namespace L2
inductive D where
 |non|bl (b:Bool)|int (i:Int)|str (x:Str)|tup (xs:List D)|lst (xs:List D)
instance:Inhabited D:=⟨.non⟩
mutual
def bS (K:XX)(H:Hp):D->V->Prop
 | .non,v=>v=.non
 | .bl b,v=>v=.bl b
 | .int i,v=>v=.int i
 | .str x,v=>v=.str x
 | .tup ds,v=>∃a xs,v=.ref a/\i6 K H a xs/\gu K H ds xs
 | .lst ds,v=>∃a xs,v=.ref a/\fS K H a xs/\gu K H ds xs
def gu (K:XX)(H:Hp):List D->List V->Prop
 | [],xs=>xs=[]
 |d::ds,xs=>∃x r,xs=x::r/\bS K H d x/\gu K H ds r
end
mutual
noncomputable def iG:D->D->Bool
 | .non,.non=>true
 | .bl a,.bl b=>a==b
 | .bl a,.int b=>(if a then 1 else 0)==b
 | .int a,.bl b=>a==(if b then 1 else 0)
 | .int a,.int b=>a==b
 | .str a,.str b=>a==b
 | .tup xs,.tup ys=>kQ xs ys
 | .lst xs,.lst ys=>kQ xs ys
 |_,_=>false
noncomputable def kQ:List D->List D->Bool
 | [],[]=>true
 |x::xs,y::ys=>iG x y&&kQ xs ys
 |_,_=>false
end
mutual
noncomputable def cF:D->Nat
 | .tup xs=>j7 xs+1
 | .lst xs=>j7 xs+1
 |_=>0
noncomputable def j7:List D->Nat
 | []=>0
 |x::xs=>max (cF x) (j7 xs)
end
theorem gu.length {K:XX}{H:Hp}:∀{ds:List D} {xs:List V},gu K H ds xs->ds.length=xs.length
 | [],_,h=>by grind[gu]
 |d::ds,_,h=>by
  unfold gu at h;obtain⟨x,r,rfl,_,q⟩:=h;rw[X1,X1,gu.length q]
theorem gu.get {K:XX}{H:Hp}:∀{ds:List D} {xs:List V} {i:Nat} {d:D} {x:V},gu K H ds xs->ds[i]? = some d->xs[i]? = some x->bS K H d x
 | [],_,_,_,_,_,e,_=>by simp at e
 |d::ds,_,i,d',x',h,e1,e2=>by
  unfold gu at h;obtain⟨x,r,rfl,p,q⟩:=h;cases i with
  |zero=>simp at e1 e2;subst e1 e2;exact p
  |succ i=>exact gu.get q (by simpa using e1) (by simpa using e2)
theorem j8:∀{ds:List D} {i:Nat} {d:D},ds[i]? = some d->cF d<=j7 ds
 | [],_,_,e=>by simp at e
 |d::ds,i,d',e=>by
  unfold j7;cases i with
  |zero=>simp at e;subst e;exact Nat.le_max_left _ _
  |succ i=>exact YX (j8 (ds:=ds) (by simpa using e)) (Nat.le_max_right _ _)
noncomputable def gU (xs ys:List D)(j:Nat):Bool:=match xs[j]?,ys[j]? with
 |some a,some b=>iG a b
 |_,_=>true
theorem j9:∀(xs ys:List D),((YF (min xs.length ys.length)).all (gU xs ys)&&xs.length==ys.length)=kQ xs ys
 | [],[]=>by simp[kQ]
 | [],_::_=>by simp[kQ]
 |_::_,[]=>by simp[kQ]
 |x::xs,y::ys=>by
  have ih:=j9 xs ys;unfold kQ;rw[←ih,X1,X1,Nat.add_min_add_right,List.range_succ_eq_map,Z6,abl];have e0:gU (x::xs) (y::ys) 0=iG x y:=rfl;have e1:(gU (x::xs) (y::ys)∘Nat.succ)=gU xs ys:=by rfl
  rw[e0,e1,Bool.and_assoc];congr 1;congr 1;rw[Z_];simp
theorem yL {xs ys:List D}(h:xs.length≠ys.length):kQ xs ys=false:=by
 rw[←j9,show (xs.length==ys.length)=false from by lia,abA]
mutual
theorem yM:∀d:D,iG d d=true
 | .non=>rfl
 | .bl b=>by simp[iG]
 | .int b=>by simp[iG]
 | .str b=>by simp[iG]
 | .tup xs=>by unfold iG;exact pZ xs
 | .lst xs=>by unfold iG;exact pZ xs
theorem pZ:∀ds:List D,kQ ds ds=true
 | []=>rfl
 |d::ds=>by unfold kQ;rw[yM d,pZ ds];rfl
end
theorem Qn {ys:List V}(I:aP X pins σ H s)(h:fS X.K H a xs)(h':i6 X.K H a ys):False:=by
 obtain⟨aA,_,p,_⟩:=I.list h;obtain⟨its',_,q,_⟩:=I.tuple h';exact absurd rfl (SeqAt.ne_of_list_tuple p.isList q)
theorem yN (I:aP X pins σ H s):∀n d1 d2 x,cF d1<=n->bS X.K H d1 x->bS X.K H d2 x->iG d1 d2=true:=by
 have lists:∀n,(∀d1 d2 x,cF d1<=n->bS X.K H d1 x->bS X.K H d2 x->iG d1 d2=true)->∀(ds es:List D) (xs:List V),j7 ds<=n->gu X.K H ds xs->gu X.K H es xs->kQ ds es=true:=by
  intro n ih ds
  induction ds with
  |nil=>
   intro es xs _ h1 h2;unfold gu at h1;subst h1;cases es with
   |nil=>rfl
   |cons e es=>grind[gu]
  |cons d ds ihd=>
   intro es xs hd h1 h2;unfold gu at h1;obtain⟨x,r,rfl,p,q⟩:=h1;cases es with
   |nil=>grind[gu]
   |cons e es=>
    grind[gu,j7,kQ,YX,Nat.le_max_left,Nat.le_max_right]
 intro n
 induction n with
 |zero=>
  intro d1 d2 x hd h1 h2;have fl:∀d,bS X.K H d x->(∃a,x=.ref a)\/(d=.non/\x=.non)\/(∃b,d=.bl b/\x=.bl b)\/(∃b,d=.int b/\x=.int b)\/∃b,d=.str b/\x=.str b:=λd h=>by
   cases d with
   |non=>unfold bS at h;exact .inr (.inl ⟨rfl,h⟩)
   |bl b=>unfold bS at h;exact .inr (.inr (.inl ⟨b,rfl,h⟩))
   |int b=>unfold bS at h;lia
   |str b=>unfold bS at h;lia
   |tup ds=>grind[bS]
   |lst ds=>grind[bS]
  have nr:¬∃a,x=.ref a:=λh00=>by
   obtain⟨a,e⟩:=h00;subst e;cases d1 with
   |tup ds=>grind[cF]
   |lst ds=>grind[cF]
   |_=>unfold bS at h1;cases h1
  have f1:=fl d1 h1;have f2:=fl d2 h2;rcases f1 with f1|⟨rfl,rfl⟩|⟨b,rfl,rfl⟩|⟨b,rfl,rfl⟩|⟨b,rfl,rfl⟩
  ·grind
  all_goals
   rcases f2 with f2|⟨rfl,f2⟩|⟨c,rfl,f2⟩|⟨c,rfl,f2⟩|⟨c,rfl,f2⟩
   ·exact absurd f2 nr
   all_goals first|(cases f2;exact yM _)|cases f2
 |succ n ih=>
  intro d1 d2 x hd h1 h2;cases d1 with
  |tup ds=>
   unfold bS at h1;obtain⟨a,xs,rfl,hs,hr⟩:=h1;cases d2 with
   |tup es=>
    unfold bS at h2;obtain⟨a',xs',e,hs',hr'⟩:=h2;cases e;have:=I.tuple_inj hs hs';subst this;unfold iG;exact lists n ih ds es xs (by grind[cF]) hr hr'
   |lst es=>
    grind[bS,Qn]
   |_=>unfold bS at h2;cases h2
  |lst ds=>
   unfold bS at h1;obtain⟨a,xs,rfl,hs,hr⟩:=h1;cases d2 with
   |lst es=>
    unfold bS at h2;obtain⟨a',xs',e,hs',hr'⟩:=h2;cases e;have:=I.list_inj hs hs';subst this;unfold iG;exact lists n ih ds es xs (by grind[cF]) hr hr'
   |tup es=>
    grind[bS,Qn]
   |_=>unfold bS at h2;cases h2
  |_=>exact ih _ d2 x (by unfold cF;exact ZT _) h1 h2
theorem Bi (I:aP X pins σ H s):∀(n:Nat) (d1 d2:D) (x y:V) (u v:XY) (A:YG),cF d1<=n->A.units+n<abH->bS X.K H d1 x->bS X.K H d2 y->bX x u->bX y v->abu A s u v (iG d1 d2):=by
 intro n
 induction n with
 |zero=>
  intro d1 d2 x y u v A hd hu h1 h2 r1 r2;have jP:A.units<abH:=(by lia)
  cases d1 with
  |non=>
   unfold bS at h1;subst h1;cases r1;cases d2 with
   |non=>
    unfold bS at h2;subst h2;cases r2;exact acQ _
   |bl b2=>
    unfold bS at h2;subst h2;cases r2;exact SeqAt.EqAt.none_bool b2
   |int b2=>
    unfold bS at h2;subst h2;obtain⟨t2,rfl⟩:=r2;exact SeqAt.EqAt.none_int b2 t2
   |str b2=>
    unfold bS at h2;subst h2;obtain⟨t2,rfl⟩:=r2;exact SeqAt.EqAt.none_str b2 t2
   |tup b2=>
    unfold bS at h2;obtain⟨a2,xs2,rfl,cL,iB⟩:=h2;cases r2;obtain⟨its2,rv2,p2,sh⟩:=I.tuple cL;exact SeqAt.EqAt.none_tuple p2 jP
   |lst b2=>
    unfold bS at h2;obtain⟨a2,xs2,rfl,cL,iB⟩:=h2;cases r2;obtain⟨its2,rv2,p2,sh⟩:=I.list cL;exact SeqAt.EqAt.none_list p2.isList jP
  |bl b1=>
   unfold bS at h1;subst h1;cases r1;cases d2 with
   |non=>
    unfold bS at h2;subst h2;cases r2;exact SeqAt.EqAt.bool_none b1
   |bl b2=>
    unfold bS at h2;subst h2;cases r2;exact SeqAt.EqAt.bool_bool b1 b2
   |int b2=>
    unfold bS at h2;subst h2;obtain⟨t2,rfl⟩:=r2;exact SeqAt.EqAt.bool_int b1 b2 t2
   |str b2=>
    unfold bS at h2;subst h2;obtain⟨t2,rfl⟩:=r2;exact SeqAt.EqAt.bool_str b1 b2 t2
   |tup b2=>
    unfold bS at h2;obtain⟨a2,xs2,rfl,cL,iB⟩:=h2;cases r2;obtain⟨its2,rv2,p2,sh⟩:=I.tuple cL;exact SeqAt.EqAt.bool_tuple b1 p2 jP
   |lst b2=>
    unfold bS at h2;obtain⟨a2,xs2,rfl,cL,iB⟩:=h2;cases r2;obtain⟨its2,rv2,p2,sh⟩:=I.list cL;exact SeqAt.EqAt.bool_list b1 p2.isList jP
  |int b1=>
   unfold bS at h1;subst h1;obtain⟨t1,rfl⟩:=r1;cases d2 with
   |non=>
    unfold bS at h2;subst h2;cases r2;exact SeqAt.EqAt.int_none b1 t1
   |bl b2=>
    unfold bS at h2;subst h2;cases r2;exact SeqAt.EqAt.int_bool b1 t1 b2
   |int b2=>
    unfold bS at h2;subst h2;obtain⟨t2,rfl⟩:=r2;exact ac_ b1 t1 b2 t2
   |str b2=>
    unfold bS at h2;subst h2;obtain⟨t2,rfl⟩:=r2;exact ac7 b1 t1 b2 t2
   |tup b2=>
    unfold bS at h2;obtain⟨a2,xs2,rfl,cL,iB⟩:=h2;cases r2;obtain⟨its2,rv2,p2,sh⟩:=I.tuple cL;exact SeqAt.EqAt.int_tuple b1 t1 p2 jP
   |lst b2=>
    unfold bS at h2;obtain⟨a2,xs2,rfl,cL,iB⟩:=h2;cases r2;obtain⟨its2,rv2,p2,sh⟩:=I.list cL;exact SeqAt.EqAt.int_list b1 t1 p2.isList jP
  |str b1=>
   unfold bS at h1;subst h1;obtain⟨t1,rfl⟩:=r1;cases d2 with
   |non=>
    unfold bS at h2;subst h2;cases r2;exact SeqAt.EqAt.str_none b1 t1
   |bl b2=>
    unfold bS at h2;subst h2;cases r2;exact SeqAt.EqAt.str_bool b1 t1 b2
   |int b2=>
    unfold bS at h2;subst h2;obtain⟨t2,rfl⟩:=r2;exact ac8 b1 t1 b2 t2
   |str b2=>
    unfold bS at h2;subst h2;obtain⟨t2,rfl⟩:=r2;exact SeqAt.EqAt.str_str b1 t1 b2 t2
   |tup b2=>
    unfold bS at h2;obtain⟨a2,xs2,rfl,cL,iB⟩:=h2;cases r2;obtain⟨its2,rv2,p2,sh⟩:=I.tuple cL;exact SeqAt.EqAt.str_tuple b1 t1 p2 jP
   |lst b2=>
    unfold bS at h2;obtain⟨a2,xs2,rfl,cL,iB⟩:=h2;cases r2;obtain⟨its2,rv2,p2,sh⟩:=I.list cL;exact SeqAt.EqAt.str_list b1 t1 p2.isList jP
  |tup ds=>grind[cF]
  |lst ds=>grind[cF]
 |succ n ih=>
  intro d1 d2 x y u v A hd hu h1 h2 r1 r2;have jP:A.units<abH:=(by lia)
  cases d1 with
  |tup ds=>
   unfold bS at h1;obtain⟨a1,xs1,rfl,gy,hr1⟩:=h1;cases r1;obtain⟨its1,rv1,p1,hz1⟩:=I.tuple gy;cases d2 with
   |non=>
    unfold bS at h2;subst h2;cases r2;exact SeqAt.EqAt.tuple_none p1 jP
   |bl b2=>
    unfold bS at h2;subst h2;cases r2;exact SeqAt.EqAt.tuple_bool b2 p1 jP
   |int b2=>
    unfold bS at h2;subst h2;obtain⟨t2,rfl⟩:=r2;exact SeqAt.EqAt.tuple_int b2 t2 p1 jP
   |str b2=>
    unfold bS at h2;subst h2;obtain⟨t2,rfl⟩:=r2;exact SeqAt.EqAt.tuple_str b2 t2 p1 jP
   |tup es=>
    unfold bS at h2;obtain⟨a2,xs2,rfl,cL,iB⟩:=h2;cases r2;obtain⟨its2,rv2,p2,sh⟩:=I.tuple cL;by_cases AO:a1=a2
    ·subst AO;rw[yN I (n+1) (.tup ds) (.tup es) (.ref a1) hd (by unfold bS;exact⟨a1,xs1,rfl,gy,hr1⟩) (by unfold bS;exact⟨a1,xs2,rfl,cL,iB⟩)];exact acQ _
    ·refine SeqAt.EqAt.of_refs AO ?_;have l1:its1.toArray.size=ds.length:=by rw[XZ,←rv1.length,hr1.length]
     have l2:its2.toArray.size=es.length:=by rw[XZ,←rv2.length,iB.length]
     have k1:xs1.length=ds.length:=hr1.length.symm;have k2:xs2.length=es.length:=iB.length.symm;have he:∀j (h1:j<its1.toArray.size) (h2:j<its2.toArray.size),abu A.in1 s its1.toArray[j] its2.toArray[j] (gU ds es j):=λj g1 g2=>by
      have q1:ds[j]? = some ds[j]:=XN (by lia);have q2:es[j]? = some es[j]:=XN (by lia);have e1:xs1[j]? = some xs1[j]:=XN (by lia);have e2:xs2[j]? = some xs2[j]:=XN (by lia);obtain⟨u1,z1,w1⟩:=rv1.get e1;obtain⟨u2,z2,w2⟩:=rv2.get e2;have y1:its1.toArray[j]=u1:=by
       have:=X3.mp z1;obtain⟨_,q⟩:=this;simpa using q
      have y2:its2.toArray[j]=u2:=by
       have:=X3.mp z2;obtain⟨_,q⟩:=this;simpa using q
      rw[y1,y2];have:gU ds es j=iG ds[j] es[j]:=by unfold gU;rw[q1,q2]
      rw[this];refine ih ds[j] es[j] xs1[j] xs2[j] u1 u2 A.in1 ?_ (by lia) (hr1.get q1 e1) (iB.get q2 e2) w1 w2;have:=j8 q1;unfold cF at hd;lia
     have q:=SeqAt.RcAt.tuples (A:=A) p1 p2 jP he;rw[l1,l2,j9] at q;unfold iG;exact q
   |lst es=>
    unfold bS at h2;obtain⟨a2,xs2,rfl,cL,iB⟩:=h2;cases r2;obtain⟨its2,rv2,p2,sh⟩:=I.list cL;exact SeqAt.EqAt.tuple_list p1 p2.isList jP
  |lst ds=>
   unfold bS at h1;obtain⟨a1,xs1,rfl,gy,hr1⟩:=h1;cases r1;obtain⟨its1,rv1,p1,hz1⟩:=I.list gy;cases d2 with
   |non=>
    unfold bS at h2;subst h2;cases r2;exact SeqAt.EqAt.list_none p1.isList jP
   |bl b2=>
    unfold bS at h2;subst h2;cases r2;exact SeqAt.EqAt.list_bool b2 p1.isList jP
   |int b2=>
    unfold bS at h2;subst h2;obtain⟨t2,rfl⟩:=r2;exact SeqAt.EqAt.list_int b2 t2 p1.isList jP
   |str b2=>
    unfold bS at h2;subst h2;obtain⟨t2,rfl⟩:=r2;exact SeqAt.EqAt.list_str b2 t2 p1.isList jP
   |tup es=>
    unfold bS at h2;obtain⟨a2,xs2,rfl,cL,iB⟩:=h2;cases r2;obtain⟨its2,rv2,p2,sh⟩:=I.tuple cL;exact SeqAt.EqAt.list_tuple p1.isList p2 jP
   |lst es=>
    unfold bS at h2;obtain⟨a2,xs2,rfl,cL,iB⟩:=h2;cases r2;obtain⟨its2,rv2,p2,sh⟩:=I.list cL;by_cases AO:a1=a2
    ·subst AO;rw[yN I (n+1) (.lst ds) (.lst es) (.ref a1) hd (by unfold bS;exact⟨a1,xs1,rfl,gy,hr1⟩) (by unfold bS;exact⟨a1,xs2,rfl,cL,iB⟩)];exact acQ _
    ·refine SeqAt.EqAt.of_refs AO ?_;have l1:its1.toArray.size=ds.length:=by rw[XZ,←rv1.length,hr1.length]
     have l2:its2.toArray.size=es.length:=by rw[XZ,←rv2.length,iB.length]
     have k1:xs1.length=ds.length:=hr1.length.symm;have k2:xs2.length=es.length:=iB.length.symm;have he:∀j (h1:j<its1.toArray.size) (h2:j<its2.toArray.size),abu A.in1 s its1.toArray[j] its2.toArray[j] (gU ds es j):=λj g1 g2=>by
      have q1:ds[j]? = some ds[j]:=XN (by lia);have q2:es[j]? = some es[j]:=XN (by lia);have e1:xs1[j]? = some xs1[j]:=XN (by lia);have e2:xs2[j]? = some xs2[j]:=XN (by lia);obtain⟨u1,z1,w1⟩:=rv1.get e1;obtain⟨u2,z2,w2⟩:=rv2.get e2;have y1:its1.toArray[j]=u1:=by
       have:=X3.mp z1;obtain⟨_,q⟩:=this;simpa using q
      have y2:its2.toArray[j]=u2:=by
       have:=X3.mp z2;obtain⟨_,q⟩:=this;simpa using q
      rw[y1,y2];have:gU ds es j=iG ds[j] es[j]:=by unfold gU;rw[q1,q2]
      rw[this];refine ih ds[j] es[j] xs1[j] xs2[j] u1 u2 A.in1 ?_ (by lia) (hr1.get q1 e1) (iB.get q2 e2) w1 w2;have:=j8 q1;unfold cF at hd;lia
     unfold iG;by_cases hl:ds.length=es.length
     ·have q:=SeqAt.RcAt.lists (A:=A) p1.isList p2.isList (by lia) jP he;rw[l1] at q;have z:=j9 ds es;rw[hl,Nat.min_self,beq_self_eq_true,Bool.and_true] at z;rw[hl,z] at q;exact q
     ·rw[yL hl];exact adD (A:=A) p1.isList p2.isList (by lia) jP
  |non=>exact ih _ d2 x y u v A (by simp[cF,ZT]) (by lia) h1 h2 r1 r2
  |bl b1=>exact ih _ d2 x y u v A (by simp[cF,ZT]) (by lia) h1 h2 r1 r2
  |int b1=>exact ih _ d2 x y u v A (by simp[cF,ZT]) (by lia) h1 h2 r1 r2
  |str b1=>exact ih _ d2 x y u v A (by simp[cF,ZT]) (by lia) h1 h2 r1 r2
theorem NB (I:aP X pins σ H s)(n:Nat)(d1 d2:D)(x y:V)(u v:XY)(A:YG)(hd:cF d1<=n)(hu:A.units+n<abH)(h1:bS X.K H d1 x)(h2:bS X.K H d2 y)(r1:bX x u)(r2:bX y v):SeqAt.RcAt A s u v (iG d1 d2):=by
  have jP:A.units<abH:=(by lia)
  cases d1 with
  |non=>
   unfold bS at h1;subst h1;cases r1;cases d2 with
   |non=>
    unfold bS at h2;subst h2;cases r2;exact SeqAt.RcAt.none_none
   |bl b2=>
    unfold bS at h2;subst h2;cases r2;exact SeqAt.RcAt.none_bool b2
   |int b2=>
    unfold bS at h2;subst h2;obtain⟨t2,rfl⟩:=r2;exact SeqAt.RcAt.none_int b2 t2
   |str b2=>
    unfold bS at h2;subst h2;obtain⟨t2,rfl⟩:=r2;exact SeqAt.RcAt.none_str b2 t2
   |tup es=>
    unfold bS at h2;obtain⟨a2,xs2,rfl,cL,iB⟩:=h2;cases r2;obtain⟨its2,rv2,p2,sh⟩:=I.tuple cL;exact SeqAt.RcAt.none_tuple p2 jP
   |lst es=>
    unfold bS at h2;obtain⟨a2,xs2,rfl,cL,iB⟩:=h2;cases r2;obtain⟨its2,rv2,p2,sh⟩:=I.list cL;exact SeqAt.RcAt.none_list p2.isList jP
  |bl b1=>
   unfold bS at h1;subst h1;cases r1;cases d2 with
   |non=>
    unfold bS at h2;subst h2;cases r2;exact SeqAt.RcAt.bool_none b1
   |bl b2=>
    unfold bS at h2;subst h2;cases r2;exact SeqAt.RcAt.bool_bool b1 b2
   |int b2=>
    unfold bS at h2;subst h2;obtain⟨t2,rfl⟩:=r2;exact SeqAt.RcAt.bool_int b1 b2 t2
   |str b2=>
    unfold bS at h2;subst h2;obtain⟨t2,rfl⟩:=r2;exact SeqAt.RcAt.bool_str b1 b2 t2
   |tup es=>
    unfold bS at h2;obtain⟨a2,xs2,rfl,cL,iB⟩:=h2;cases r2;obtain⟨its2,rv2,p2,sh⟩:=I.tuple cL;exact SeqAt.RcAt.bool_tuple b1 p2 jP
   |lst es=>
    unfold bS at h2;obtain⟨a2,xs2,rfl,cL,iB⟩:=h2;cases r2;obtain⟨its2,rv2,p2,sh⟩:=I.list cL;exact SeqAt.RcAt.bool_list b1 p2.isList jP
  |int b1=>
   unfold bS at h1;subst h1;obtain⟨t1,rfl⟩:=r1;cases d2 with
   |non=>
    unfold bS at h2;subst h2;cases r2;exact SeqAt.RcAt.int_none b1 t1
   |bl b2=>
    unfold bS at h2;subst h2;cases r2;exact SeqAt.RcAt.int_bool b1 t1 b2
   |int b2=>
    unfold bS at h2;subst h2;obtain⟨t2,rfl⟩:=r2;exact SeqAt.RcAt.int_int b1 t1 b2 t2
   |str b2=>
    unfold bS at h2;subst h2;obtain⟨t2,rfl⟩:=r2;exact SeqAt.RcAt.int_str b1 t1 b2 t2
   |tup es=>
    unfold bS at h2;obtain⟨a2,xs2,rfl,cL,iB⟩:=h2;cases r2;obtain⟨its2,rv2,p2,sh⟩:=I.tuple cL;exact SeqAt.RcAt.int_tuple b1 t1 p2 jP
   |lst es=>
    unfold bS at h2;obtain⟨a2,xs2,rfl,cL,iB⟩:=h2;cases r2;obtain⟨its2,rv2,p2,sh⟩:=I.list cL;exact SeqAt.RcAt.int_list b1 t1 p2.isList jP
  |str b1=>
   unfold bS at h1;subst h1;obtain⟨t1,rfl⟩:=r1;cases d2 with
   |non=>
    unfold bS at h2;subst h2;cases r2;exact SeqAt.RcAt.str_none b1 t1
   |bl b2=>
    unfold bS at h2;subst h2;cases r2;exact SeqAt.RcAt.str_bool b1 t1 b2
   |int b2=>
    unfold bS at h2;subst h2;obtain⟨t2,rfl⟩:=r2;exact SeqAt.RcAt.str_int b1 t1 b2 t2
   |str b2=>
    unfold bS at h2;subst h2;obtain⟨t2,rfl⟩:=r2;exact SeqAt.RcAt.str_str b1 t1 b2 t2
   |tup es=>
    unfold bS at h2;obtain⟨a2,xs2,rfl,cL,iB⟩:=h2;cases r2;obtain⟨its2,rv2,p2,sh⟩:=I.tuple cL;exact SeqAt.RcAt.str_tuple b1 t1 p2 jP
   |lst es=>
    unfold bS at h2;obtain⟨a2,xs2,rfl,cL,iB⟩:=h2;cases r2;obtain⟨its2,rv2,p2,sh⟩:=I.list cL;exact SeqAt.RcAt.str_list b1 t1 p2.isList jP
  |tup ds=>
   unfold bS at h1;obtain⟨a1,xs1,rfl,gy,hr1⟩:=h1;cases r1;obtain⟨its1,rv1,p1,hz1⟩:=I.tuple gy;cases d2 with
   |non=>
    unfold bS at h2;subst h2;cases r2;exact SeqAt.RcAt.tuple_none p1 jP
   |bl b2=>
    unfold bS at h2;subst h2;cases r2;exact SeqAt.RcAt.tuple_bool b2 p1 jP
   |int b2=>
    unfold bS at h2;subst h2;obtain⟨t2,rfl⟩:=r2;exact SeqAt.RcAt.tuple_int b2 t2 p1 jP
   |str b2=>
    unfold bS at h2;subst h2;obtain⟨t2,rfl⟩:=r2;exact SeqAt.RcAt.tuple_str b2 t2 p1 jP
   |tup es=>
    unfold bS at h2;obtain⟨a2,xs2,rfl,cL,iB⟩:=h2;cases r2;obtain⟨its2,rv2,p2,sh⟩:=I.tuple cL;have l1:its1.toArray.size=ds.length:=by rw[XZ,←rv1.length,hr1.length]
    have l2:its2.toArray.size=es.length:=by rw[XZ,←rv2.length,iB.length]
    have k1:xs1.length=ds.length:=hr1.length.symm;have k2:xs2.length=es.length:=iB.length.symm;have he:∀j (h1:j<its1.toArray.size) (h2:j<its2.toArray.size),abu A.in1 s its1.toArray[j] its2.toArray[j] (gU ds es j):=λj g1 g2=>by
     have q1:ds[j]? = some ds[j]:=XN (by lia);have q2:es[j]? = some es[j]:=XN (by lia);have e1:xs1[j]? = some xs1[j]:=XN (by lia);have e2:xs2[j]? = some xs2[j]:=XN (by lia);obtain⟨u1,z1,w1⟩:=rv1.get e1;obtain⟨u2,z2,w2⟩:=rv2.get e2;have y1:its1.toArray[j]=u1:=by
      obtain⟨_,q⟩:=X3.mp z1;simpa using q
     have y2:its2.toArray[j]=u2:=by
      obtain⟨_,q⟩:=X3.mp z2;simpa using q
     rw[y1,y2];have:gU ds es j=iG ds[j] es[j]:=by unfold gU;rw[q1,q2]
     rw[this];have dl:=j8 q1;unfold cF at hd;exact Bi I (n-1) ds[j] es[j] xs1[j] xs2[j] u1 u2 A.in1 (by lia) (by lia) (hr1.get q1 e1) (iB.get q2 e2) w1 w2
    have q:=SeqAt.RcAt.tuples (A:=A) p1 p2 jP he;rw[l1,l2,j9] at q;unfold iG;exact q
   |lst es=>
    unfold bS at h2;obtain⟨a2,xs2,rfl,cL,iB⟩:=h2;cases r2;obtain⟨its2,rv2,p2,sh⟩:=I.list cL;exact SeqAt.RcAt.tuple_list p1 p2.isList jP
  |lst ds=>
   unfold bS at h1;obtain⟨a1,xs1,rfl,gy,hr1⟩:=h1;cases r1;obtain⟨its1,rv1,p1,hz1⟩:=I.list gy;cases d2 with
   |non=>
    unfold bS at h2;subst h2;cases r2;exact SeqAt.RcAt.list_none p1.isList jP
   |bl b2=>
    unfold bS at h2;subst h2;cases r2;exact SeqAt.RcAt.list_bool b2 p1.isList jP
   |int b2=>
    unfold bS at h2;subst h2;obtain⟨t2,rfl⟩:=r2;exact SeqAt.RcAt.list_int b2 t2 p1.isList jP
   |str b2=>
    unfold bS at h2;subst h2;obtain⟨t2,rfl⟩:=r2;exact SeqAt.RcAt.list_str b2 t2 p1.isList jP
   |tup es=>
    unfold bS at h2;obtain⟨a2,xs2,rfl,cL,iB⟩:=h2;cases r2;obtain⟨its2,rv2,p2,sh⟩:=I.tuple cL;exact SeqAt.RcAt.list_tuple p1.isList p2 jP
   |lst es=>
    unfold bS at h2;obtain⟨a2,xs2,rfl,cL,iB⟩:=h2;cases r2;obtain⟨its2,rv2,p2,sh⟩:=I.list cL;have l1:its1.toArray.size=ds.length:=by rw[XZ,←rv1.length,hr1.length]
    have l2:its2.toArray.size=es.length:=by rw[XZ,←rv2.length,iB.length]
    have k1:xs1.length=ds.length:=hr1.length.symm;have k2:xs2.length=es.length:=iB.length.symm;have he:∀j (h1:j<its1.toArray.size) (h2:j<its2.toArray.size),abu A.in1 s its1.toArray[j] its2.toArray[j] (gU ds es j):=λj g1 g2=>by
     have q1:ds[j]? = some ds[j]:=XN (by lia);have q2:es[j]? = some es[j]:=XN (by lia);have e1:xs1[j]? = some xs1[j]:=XN (by lia);have e2:xs2[j]? = some xs2[j]:=XN (by lia);obtain⟨u1,z1,w1⟩:=rv1.get e1;obtain⟨u2,z2,w2⟩:=rv2.get e2;have y1:its1.toArray[j]=u1:=by
      obtain⟨_,q⟩:=X3.mp z1;simpa using q
     have y2:its2.toArray[j]=u2:=by
      obtain⟨_,q⟩:=X3.mp z2;simpa using q
     rw[y1,y2];have:gU ds es j=iG ds[j] es[j]:=by unfold gU;rw[q1,q2]
     rw[this];have dl:=j8 q1;unfold cF at hd;exact Bi I (n-1) ds[j] es[j] xs1[j] xs2[j] u1 u2 A.in1 (by lia) (by lia) (hr1.get q1 e1) (iB.get q2 e2) w1 w2
    unfold iG;by_cases hl:ds.length=es.length
    ·have q:=SeqAt.RcAt.lists (A:=A) p1.isList p2.isList (by lia) jP he;rw[l1] at q;have z:=j9 ds es;rw[hl,Nat.min_self,beq_self_eq_true,Bool.and_true] at z;rw[hl,z] at q;exact q
    ·rw[yL hl];exact adD (A:=A) p1.isList p2.isList (by lia) jP
def Qo (K:XX)(f:Bool->Bool):R2:=λx y H Q=>∃d1 d2,bS K H d1 x/\bS K H d2 y/\cF d1<=30/\Q (.bl (f (iG d1 d2))) H
theorem NC (hu:X.A.units+64<abH):l7 X (aaz .Eq) (Qo X.K id):=by
 intro pins s σ H x y v u Q I rx ry h;obtain⟨d1,d2,h1,h2,hd,q⟩:=h;exact NB I 30 d1 d2 x y v u X.A hd (by lia) h1 h2 rx ry X.prog X.w X.xe _ ⟨.bl _,H,I,rfl,q⟩
end L2
variable {dx:L2.D}{ds:List L2.D}
namespace L2
noncomputable def fw (n m:String):Bool:=(n==m)||(n=="bool"&&m=="int")
theorem Fx (K:XX){n m:String}(hn:n∈["NoneType","bool","int","str","list","tuple","dict"])(hm:m∈["bool","int","str","list","tuple","dict"]) :
  Y1 K (.type n) (.type m)=some (fw n m):=by
 simp only[Yb,aak,or_false] at hn hm;rcases hn with rfl|rfl|rfl|rfl|rfl|rfl|rfl<;>rcases hm with rfl|rfl|rfl|rfl|rfl|rfl<;>kernel_rfl
inductive vq (K:XX)(H:Hp):V->String->Prop where
 |non:vq K H .non "NoneType"
 |bl (x:Bool):vq K H (.bl x) "bool"
 |int (i:Int):vq K H (.int i) "int"
 |str (x:Str):vq K H (.str x) "str"
 |lst {a:Ye} {xs:List V} (e:H a=some (.lst xs)):vq K H (.ref a) "list"
 |frz {a:Ye} {o:Obj} {xs:List V} (e:H a=some (.frz o (.lst xs))):vq K H (.ref a) "list"
 |tup {a:Ye} {xs:List V} (e:H a=some (.tup xs)):vq K H (.ref a) "tuple"
 |dK {a:Ye} {ir:List (vj×V)} (e:H a=some (.dK ir)):vq K H (.ref a) "dict"
 |dT {a:Ye} {ir:List (List vj×V)} (e:H a=some (.dT ir)):vq K H (.ref a) "dict"
theorem vq.mem {x:V}{n:String}(h:vq K H x n):n∈["NoneType","bool","int","str","list","tuple","dict"]:=by
 cases h<;>simp
theorem vq.ty {x:V}{n:String}(h:vq K H x n):pV K H x (.type n):=by
 cases h with
 |non=>exact .non
 |bl=>exact .bl _
 |int=>exact .int _
 |str=>exact .str _
 |lst e=>exact .lst e
 |frz e=>exact .frz e
 |tup e=>exact .tup e
 |dK e=>exact .dK e
 |dT e=>exact .dT e
theorem yO {m:String}(hm:m∈["bool","int","str","list","tuple","dict"]):eO X (.builtin "isinstance") (λxs H Q=>∃x n,xs=[x,.ty m]/\vq X.K H x n/\Q (.bl (fw n m)) H):=by
 intro pins s σ H xs us Q I r h;obtain⟨x,n,rfl,ty,q⟩:=h;obtain⟨u,w',rfl,rx,rt⟩:=vL r;cases rt;exact D3 I rx ty.ty (Fx X.K ty.mem hm) λtk=>⟨.bl _,H,I.tok tk,rfl,q⟩
theorem qB:eO X (.type "range") (λxs H Q=>∃j,xs=[.int j]/\∀p,H p=none->Q (.ref p) (dF H p (.rng 0 j))):=by
 intro pins s σ H xs us Q I r h;obtain⟨j,rfl,q⟩:=h;obtain⟨u,rfl,rx⟩:=jF r;obtain⟨t,rfl⟩:=rx;refine call_range_1 ⟨.ref s.heap.objs.size,dF H s.heap.objs.size (.rng 0 j),I.laid (λb u e=>XQ _ e) (X6 _) ?_,rfl,q _ (I.hok.fresh (X6 _))⟩;exact⟨_,_,_,X8 _ rfl⟩
theorem tE {a:Int}{b9:Array XY}(h:ItemsOf (λi v=>∃t,v=Value.int (a+i*1) t) b9 n):bw ((YF n).map λi=>V.int (a+(i:Nat))) b9.toList:=by
 obtain⟨hs,hi⟩:=h;have gen:∀(l:List XY) (k:Nat),(∀(i:Nat) v,l[i]? = some v->∃t,v=Value.int (a+((k+i:Nat):Int)*1) t)->bw ((List.range' k l.length).map λi=>V.int (a+(i:Nat))) l:=by
  intro l
  induction l with
  |nil=>intro k _;exact .nil
  |cons v r ih=>
   intro k hk;rw[X1,List.range'_succ,X5];refine .cons ?_ (ih (k+1) λi v e=>?_)
   ·obtain⟨t,e⟩:=hk 0 v rfl;exact⟨t,by rw[e];simp⟩
   ·obtain⟨t,e'⟩:=hk (i+1) v (by simpa using e);grind
 have q:=gen b9.toList 0 (λi v e=>by
  obtain⟨t,e'⟩:=hi i v (by simpa using e);exact⟨t,by rw[e',aaM]⟩)
 grind[X0,List.range_eq_range']
theorem vt (hc:X.calm=true):eO X (.type "list") (λxs H Q=>∃p lo hi,xs=[.ref p]/\H p=some (.rng lo hi)/\(-(2 ^ 62)<=lo/\lo<2 ^ 62/\ -(2 ^ 62)<=hi/\hi<2 ^ 62)/\(hi-lo).toNat<=2 ^ 20/\
  ∀l,H l=none->Q (.ref l) (dF H l (.lst ((YF (hi-lo).toNat).map λi=>V.int (lo+(i:Nat)))))):=by
 intro pins s σ H xs us Q I r h;obtain⟨p,lo,hi,rfl,hp,⟨h1,h2,h3,h4⟩,hz,q⟩:=h;obtain⟨u,rfl,rx⟩:=jF r;cases rx;obtain⟨t,u,v,e⟩:=I.hok p _ hp;refine call_list_range (n:=(hi-lo).toNat) (I.ok.hd hc) (c:=1) (show IsRange s.heap p lo hi 1 t u v from e) (small_one h1 h2 h3 h4) (by grind[rangeSize_one]) (by lia) λh' tk se c' hk AY jr=>?_;have hl:((YF (hi-lo).toNat).map λi=>V.int (lo+(i:Nat))).length<=XU:=by
  rw[XO,YZ,aaA];lia
 refine⟨.ref s.heap.objs.size,_,I.laid hk (X6 _) (show cD X.prog X.w _ _ _ (.lst _) from ⟨hl,se.toList,c',tE jr,by simp[*]⟩),rfl,q _ (I.hok.fresh (X6 _))⟩
def Fy (i j:Int):Prop:=0<j/\j<18446744073709551616
theorem Bj (h:n<18446744073709551616):n.log2<9000:=by
 by_cases h0:n=0
 ·simp[*]
 ·have:=(Nat.log2_lt h0 (k:=64)).mpr (by lia);lia
theorem p0:l7 X (abi .FloorDiv) (rI Fy λi j=>.int (i / j)):=RW λi j _ _ _ _ _ hc q=>by
 refine floordiv_int (by have:=hc.1;lia) ?_ (.inl (PyProof.noPylong_of_log2 (Bj (by have:=hc.1;have:=hc.2;lia))));rw[Int.fdiv_eq_ediv_of_nonneg _ (by have:=hc.1;lia)];exact q
def ow:YQ "list"=some (.type "list"):=by rfl
def b_:YQ "tuple"=some (.type "tuple"):=by rfl
def ND:YQ "int"=some (.type "int"):=by rfl
def Cj:YQ "bool"=some (.type "bool"):=by rfl
def yP:YQ "range"=some (.type "range"):=by rfl
def fk:YQ "len"=some (.builtin "len"):=by rfl
def Fz:YQ "max"=some (.builtin "max"):=by rfl
def FA:YQ "min"=some (.builtin "min"):=by rfl
def gP:YQ "isinstance"=some (.builtin "isinstance"):=by rfl
def vT:YQ "sorted"=some (.builtin "sorted"):=by rfl
def FC:YQ "all"=some (.builtin "all"):=by rfl
def Bk:YQ "sum"=some (.builtin "sum"):=by rfl
end L2
namespace HT
open L2
section
variable {w:Y6}{A:YG}
theorem getItem_tuple_whole {t sl:Ye}{vl vu:XY}(ht:IsTup s.heap t items)(hs:s.heap.IsSliceOf sl vl vu .none)(pl:IsPart vl lo)(pu:IsPart vu hi)(hw:sIx items.size 0 lo=0/\sIx items.size items.size hi=items.size)(h:Q (.ref t) s):Yg (Yw prog w) A (getItem (.ref t) (.ref sl)) Q E s:=by
 obtain⟨os,Jk,hcs,hds⟩:=id hs;have T7:s.TypeIs (.ref sl) "slice":=⟨os,Jk,hcs⟩;unfold getItem
 try with_reducible refine Y4 ?_
 first|refine XM (XS ?_)|skip
 refine XM (wpAny_sequenceKey ht.typeIs (by decide) ?_);refine XM (Y5 (name:=X9 "__getitem__") ht.typeIs Z3
  (Zd Z3 ht.typeIs entry_tuple_getitem ?_ (args_tuple_getitem _ _)))
 show Yg _ _ (ac1 (.ref t) >>= _) _ _ s;refine XM (tupleItemsOf_ ht ?_);refine XM (abk T7 ?_);rw[hZ (by decide)];refine XM (j6 hs pl pu ?_);obtain⟨w1,w2⟩:=hw;rw[w1,w2];show Yg _ _ (if (((0:Nat):Int)==0&&(1:Int)==1&&(items.size-0)==items.size)=true then _ else _) _ _ s;rw[hZ (by simp)];have DH:Yg (Yw prog w) A.in1 (ac2 (.ref t)) (λb s'=>b=true/\s'=s) E s:=by
  unfold ac2;exact XM (abk ht.typeIs (XS ⟨(by decide),rfl⟩))
 refine XM (Zc DH (λb s' hb=>?_) λ_ _ e=>e);obtain⟨rfl,rfl⟩:=hb;rw[hZ rfl];exact XM (aa5 (XS ⟨_,rfl,XS h⟩))
end
end HT
namespace L2
def tF {p:Ye}(h:H p=none)(o:HO):aX H (dF H p o):=λb u q=>by rw[aS (bG q h)];exact q
section
open AutoSeq1 (wpAny_loadPart')
theorem mI {w:Y6}{A:YG}{Q:List XY->Ya->Prop}{r:Ye}{a b c:Int}{t u v:Tok}(hh:A.handled=none)(hr:IsRange s.heap r a b c t u v)(B3:Builtin.Range.small a b c=true)(hn:abW a b c=n)(du:n<=2 ^ 24)(hQ:∀h' tk (b9:Array XY),(∀b o',s.heap.get? b=some o'->h'.get? b=some o')->ItemsOf (λi v=>∃t,v=.int (a+i*c) t) b9 n->Q b9.toList {s with heap:=h',toks:=tk}) :
  Yg (Yw prog w) A (collect (.ref r)) Q E s:=by
 unfold collect;refine XM (adm (Zl F.entry_proto_collect ?_));rw[Y_ F.plain_proto_collect _];show Yg _ A.in1 (newList [] >>= λl=>again (.builtin "list.__iadd__" ⟨[l,.ref r],[]⟩)) _ _ s;refine XM (YY ?_);refine XS ⟨aa_ acj _,Zl F.entry_list_iadd ?_⟩;rw[Y_ acj _];have hS:(s.heap.push {cls:=.type "list",data:=.seq ([]:List XY).toArray}).get? s.heap.objs.size=some {cls:=.type "list",data:=.seq (List.toArray []) 0}:=X8 _ rfl;show Yg _ A.in1 (ZU (.ref s.heap.objs.size) (.ref r) (.ref s.heap.objs.size)) _ _ _;refine Zc (wpAny_extend_range (A:=A) (R:=λres s'=>res=.ok (.ret (.ref s.heap.objs.size))/\Yg (Yw prog w) A (load s.heap.objs.size >>= λo=>match o.data with|.seq xs _=>pure xs.toList|_=>abI "internal:collect") Q E s')
  hh (XQ _ hr) B3 hn du s.heap.objs.size _ 0 hS λh' tk se c' hk AY jr=>⟨rfl,?_⟩) (λfin s' h=>?_) λe s' h=>absurd h.1 (by simp)
 ·refine XM (ady AY (XS ?_));exact hQ h' tk se (λb o' hb=>hk b o' (Ym (X_ hb)) (XQ _ hb)) jr
 ·cases fin with
  |done f=>
   obtain⟨e,q⟩:=h;cases e;exact q
  |again c'=>exact⟨h.1,aaL h.2 λr DB hr=>by obtain⟨rfl,q⟩:=hr;exact q⟩
theorem kR (l:Ye)(a b c:Int)(t u v:Tok)(n:Nat)(B3:Builtin.Range.small a b c=true)(hn:abW a b c=n)(du:n<=2 ^ 20) :
  Meets (Builtin.«tuple.__new__» ⟨[.type "tuple",.ref l],[]⟩)
   (λA R s=>A.handled=none/\IsRange s.heap l a b c t u v/\∀(h':Z9) (tk:Nat) (b9:Array XY),(∀b o',s.heap.get? b=some o'->h'.get? b=some o')->ItemsOf (λi v=>∃t,v=.int (a+i*c) t) b9 n->
    R (.ok (.ret (.ref h'.objs.size))) {s with heap:=h'.push {cls:=.type "tuple",data:=.seq b9},toks:=tk}):=
 .of_wp λprog w A R s h=>by
  obtain⟨hp,g,d,tk,os⟩:=s;obtain⟨hh,ht,h⟩:=h;have Ul:=sub_tuple_self;have RB:=init_tuple_lookup;have Wf:=madeHere_tuple;have hT:Shared.TypeIs ⟨hp,g,d,tk,os⟩ (.ref l) "range":=⟨_,ht,rfl⟩;wp_walk using abk hT,mI (A:=A.in1) hh ht B3 hn (by lia);intro h' RC b9 hk jr;show Yg _ _ (Zg b9.toList.toArray >>= λv=>ret v) _ _ _;unfold Zg;refine XM (YY ?_ (by show b9.toList.toArray.size<=XU;rw[aaA];simp;have:=jr.1;lia));refine XS ⟨_,rfl,?_⟩;simp_all
theorem tG (hc:X.calm=true):eO X (.type "tuple") (λxs H Q=>∃p lo hi,xs=[.ref p]/\H p=some (.rng lo hi)/\(-(2 ^ 62)<=lo/\lo<2 ^ 62/\ -(2 ^ 62)<=hi/\hi<2 ^ 62)/\(hi-lo).toNat<=2 ^ 20/\
  ∀l,H l=none->Q (.ref l) (dF H l (.tup ((YF (hi-lo).toNat).map λi=>V.int (lo+(i:Nat)))))):=by
 intro pins s σ H xs us Q I r h;obtain⟨p,lo,hi,rfl,hp,⟨h1,h2,h3,h4⟩,hz,q⟩:=h;obtain⟨u,rfl,rx⟩:=jF r;cases rx;obtain⟨t,u,v,e⟩:=I.hok p _ hp;refine callType_new F.called_tuple (by decide) (F.typeCall_tuple_1 _) (F.newCall_tuple_1 _) (λobj=>F.args_object_init_2 obj _) F.entry_tuple_new
  (kR p lo hi 1 t u v (hi-lo).toNat (small_one h1 h2 h3 h4) (by rw[rangeSize_one];split<;>lia) hz) ⟨I.ok.hd hc,e,λh' tk b9 hk jr=>⟨⟨_,X8 _ rfl,rfl⟩,?_⟩⟩
 have hl:((YF (hi-lo).toNat).map λi=>V.int (lo+(i:Nat))).length<=XU:=by
  rw[XO,YZ,aaA];lia
 have I1:aP X pins σ H {s with heap:=h',toks:=tk}:=I.kept hk;refine⟨.ref h'.objs.size,_,I1.laid (t':=tk) (λb o e=>XQ _ e) (X6 _) (show cD X.prog X.w _ _ _ (.tup _) from ⟨hl,b9.toList,tE jr,by simp[IsTup.new],0,by simpa using X8 h' rfl⟩),rfl,q _ (I1.hok.fresh (X6 _))⟩
end
end L2
namespace HT
open L2
end HT
namespace L2
def yQ:V->List V->Hp->VK->Prop:=λx vs H Q=>∃l b xs zs,x=.ref l/\vs=[.ref b]/\H l=some (.lst xs)/\H b=some (.tup zs)/\xs.length+zs.length<=XU/\Q .non (dF H l (.lst (xs++zs)))
theorem Bl:RX X "list.extend" yQ:=by
 intro pins s σ H x vs v us Q I rx rv h;obtain⟨l,b,xs,zs,rfl,rfl,hH,hB,hz,q⟩:=h;cases rx;obtain⟨u,rfl,ru⟩:=rv.one;cases ru;obtain⟨z,aA,n,r,hl,e⟩:=I.lstM hH;obtain⟨z2,its2,r2,_,n2,e2⟩:=I.hok b _ hB;have IG:=r2.length;have hsz:aA.toArray.size+its2.toArray.size<=XU:=by rw[XZ,XZ];lia
 have AM:¬(!aA.toArray.isEmpty&&aaf (aA.toArray.size+its2.toArray.size))=true:=by
  rw[tq hsz,abA];exact XR
 refine acM ada ⟨_,e,rfl⟩ acR (acG _ _)
  (AutoSeq1.list_extend_list_tuple_0 l aA.toArray n b its2.toArray n2 AM (by rw[XZ];lia) (by lia)) ⟨e,e2,?_⟩
 refine⟨.non,_,I.lset (its':=aA++its2) hH e (by simp) (r.append r2) ?_,rfl,q⟩;rw[XW];lia
theorem D9 {bs:List Bool}{us:List XY}(r:bw (bs.map V.bl) us){v:XY}(h:us[i]? = some v):v=.bool (bs.getD i true):=by
 have hl:=r.length;rw[XO] at hl;obtain⟨hi,_⟩:=X3.mp h;have e:(bs.map V.bl)[i]? = some (V.bl (bs.getD i true)):=by
  rw[Yq,XN (by lia)];simp[ab2,XN (show i<bs.length by lia)]
 obtain⟨u,hu,ru⟩:=r.get e;rw[h] at hu;cases hu;exact ru
theorem D_ (bs:List Bool):((YF bs.length).all λi=>bs.getD i true)=bs.all id:=by
 induction bs with
 |nil=>rfl
 |cons b bs ih=>
  rw[X1,List.range_succ_eq_map,Z6,abl,Z6];congr 1
theorem vU (hc:X.calm=true):eO X (.builtin "all") (λxs H Q=>∃(p:Ye) (bs:List Bool),xs=[.ref p]/\fS X.K H p (bs.map V.bl)/\Q (.bl (bs.all id)) H):=by
 intro pins s σ H xs us Q I r h;obtain⟨p,bs,rfl,hq,q⟩:=h;obtain⟨u,rfl,rx⟩:=jF r;cases rx;obtain⟨aA,rv,pl,hz⟩:=I.list hq;have hl:=pl.isList;have yt:p<s.heap.objs.size:=by obtain⟨_,e,_⟩:=hl;exact X_ e
 refine call_all_walk (acd hl ?_);refine⟨s.heap.objs.size,_,_,_,_,_,λi=>bs.getD i true,rfl,Walks.list (A:=X.A.in1) (I.ok.hd hc) _ p (Ym yt) aA.toArray,⟨⟨_,X8 _ rfl,rfl,rfl⟩,hl.push _⟩,?_,λh' tk hk=>?_⟩
 ·intro i v s' Q' E' hP Wg;grind[D9,aav]
 ·have e:(YF aA.toArray.size).all (λi=>bs.getD i true)=bs.all id:=by
   rw[XZ,←rv.length,XO];exact D_ bs
  rw[e];refine⟨.bl _,H,I.kept λb o e=>hk b o (λhm=>?_) (XQ _ e),rfl,q⟩;rcases Yb.mp hm with e1|hm
  ·exact absurd (e1▸X_ e) (ZJ _)
  ·cases hm
def FD (K:XX):V->Option Int->Option Int->Hp->VK->Prop:=λx lo hi H Q=>∃a xs,x=.ref a/\H a=some (.tup xs)/\∀r H',aX H H'->H' r=some (.tup (tj xs lo hi))->Q (.ref r) H'
theorem JH:Fh X (FD X.K):=by
 have base:Fh X (Qd X.K):=Nu;intro pins s σ H x v vl vu lo hi sl Q I rx hs pl pu h;obtain⟨a,xs,rfl,vk,q⟩:=h;have hx:i6 X.K H a xs:=i6.of vk;by_cases hw:HT.sIx xs.length 0 lo=0/\HT.sIx xs.length xs.length hi=xs.length
 ·cases rx;obtain⟨aA,r,ht,hz⟩:=I.tuple hx;have hl:aA.toArray.size=xs.length:=by rw[XZ,r.length]
  refine⟨"tuple",_,PyProof.Rows.slot_tuple_getitem.lookup,ht.typeIs,HT.getItem_tuple_whole ht hs pl pu (by rw[hl];exact hw) ⟨.ref a,H,I,rfl,q a H (aX.refl _) ?_⟩⟩;have e:tj xs lo hi=xs:=by grind[tj]
  lia
 ·exact base pins s σ H _ v vl vu lo hi sl Q I rx hs pl pu ⟨a,xs,rfl,hx,hw,λp hp=>q p _ (tF hp _) aQ⟩
def FE:R2:=λx y H Q=>∃a b xs ys,x=.ref a/\y=.ref b/\H a=some (.tup xs)/\H b=some (.tup ys)/\xs.length+ys.length<=XU/\∀r H',aX H H'->H' r=some (.tup (xs++ys))->Q (.ref r) H'
theorem FF:l7 X (abi .Add) FE:=by
 intro pins s σ H x y v u Q I rx ry h;obtain⟨a,b,xs,ys,rfl,rfl,B7,DL,hz,q⟩:=h;have ha:i6 X.K H a xs:=i6.of B7;have hb:i6 X.K H b ys:=i6.of DL;by_cases hx:xs=[]
 ·subst hx;cases rx;cases ry;obtain⟨aA,r1,p1,_⟩:=I.tuple ha;obtain⟨its2,r2,p2,_⟩:=I.tuple hb;have e1:aA=[]:=(bw.nil_iff r1).mpr rfl;subst e1;obtain⟨⟨cls,dd,data,sl⟩,ho,hc,n,hd⟩:=id p1;obtain⟨⟨cls2,MQ,data2,MR⟩,ho2,hc2,n2,EZ⟩:=id p2;simp only at hc hd hc2 EZ;subst hc hd hc2 EZ;exact concat_meets ⟨_,ho,rfl⟩ ⟨_,ho2,rfl⟩ noFill_tuple_add seq_tuple_add aca ab0 (abP _ _)
   (tuple_addW0 a b ([]:List XY).toArray its2.toArray n n2 dd MQ sl MR (by simp)) ⟨ho,ho2,⟨.ref b,H,I,rfl,q b H (aX.refl _) (by simpa using DL)⟩⟩
 ·refine JA pins s σ H _ _ v u Q I rx ry ⟨a,b,xs,ys,rfl,rfl,ha,hb,hx,hz,λe=>?_,λ_ p hp=>q p _ (tF hp _) aQ⟩;grind[aX.refl]
end L2
namespace L2
structure Fn (P:aaT)(w:Y6)(K:XX)(mg:Str->Option XY)(base:Z9)(x:Str)(k:Nat)(ps:List Str)(sp:Sp):Prop where
 ex:∃(f:Ye) (fd:aa9),mg x=some (.ref f)/\Zn K (.ref f)=true/\j4 K fd ps []/\j3 P w K mg base vR k f fd ps sp
structure Df (K:XX)(mg:Str->Option XY)(x:Str)(st:ab7):Prop where
 ex:∃(f:Ye) (fd:aa9),mg x=some (.ref f)/\Jc K x x st f fd
section
variable {w:Y6}{base:Z9}
theorem Df.fn (d:Df K mg x st)(S:aW N ps (aq st))(hb:∀(kV kX pm:XY) (an:Option Ye) (bQ ct:XY) (us:List XY),us.length=ps.length->bindArgs (Zu x x (ff st) (cJ st) (aq st) .none kV kX pm an bQ ct) ⟨us,[]⟩=pure (ps.zip us))(len:∀vs H Q E,sp vs H Q E->vs.length=ps.length)(gf:∀(f:Ye) (bQ:XY) (A:YG) (outer:List Env) (s:Ya) (H:Hp) (vs:List V) (Q:VK) (E:XK),eV k (A.deeper (aae x (aq st) s.heap.objs.size f bQ))->sp vs H Q E->
   ∃t,sU (jC vR P w K mg base N x (aq st) f bQ A outer s H E).nox (cJ st) t/\t {nx:=λ_ H'=>Q .non H',rt:=Q} (abc N vs) H):Fn P w K mg base x (k+1) ps sp:=by
 obtain⟨f,fd,m,F⟩:=d.ex;exact⟨f,fd,m,F.kp,F.binds hb,F.ok S len (gf f)⟩
end
section
variable {p pos:Pos}{e:aaj}{es:List aaj}{t:TA}
theorem yR (F:Fn X.prog X.w X.K X.mg X.base x k ps sp)(hr:eV k X.A)(ha:PA X (e::es) t)(hg:Gl X x:=by rfl)(yr:(x==("__debug__":Str))=false:=by decide)
  (he:X7 (e::es) X.env=(false,abh e X.env)::X7 es X.env:=by rfl) (jZ:(aan pos (X7 es X.env)).any (·.1)=false:=by rfl) :
  PE X (.Call (.Name x p) (e::es) [] pos) (Fd sp [] E0 t):=by
 obtain⟨f,fd,hm,hk,hb,G⟩:=F.ex;exact Jw G hr hg hm hk hb .nil Qj ha yr he jZ
end
theorem aX.seqT (e:aX H H')(h:i6 K H a xs):i6 K H' a xs:=by
 rcases h with (h|⟨o,h⟩)|h
 ·exact .inl (.inl (e _ _ h))
 ·exact .inl (.inr ⟨o,e _ _ h⟩)
 ·exact .inr h
mutual
theorem aX.rep {K:XX}{H H':Hp}(e:aX H H'):∀{d:D} {v:V},bS K H d v->bS K H' d v
 | .non,v,h=>by grind[bS]
 | .bl b,v,h=>by grind[bS]
 | .int b,v,h=>by grind[bS]
 | .str b,v,h=>by grind[bS]
 | .tup ds,v,h=>by
  unfold bS at h ⊢;obtain⟨a,xs,r,q,z⟩:=h;exact⟨a,xs,r,e.seqT q,aX.reps e z⟩
 | .lst ds,v,h=>by
  unfold bS at h ⊢;obtain⟨a,xs,r,q,z⟩:=h;exact⟨a,xs,r,e.seq q,aX.reps e z⟩
theorem aX.reps {K:XX}{H H':Hp}(e:aX H H'):∀{ds:List D} {vs:List V},gu K H ds vs->gu K H' ds vs
 | [],vs,h=>by grind[gu]
 |d::ds,vs,h=>by
  unfold gu at h ⊢;obtain⟨x,r,q,p,z⟩:=h;exact⟨x,r,q,aX.rep e p,aX.reps e z⟩
end
end L2
namespace L2
inductive U where
 |non|bl (b:Bool)|int (i:Int)|str (x:Str)|tup (xs:List U)|lst (xs:List U)|dct (ks vs:List U)|scr (xs:List U)
instance:Inhabited U:=⟨.non⟩
inductive R (α:Type) where
 |ok (a:α)|exc (c:String) (u:U)|stk
noncomputable def R.bind {α β:Type}:R α->(α->R β)->R β
 | .ok a,f=>f a
 | .exc c u,_=>.exc c u
 | .stk,_=>.stk
noncomputable abbrev Ev:=List (Option U)
inductive SR where
 |nx (ρ:Ev)|rt (u:U) (ρ:Ev)|bk (ρ:Ev)|ct (ρ:Ev)|exc (c:String) (u:U)|stk
end L2
variable {us ws:List L2.U}{u s1 q:L2.U}{p:L2.U->L2.U->L2.R L2.U}{ρ:L2.Ev}{sg:L2.U->L2.Ev->L2.R L2.Ev}
namespace L2
open Sem (wp)
mutual
noncomputable def xc:U->U->Bool
 | .non,.non=>true
 | .bl a,.bl b=>decide (a=b)
 | .int a,.int b=>decide (a=b)
 | .str a,.str b=>decide (a=b)
 | .tup a,.tup b=>p6 a b
 | .lst a,.lst b=>p6 a b
 | .dct a b,.dct c d=>p6 a c&&p6 b d
 | .scr a,.scr b=>p6 a b
 |_,_=>false
noncomputable def p6:List U->List U->Bool
 | [],[]=>true
 |x::xs,y::ys=>xc x y&&p6 xs ys
 |_,_=>false
end
mutual
theorem FG:∀{a b:U},xc a b=true->a=b
 | .non,b,h=>by cases b<;>first|rfl|(unfold xc at h;cases h)
 | .bl a,b,h=>by cases b<;>unfold xc at h<;>first|(cases h;done)|lia
 | .int a,b,h=>by cases b<;>unfold xc at h<;>first|(cases h;done)|lia
 | .str a,b,h=>by cases b<;>unfold xc at h<;>first|(cases h;done)|lia
 | .tup a,b,h=>by cases b<;>unfold xc at h<;>first|(cases h;done)|rw[l8 h]
 | .lst a,b,h=>by cases b<;>unfold xc at h<;>first|(cases h;done)|rw[l8 h]
 | .scr a,b,h=>by cases b<;>unfold xc at h<;>first|(cases h;done)|rw[l8 h]
 | .dct a c,b,h=>by
  cases b<;>unfold xc at h<;>first|(cases h;done)|skip
  rw[YD] at h;rw[l8 h.1,l8 h.2]
theorem l8:∀{a b:List U},p6 a b=true->a=b
 | [],[],_=>rfl
 | [],_::_,h=>by unfold p6 at h;cases h
 |_::_,[],h=>by unfold p6 at h;cases h
 |x::xs,y::ys,h=>by
  unfold p6 at h;rw[YD] at h;rw[FG h.1,l8 h.2]
end
mutual
theorem yS:∀(a:U),xc a a=true
 | .non=>rfl
 | .bl a=>by unfold xc;lia
 | .int a=>by unfold xc;lia
 | .str a=>by unfold xc;lia
 | .tup a=>by unfold xc;exact iW a
 | .lst a=>by unfold xc;exact iW a
 | .scr a=>by unfold xc;exact iW a
 | .dct a b=>by unfold xc;rw[iW a,iW b];rfl
theorem iW:∀(a:List U),p6 a a=true
 | []=>by rfl
 |x::xs=>by unfold p6;rw[yS x,iW xs];rfl
end
noncomputable instance VN:DecidableEq U:=λa b=>if h:xc a b=true then .isTrue (FG h) else .isFalse λe=>h (by grind[yS])
mutual
def n_ (h:Z9):U->XY->Prop
 | .int i,v=>∃t,v=.int i t
 | .tup us,v=>∃a items,v=.ref a/\h.IsTuple a items/\jD h us items.toList
 |_,_=>False
def jD (h:Z9):List U->List XY->Prop
 | [],vs=>vs=[]
 |u::us,vs=>∃v r,vs=v::r/\n_ h u v/\jD h us r
end
mutual
noncomputable def hK:U->Int
 | .int i=>hashInt i
 | .tup us=>reduceHash (Builtin.Tuple.tupleHashOf (US us))
 |_=>0
noncomputable def US:List U->List Int
 | []=>[]
 |u::us=>hK u::US us
end
mutual
noncomputable def VO:U->Nat
 | .tup us=>Qp us+1
 |_=>1
noncomputable def Qp:List U->Nat
 | []=>0
 |u::us=>VO u+Qp us
end
mutual
noncomputable def VP:U->Nat
 | .tup us=>NG us+1
 |_=>0
noncomputable def NG:List U->Nat
 | []=>0
 |u::us=>max (VP u) (NG us)
end
theorem Bm {x y:Array XY}(h1:h.IsTuple a x)(h2:h.IsTuple a y):x=y:=by
 obtain⟨o,e,_,n,d⟩:=h1;obtain⟨o',e',_,n',d'⟩:=h2;lia
mutual
theorem n_.inj {h:Z9}:∀{x y:U} {v:XY},n_ h x v->n_ h y v->x=y
 | .int i,y,v,h1,h2=>by
  unfold n_ at h1;obtain⟨t,rfl⟩:=h1;cases y<;>unfold n_ at h2<;>first|exact h2.elim|skip
  ·lia
  lia
 | .str i,y,v,h1,h2=>by unfold n_ at h1;exact h1.elim
 | .tup us,y,v,h1,h2=>by
  unfold n_ at h1;obtain⟨a,aA,rfl,q,z⟩:=h1;cases y<;>unfold n_ at h2<;>first|exact h2.elim|skip
  ·lia
  ·obtain⟨a',its',e,q',z'⟩:=h2;cases e;have:=Bm q q';subst this;rw[jD.inj z z']
 | .non,y,v,h1,h2=>by unfold n_ at h1;exact h1.elim
 | .bl _,y,v,h1,h2=>by unfold n_ at h1;exact h1.elim
 | .lst _,y,v,h1,h2=>by unfold n_ at h1;exact h1.elim
 | .dct _ _,y,v,h1,h2=>by unfold n_ at h1;exact h1.elim
 | .scr _,y,v,h1,h2=>by unfold n_ at h1;exact h1.elim
theorem jD.inj {h:Z9}:∀{x y:List U} {vs:List XY},jD h x vs->jD h y vs->x=y
 | [],y,vs,h1,h2=>by
  unfold jD at h1;subst h1;cases y with
  |nil=>rfl
  |cons=>grind[jD]
 |u::us,y,vs,h1,h2=>by
  unfold jD at h1;obtain⟨v,r,rfl,p,q⟩:=h1;cases y with
  |nil=>grind[jD]
  |cons=>
   unfold jD at h2;obtain⟨v',r',e,p',q'⟩:=h2;cases e;rw[n_.inj p p',jD.inj q q']
end
mutual
theorem n_.keep {h h':Z9}(k:∀a aA,h.IsTuple a aA->h'.IsTuple a aA):∀{x:U} {v:XY},n_ h x v->n_ h' x v
 | .int i,v,h1=>by grind[n_]
 | .str i,v,h1=>by unfold n_ at h1;exact h1.elim
 | .tup us,v,h1=>by
  unfold n_ at h1 ⊢;obtain⟨a,aA,e,q,z⟩:=h1;exact⟨a,aA,e,k a aA q,jD.keep k z⟩
 | .non,v,h1=>by unfold n_ at h1;exact h1.elim
 | .bl _,v,h1=>by unfold n_ at h1;exact h1.elim
 | .lst _,v,h1=>by unfold n_ at h1;exact h1.elim
 | .dct _ _,v,h1=>by unfold n_ at h1;exact h1.elim
 | .scr _,v,h1=>by unfold n_ at h1;exact h1.elim
theorem jD.keep {h h':Z9}(k:∀a aA,h.IsTuple a aA->h'.IsTuple a aA):∀{x:List U} {vs:List XY},jD h x vs->jD h' x vs
 | [],vs,h1=>by grind[jD]
 |u::us,vs,h1=>by
  unfold jD at h1 ⊢;obtain⟨v,r,e,p,q⟩:=h1;exact⟨v,r,e,n_.keep k p,jD.keep k q⟩
end
def VQ (p:List U×Ye×V)(q:List U×Ye×XY):Prop:=p.1=q.1/\p.2.1=q.2.1/\bX p.2.2 q.2.2
noncomputable def S_ (e:List U×Ye×XY):DictEntry:=⟨hK (.tup e.1),.ref e.2.1,e.2.2⟩
def Qq (a:Ye)(ep:Nat)(es:List (List U×Ye×V))(h:Z9):Prop:=(a==sysModules)=false/\∃o ds,∃xs:List (List U×Ye×XY),h.get? a=some o/\o.ExactDict/\o.data=.dict ds ep/\Paired VQ es xs/\ds.toList=xs.map S_
noncomputable def DN (a:Ye)(ep:Nat)(es:List (List U×Ye×V)):HO:=.ext (Qq a ep es)
mutual
def KH (H:Hp):U->V->Prop
 | .int i,v=>v=.int i
 | .tup us,v=>∃b ys,v=.ref b/\H b=some (.tup ys)/\us.length<=XU/\AV H us ys
 |_,_=>False
def AV (H:Hp):List U->List V->Prop
 | [],vs=>vs=[]
 |u::us,vs=>∃v r,vs=v::r/\KH H u v/\AV H us r
end
mutual
theorem KH.to {H H':Hp}(e:∀b ys,H b=some (.tup ys)->H' b=some (.tup ys)):∀{u:U} {v:V},KH H u v->KH H' u v
 | .int i,v,h=>by grind[KH]
 | .tup us,v,h=>by
  unfold KH at h ⊢;obtain⟨b,ys,r,q,l,z⟩:=h;exact⟨b,ys,r,e b ys q,l,AV.to e z⟩
 | .non,v,h=>by unfold KH at h;exact h.elim
 | .bl _,v,h=>by unfold KH at h;exact h.elim
 | .str _,v,h=>by unfold KH at h;exact h.elim
 | .lst _,v,h=>by unfold KH at h;exact h.elim
 | .dct _ _,v,h=>by unfold KH at h;exact h.elim
 | .scr _,v,h=>by unfold KH at h;exact h.elim
theorem AV.to {H H':Hp}(e:∀b ys,H b=some (.tup ys)->H' b=some (.tup ys)):∀{us:List U} {vs:List V},AV H us vs->AV H' us vs
 | [],vs,h=>by grind[AV]
 |u::us,vs,h=>by
  unfold AV at h ⊢;obtain⟨v,r,q,p,z⟩:=h;exact⟨v,r,q,KH.to e p,AV.to e z⟩
end
section
variable {w:Y6}
mutual
theorem KH.is (ok:mR P w H h):∀{u:U} {v:V} {x:XY},KH H u v->bX v x->n_ h u x
 | .int i,v,x,k,r=>by
  unfold KH at k;subst k;obtain⟨t,rfl⟩:=r;unfold n_;lia
 | .tup us,v,x,k,r=>by
  unfold KH at k;obtain⟨b,ys,rfl,q,_,z⟩:=k;cases r;obtain⟨_,aA,rv,it,_⟩:=ok b _ q;unfold n_;exact⟨b,aA.toArray,rfl,it,by simpa using AV.is ok z rv⟩
 | .non,v,x,k,r=>by unfold KH at k;exact k.elim
 | .bl _,v,x,k,r=>by unfold KH at k;exact k.elim
 | .str _,v,x,k,r=>by unfold KH at k;exact k.elim
 | .lst _,v,x,k,r=>by unfold KH at k;exact k.elim
 | .dct _ _,v,x,k,r=>by unfold KH at k;exact k.elim
 | .scr _,v,x,k,r=>by unfold KH at k;exact k.elim
theorem AV.is (ok:mR P w H h):∀{us:List U} {vs:List V} {xs:List XY},AV H us vs->bw vs xs->jD h us xs
 | [],vs,xs,k,r=>by
  unfold AV at k;subst k;cases r;rfl
 |u::us,vs,xs,k,r=>by
  unfold AV at k;obtain⟨v,vr,rfl,p,z⟩:=k;cases r with
  |cons r1 r2=>
   unfold jD;exact⟨_,_,rfl,KH.is ok p r1,AV.is ok z r2⟩
end
def RZ (H:Hp)(us:List U)(b:Ye):Prop:=NG us<=6/\∃ys,H b=some (.tup ys)/\us.length<=XU/\AV H us ys
theorem RZ.to (e:∀b ys,H b=some (.tup ys)->H' b=some (.tup ys)){b:Ye}(k:RZ H us b):RZ H' us b:=by
 obtain⟨l,ys,q,n,z⟩:=k;exact⟨l,ys,e b ys q,n,z.to e⟩
structure NH (H:Hp)(a:Ye)(es:List (List U×Ye×V)):Prop where
 ob:(∃ep,H a=some (DN a ep es))\/(es=[]/\H a=some (.dK []))
 nd:(es.map (·.1)).Nodup
 key:∀e∈es,RZ H e.1 e.2.1
end
end L2
namespace L2
noncomputable def kU:vj->U
 | .inl i=>.int i
 | .inr x=>.str x
def Jd (H:Hp)(a:Ye)(ks:List U)(xs:List V):Prop:=
 (∃ir:List (vj×V),H a=some (.dK ir)/\ks=ir.map (λp=>kU p.1)/\xs=ir.map (·.2)) \/
 ∃es:List (List U×Ye×V),es≠[]/\NH H a es/\ks=es.map (λp=>.tup p.1)/\xs=es.map (·.2.2)
noncomputable abbrev Qr:=Jd
def Jd.at {ks:List U}(h:Qr H a ks xs):Jd H a ks xs:=h
theorem NH.ne {es:List (List U×Ye×V)}(h:NH H a es)(n:es≠[]):∃ep,H a=some (DN a ep es):=by
 rcases h.ob with q|⟨e,_⟩
 ·exact q
 lia
def JI (K:XX)(H:Hp)(a:Ye)(xs:List V):Prop:=(∃o,H a=some (.frz o (.lst xs))) \/
  ∃(o:Obj) (aA:Array XY) (n:Nat),K.lookup a=some o/\o.cls=.type "list"/\o.dict=none/\o.data=.seq aA n/\aA.size<=XU/\bw xs aA.toList
theorem JI.sq (h:JI K H a xs):fS K H a xs:=by
 rcases h with⟨o,h⟩|h
 ·exact .inl (.inr ⟨o,h⟩)
 ·exact .inr h
theorem JI.to (h:JI K H a xs)(e:∀o y,H a=some (.frz o y)->H' a=some (.frz o y)):JI K H' a xs:=by
 rcases h with⟨o,h⟩|h
 ·exact .inl ⟨o,e _ _ h⟩
 ·exact .inr h
mutual
def Rp (K:XX)(H:Hp)(A:Ye->Prop):U->V->Prop
 | .non,v=>v=.non
 | .bl b,v=>v=.bl b
 | .int i,v=>v=.int i
 | .str x,v=>v=.str x
 | .tup us,v=>∃a xs,v=.ref a/\H a=some (.tup xs)/\us.length<=XU/\aU K H A us xs
 | .lst us,v=>∃a xs,v=.ref a/\¬A a/\H a=some (.lst xs)/\us.length<=XU/\aU K H A us xs
 | .dct ks us,v=>∃a xs,v=.ref a/\¬A a/\Jd H a ks xs/\us.length<=XU/\aU K H A us xs
 | .scr us,v=>∃a xs,v=.ref a/\JI K H a xs/\us.length<=XU/\aU K H A us xs
def aU (K:XX)(H:Hp)(A:Ye->Prop):List U->List V->Prop
 | [],xs=>xs=[]
 |u::us,xs=>∃x r,xs=x::r/\Rp K H A u x/\aU K H A us r
end
def mJ (K:XX)(H:Hp)(A:Ye->Prop):U->Ye->Prop
 | .lst us,a=>∃xs,H a=some (.lst xs)/\us.length<=XU/\aU K H A us xs
 | .dct ks us,a=>∃xs,Qr H a ks xs/\us.length<=XU/\aU K H A us xs
 |_,_=>False
def Pk (K:XX)(H:Hp)(A:Ye->Prop):U->V->Prop
 | .non,v=>v=.non
 | .bl b,v=>v=.bl b
 | .int i,v=>v=.int i
 | .str x,v=>v=.str x
 | .tup us,v=>∃a xs,v=.ref a/\H a=some (.tup xs)/\us.length<=XU/\aU K H A us xs
 | .lst us,v=>∃a xs,v=.ref a/\H a=some (.lst xs)/\us.length<=XU/\aU K H A us xs
 | .dct ks us,v=>∃a xs,v=.ref a/\Jd H a ks xs/\us.length<=XU/\aU K H A us xs
 | .scr us,v=>∃a xs,v=.ref a/\JI K H a xs/\us.length<=XU/\aU K H A us xs
def Mu:Option HO->Prop
 |some (.lst _)=>True
 |some (.dK _)=>True
 |some (.dT _)=>True
 |some (.ext _)=>True
 |_=>False
theorem Mu.ex {o:Option HO}(h:Mu o):∃x,o=.some x:=by
 cases o with
 |none=>exact h.elim
 |some x=>lia
def fQ (A:Ye->Prop)(H H':Hp):Prop:=∀b o,¬A b->H b=some o->H' b=some o
theorem fQ.refl:fQ A H H:=λ_ _ _ h=>h
theorem fQ.trans (a:fQ A H H1)(b:fQ A H1 H2):fQ A H H2:=λc o n h=>b c o n (a c o n h)
theorem fQ.same (h:aX H H'):fQ A H H':=λb o _ e=>h b o e
section
variable {A':Ye->Prop}
theorem Jd.ex {ks:List U}(h:Jd H a ks xs):∃o,H a=some o:=by
 rcases h with⟨k,h,_⟩|⟨k,n,h,_⟩
 ·grind
 ·obtain⟨ep,q⟩:=h.ne n;grind
theorem Jd.to {ks:List U}(h:Jd H a ks xs)(e:∀o,H a=some o->H' a=some o)(t:∀b ys,H b=some (.tup ys)->H' b=some (.tup ys)):Jd H' a ks xs:=by
 rcases h with⟨k,h,z⟩|⟨k,n,h,z⟩
 ·exact .inl ⟨k,e _ h,z⟩
 ·exact .inr ⟨k,n,⟨h.ob.imp (fun⟨ep,q⟩=>⟨ep,e _ q⟩) (λq=>⟨q.1,e _ q.2⟩),h.nd,λy hy=>(h.key y hy).to t⟩,z⟩
mutual
theorem Rp.re (m:∀b,A b->Mu (H b))(e:fQ A H H')(n:∀b,A' b->A b\/H b=none):∀{u:U} {v:V},Rp K H A u v->Rp K H' A' u v
 | .non,v,h=>by grind[Rp]
 | .bl b,v,h=>by grind[Rp]
 | .int b,v,h=>by grind[Rp]
 | .str b,v,h=>by grind[Rp]
 | .tup us,v,h=>by
  unfold Rp at h ⊢;obtain⟨a,xs,r,q,l,z⟩:=h;exact⟨a,xs,r,e a _ (λz=>by have:=m a z;rw[q] at this;exact this) q,l,aU.re m e n z⟩
 | .lst us,v,h=>by
  unfold Rp at h ⊢;obtain⟨a,xs,r,na,q,l,z⟩:=h;refine⟨a,xs,r,λy=>?_,e a _ na q,l,aU.re m e n z⟩;grind
 | .scr us,v,h=>by
  unfold Rp at h ⊢;obtain⟨a,xs,r,q,l,z⟩:=h;exact⟨a,xs,r,q.to λo y w=>e a _ (λz=>by have:=m a z;rw[w] at this;exact this) w,l,aU.re m e n z⟩
 | .dct ks us,v,h=>by
  unfold Rp at h ⊢;obtain⟨a,xs,r,na,q,l,z⟩:=h;refine⟨a,xs,r,λy=>?_,q.to (λo w=>e a o na w) (λb ys w=>e b _ (λy=>by have:=m b y;rw[w] at this;exact this) w),l,aU.re m e n z⟩;obtain⟨o,w⟩:=q.ex;grind
theorem aU.re (m:∀b,A b->Mu (H b))(e:fQ A H H')(n:∀b,A' b->A b\/H b=none):∀{us:List U} {vs:List V},aU K H A us vs->aU K H' A' us vs
 | [],vs,h=>by grind[aU]
 |u::us,vs,h=>by
  unfold aU at h ⊢;obtain⟨x,r,q,p,z⟩:=h;exact⟨x,r,q,Rp.re m e n p,aU.re m e n z⟩
end
mutual
theorem Rp.mono (n:∀b,A' b->A b):∀{u:U} {v:V},Rp K H A u v->Rp K H A' u v
 | .non,v,h=>by grind[Rp]
 | .bl b,v,h=>by grind[Rp]
 | .int b,v,h=>by grind[Rp]
 | .str b,v,h=>by grind[Rp]
 | .tup us,v,h=>by
  unfold Rp at h ⊢;obtain⟨a,xs,r,q,l,z⟩:=h;exact⟨a,xs,r,q,l,aU.mono n z⟩
 | .lst us,v,h=>by
  unfold Rp at h ⊢;obtain⟨a,xs,r,na,q,l,z⟩:=h;exact⟨a,xs,r,λy=>na (n a y),q,l,aU.mono n z⟩
 | .scr us,v,h=>by
  unfold Rp at h ⊢;obtain⟨a,xs,r,q,l,z⟩:=h;exact⟨a,xs,r,q,l,aU.mono n z⟩
 | .dct ks us,v,h=>by
  unfold Rp at h ⊢;obtain⟨a,xs,r,na,q,l,z⟩:=h;exact⟨a,xs,r,λy=>na (n a y),q,l,aU.mono n z⟩
theorem aU.mono (n:∀b,A' b->A b):∀{us:List U} {vs:List V},aU K H A us vs->aU K H A' us vs
 | [],vs,h=>by grind[aU]
 |u::us,vs,h=>by
  unfold aU at h ⊢;obtain⟨x,r,q,p,z⟩:=h;exact⟨x,r,q,Rp.mono n p,aU.mono n z⟩
end
mutual
theorem Rp.same (e:aX H H'):∀{u:U} {v:V},Rp K H A u v->Rp K H' A u v
 | .non,v,h=>by grind[Rp]
 | .bl b,v,h=>by grind[Rp]
 | .int b,v,h=>by grind[Rp]
 | .str b,v,h=>by grind[Rp]
 | .tup us,v,h=>by
  unfold Rp at h ⊢;obtain⟨a,xs,r,q,l,z⟩:=h;exact⟨a,xs,r,e a _ q,l,aU.same e z⟩
 | .lst us,v,h=>by
  unfold Rp at h ⊢;obtain⟨a,xs,r,na,q,l,z⟩:=h;exact⟨a,xs,r,na,e a _ q,l,aU.same e z⟩
 | .scr us,v,h=>by
  unfold Rp at h ⊢;obtain⟨a,xs,r,q,l,z⟩:=h;exact⟨a,xs,r,q.to λo y w=>e a _ w,l,aU.same e z⟩
 | .dct ks us,v,h=>by
  unfold Rp at h ⊢;obtain⟨a,xs,r,na,q,l,z⟩:=h;exact⟨a,xs,r,na,q.to (λo w=>e a o w) (λb ys w=>e b _ w),l,aU.same e z⟩
theorem aU.same (e:aX H H'):∀{us:List U} {vs:List V},aU K H A us vs->aU K H' A us vs
 | [],vs,h=>by grind[aU]
 |u::us,vs,h=>by
  unfold aU at h ⊢;obtain⟨x,r,q,p,z⟩:=h;exact⟨x,r,q,Rp.same e p,aU.same e z⟩
end
theorem aU.length:∀{us:List U} {vs:List V},aU K H A us vs->us.length=vs.length
 | [],_,h=>by grind[aU]
 |u::us,_,h=>by
  unfold aU at h;obtain⟨x,r,rfl,_,q⟩:=h;rw[X1,X1,aU.length q]
theorem aU.get:∀{us:List U} {vs:List V} {i:Nat} {u:U},aU K H A us vs->us[i]? = some u->∃v,vs[i]? = some v/\Rp K H A u v
 | [],_,_,_,_,e=>by simp at e
 |w::us,_,i,u,h,e=>by
  unfold aU at h;obtain⟨x,r,rfl,p,q⟩:=h;cases i with
  |zero=>simp at e;subst e;exact⟨x,by simp,p⟩
  |succ i=>
   obtain⟨v,a,b⟩:=aU.get q (i:=i) (by simpa using e);exact⟨v,by simpa using a,b⟩
theorem aU.nil:aU K H A [] []:=by rfl
def aU.cons (h:Rp K H A u v)(t:aU K H A us vs):aU K H A (u::us) (v::vs):=by unfold aU;exact⟨v,vs,rfl,h,t⟩
theorem aU.append:∀{us ws:List U} {vs xs:List V},aU K H A us vs->aU K H A ws xs->aU K H A (us++ws) (vs++xs)
 | [],ws,vs,xs,h,t=>by unfold aU at h;subst h;exact t
 |u::us,ws,vs,xs,h,t=>by
  unfold aU at h;obtain⟨x,r,rfl,p,q⟩:=h;exact aU.cons p (aU.append q t)
theorem aU.take:∀{us:List U} {vs:List V} (n:Nat),aU K H A us vs->aU K H A (us.take n) (vs.take n)
 | [],vs,n,h=>by grind[aU,aU.nil]
 |u::us,vs,0,h=>by rfl
 |u::us,vs,n+1,h=>by
  unfold aU at h;obtain⟨x,r,rfl,p,q⟩:=h;exact aU.cons p (aU.take n q)
theorem aU.drop:∀{us:List U} {vs:List V} (n:Nat),aU K H A us vs->aU K H A (us.drop n) (vs.drop n)
 | [],vs,n,h=>by grind[aU,aU.nil]
 |u::us,vs,0,h=>h
 |u::us,vs,n+1,h=>by
  unfold aU at h;obtain⟨x,r,rfl,p,q⟩:=h;exact aU.drop n q
theorem aU.set:∀{us:List U} {vs:List V} (n:Nat) {u:U} {v:V},Rp K H A u v->aU K H A us vs->aU K H A (us.set n u) (vs.set n v)
 | [],vs,n,_,_,_,h=>by grind[aU,aU.nil]
 |u::us,vs,0,_,_,p',h=>by
  unfold aU at h;obtain⟨x,r,rfl,p,q⟩:=h;exact aU.cons p' q
 |u::us,vs,n+1,_,_,p',h=>by
  unfold aU at h;obtain⟨x,r,rfl,p,q⟩:=h;exact aU.cons p (aU.set n p' q)
theorem Rp.pk (h:Rp K H A u v):Pk K H A u v:=by
 cases u<;>(unfold Rp at h;unfold Pk)
 case lst us=>obtain⟨a,xs,r,na,q⟩:=h;exact⟨a,xs,r,q⟩
 case dct ks us=>obtain⟨a,xs,r,na,q⟩:=h;exact⟨a,xs,r,q⟩
 all_goals exact h
theorem Pk.same (e:aX H H')(h:Pk K H A u v):Pk K H' A u v:=by
 cases u<;>(unfold Pk at h ⊢)
 case tup us=>obtain⟨a,xs,r,q,l,z⟩:=h;exact⟨a,xs,r,e a _ q,l,z.same e⟩
 case lst us=>obtain⟨a,xs,r,q,l,z⟩:=h;exact⟨a,xs,r,e a _ q,l,z.same e⟩
 case scr us=>obtain⟨a,xs,r,q,l,z⟩:=h;exact⟨a,xs,r,q.to λo y w=>e a _ w,l,z.same e⟩
 case dct ks us=>obtain⟨a,xs,r,q,l,z⟩:=h;exact⟨a,xs,r,q.to (λo w=>e a o w) (λb ys w=>e b _ w),l,z.same e⟩
 all_goals exact h
theorem mJ.pk (h:mJ K H A u a):Pk K H A u (.ref a):=by
 cases u<;>(unfold mJ at h;unfold Pk)
 case lst us=>obtain⟨xs,q,l,z⟩:=h;exact⟨a,xs,rfl,q,l,z⟩
 case dct ks us=>obtain⟨xs,q,l,z⟩:=h;exact⟨a,xs,rfl,q.at,l,z⟩
 all_goals exact h.elim
theorem mJ.rp (h:mJ K H A u a)(n:∀b,A' b->A b)(na:¬A' a):Rp K H A' u (.ref a):=by
 cases u<;>(unfold mJ at h;unfold Rp)
 case lst us=>obtain⟨xs,q,l,z⟩:=h;exact⟨a,xs,rfl,na,q,l,z.mono n⟩
 case dct ks us=>obtain⟨xs,q,l,z⟩:=h;exact⟨a,xs,rfl,na,q.at,l,z.mono n⟩
 all_goals exact h.elim
theorem mJ.re (m:∀b,A b->Mu (H b))(e:fQ A H H')(n:∀b,A' b->A b\/H b=none)(ea:∀o,H a=some o->H' a=some o)(h:mJ K H A u a):mJ K H' A' u a:=by
 cases u<;>(unfold mJ at h ⊢)
 case lst us=>obtain⟨xs,q,l,z⟩:=h;exact⟨xs,ea _ q,l,z.re m e n⟩
 case dct ks us=>obtain⟨xs,q,l,z⟩:=h;exact⟨xs,q.to ea (λb ys w=>e b _ (λy=>by have:=m b y;rw[w] at this;exact this) w),l,z.re m e n⟩
 all_goals exact h.elim
theorem mJ.mu (h:mJ K H A u a):Mu (H a):=by
 cases u<;>(unfold mJ at h)
 case lst us=>obtain⟨xs,q,_⟩:=h;rw[q];trivial
 case dct ks us=>
  obtain⟨xs,q,_⟩:=h;rcases q with⟨k,q,_⟩|⟨k,n,q,_⟩
  ·rw[q];trivial
  ·obtain⟨ep,q⟩:=q.ne n;rw[q];trivial
 all_goals exact h.elim
end
structure Pkg where
 A0:Ye->Prop
 B:Hp
 a0:Ye
structure Gm where
 own:List Bool
 io:Bool
 W:Hp->Prop
noncomputable def Gm.is (G:Gm)(i:Nat):Bool:=G.own.getD i false
structure dQ (K:XX)(G:Gm)(Z:Pkg)(A:Ye->Prop)(ρ:Ev)(σ:St)(H:Hp):Prop where
 slot:∀i u,ρ[i]? = some (some u)->∃v,σ[i]? = some (some v)/\if G.is i=true then (∃a,v=.ref a/\A a/\Z.B a=none/\(¬Z.A0 a\/(G.io=true/\i=0))/\mJ K H A u a) else Rp K H A u v
 dis:∀i j u w a,G.is i=true->G.is j=true->i≠j->ρ[i]? = some (some u)->ρ[j]? = some (some w)->σ[i]? = some (some (.ref a))->σ[j]? = some (some (.ref a))->False
 mu:∀a,A a->Mu (H a)
 sup:∀a,Z.A0 a->A a
 out:∀a,A a->Z.A0 a\/Z.B a=none
 bas:∀a o,Z.B a=some o->H a=some o
 io0:G.io=true->σ[0]? = some (some (.ref Z.a0))/\G.is 0=true
 len:ρ.length=σ.length
section
variable {A':Ye->Prop}{G:Gm}{Z:Pkg}{ρ':Ev}
theorem dQ.same (r:dQ K G Z A ρ σ H)(e:aX H H'):dQ K G Z A ρ σ H' where
 slot:=λi u h=>by
  obtain⟨v,h1,h2⟩:=r.slot i u h;refine⟨v,h1,?_⟩;by_cases c:G.is i=true
  ·rw[hZ c] at h2 ⊢;obtain⟨a,e1,e2,e3,e4,e5⟩:=h2;exact⟨a,e1,e2,e3,e4,e5.re r.mu (fQ.same e) (λb z=>.inl z) λo w=>e a o w⟩
  ·rw[hV c] at h2 ⊢;exact h2.same e
 dis:=r.dis
 mu:=λa h=>by
  have m:=r.mu a h;obtain⟨o,q⟩:=m.ex;rw[e a o q,←q];exact m
 sup:=r.sup
 out:=r.out
 bas:=λa o h=>e a o (r.bas a o h)
 io0:=r.io0
 len:=r.len
theorem dQ.add (r:dQ K G Z A ρ σ H)(e:aX H H')(n:H a=none)(m:Mu (H' a)):dQ K G Z (λb=>A b\/b=a) ρ σ H' where
 slot:=λi u h=>by
  have q:∀b,(A b\/b=a)->A b\/H b=none:=λb z=>by
   lia
  obtain⟨v,h1,h2⟩:=r.slot i u h;refine⟨v,h1,?_⟩;by_cases c:G.is i=true
  ·rw[hZ c] at h2 ⊢;obtain⟨b,e1,e2,e3,e4,e5⟩:=h2;exact⟨b,e1,.inl e2,e3,e4,e5.re r.mu (fQ.same e) q λo w=>e b o w⟩
  ·rw[hV c] at h2 ⊢;exact h2.re r.mu (fQ.same e) q
 dis:=r.dis
 mu:=λb h=>by
  rcases h with h|h
  ·exact (r.same e).mu b h
  lia
 sup:=λb h=>.inl (r.sup b h)
 out:=λb h=>by
  rcases h with h|h
  ·exact r.out b h
  ·subst h;refine .inr ?_;cases q:Z.B b with
   |none=>rfl
   |some o=>rw[r.bas b o q] at n;cases n
 bas:=λa o h=>e a o (r.bas a o h)
 io0:=r.io0
 len:=r.len
def dQ.notA (r:dQ K G Z A ρ σ H)(n:H a=none):¬A a:=λz=>by
 have:=r.mu a z;rw[n] at this;exact this
theorem dQ.notB (r:dQ K G Z A ρ σ H)(n:H a=none):Z.B a=none:=by
 cases q:Z.B a with
 |none=>rfl
 |some o=>rw[r.bas a o q] at n;cases n
theorem dQ.val (r:dQ K G Z A ρ σ H)(c:G.is i=false)(h:ρ[i]? = some (some u)):∃v,σ[i]? = some (some v)/\Rp K H A u v:=by
 obtain⟨v,h1,h2⟩:=r.slot i u h;grind
theorem dQ.own (r:dQ K G Z A ρ σ H)(c:G.is i=true)(h:ρ[i]? = some (some u)):∃a,σ[i]? = some (some (.ref a))/\A a/\Z.B a=none/\(¬Z.A0 a\/(G.io=true/\i=0))/\mJ K H A u a:=by
 obtain⟨v,h1,h2⟩:=r.slot i u h;rw[hZ c] at h2;obtain⟨a,rfl,z⟩:=h2;exact⟨a,h1,z⟩
end
end L2
variable {Z:L2.Pkg}{G:L2.Gm}
namespace L2
inductive Md where
 |S|O|P
 deriving DecidableEq
def vV (K:XX)(G:Gm)(Z:Pkg)(m:Md)(A:Ye->Prop)(ρ:Ev)(σ:St)(H:Hp)(u:U)(v:V):Prop:=match m with
 | .S=>Rp K H A u v
 | .P=>Pk K H A u v
 | .O=>∃a,v=.ref a/\¬A a/\Z.B a=none/\dQ K G Z (λb=>A b\/b=a) ρ σ H/\mJ K H (λb=>A b\/b=a) u a
def FH (K:XX)(m:Md)(A:Ye->Prop)(H H':Hp)(u:U)(v:V):Prop:=match m with
 | .S=>Rp K H' A u v
 | .P=>Pk K H' A u v
 | .O=>∃a,v=.ref a/\H a=none/\mJ K H' (λb=>A b\/b=a) u a
def JJ (K:XX)(G:Gm)(Z:Pkg)(A:Ye->Prop)(b:Bool)(m:Md)(ρ:Ev)(σ:St)(H:Hp):R (U×Ev)->VK->Prop
 | .ok (u,ρ'),Q=>∀v H',dQ K G Z A ρ' σ H'->fQ A H H'->(b=false->ρ'=ρ/\aX H H')->vV K G Z m A ρ' σ H' u v->Q v H'
 |_,_=>False
def tD (K:XX)(G:Gm)(b:Bool)(m:Md)(g:Ev->R (U×Ev)):TE:=λσ H Q=>∃Z A ρ,dQ K G Z A ρ σ H/\JJ K G Z A b m ρ σ H (g ρ) Q
structure DE (X:Cx)(G:Gm)(e:aaj)(b:Bool)(m:Md)(g:Ev->R (U×Ev)):Prop where
 un:PE X e (tD X.K G b m g)
def JK (K:XX)(G:Gm)(Z:Pkg)(A:Ye->Prop)(b:Bool)(ρ:Ev)(σ:St)(H:Hp):R (Bool×Ev)->(Bool->Hp->Prop)->Prop
 | .ok (c,ρ'),Q=>∀H',dQ K G Z A ρ' σ H'->fQ A H H'->(b=false->ρ'=ρ/\aX H H')->Q c H'
 |_,_=>False
def EW (K:XX)(G:Gm)(b:Bool)(g:Ev->R (Bool×Ev)):TT:=λσ H Q=>∃Z A ρ,dQ K G Z A ρ σ H/\JK K G Z A b ρ σ H (g ρ) Q
structure DT (X:Cx)(G:Gm)(e:aaj)(b:Bool)(g:Ev->R (Bool×Ev)):Prop where
 un:PT X e (EW X.K G b g)
def Bn (K:XX)(H:Hp)(A:Ye->Prop):List U->List V->Prop
 | [],vs=>vs=[]
 |u::us,vs=>∃x r,vs=x::r/\Pk K H A u x/\Bn K H A us r
def JL (K:XX)(p:Bool)(A:Ye->Prop)(H:Hp)(us:List U)(vs:List V):Prop:=if p=true then Bn K H A us vs else aU K H A us vs
def JM (K:XX)(G:Gm)(Z:Pkg)(A:Ye->Prop)(b p:Bool)(ρ:Ev)(σ:St)(H:Hp):R (List U×Ev)->(List V->Hp->Prop)->Prop
 | .ok (us,ρ'),Q=>∀vs H',dQ K G Z A ρ' σ H'->fQ A H H'->(b=false->ρ'=ρ/\aX H H')->JL K p A H' us vs->Q vs H'
 |_,_=>False
def Ta (K:XX)(G:Gm)(b p:Bool)(g:Ev->R (List U×Ev)):TA:=λσ H Q=>∃Z A ρ,dQ K G Z A ρ σ H/\JM K G Z A b p ρ σ H (g ρ) Q
structure DA (X:Cx)(G:Gm)(es:List aaj)(b p:Bool)(g:Ev->R (List U×Ev)):Prop where
 un:PA X es (Ta X.K G b p g)
section
variable {e:aaj}{t t':TE}
theorem PE.to (h:PE X e t)(i:∀σ H Q,t' σ H Q->t σ H Q):PE X e t':=λpins s σ H Q I q=>h pins s σ H Q I (i _ _ _ q)
theorem PT.to {t t':TT}(h:PT X e t)(i:∀σ H Q,t' σ H Q->t σ H Q):PT X e t':=λpins s σ H Q I q=>h pins s σ H Q I (i _ _ _ q)
theorem PW.to {t t':TT}(h:PW X e t)(i:∀σ H Q,t' σ H Q->t σ H Q):PW X e t':=λpO pins s σ H Q I q=>h pO pins s σ H Q I (i _ _ _ q)
theorem PA.to {es:List aaj}{t t':TA}(h:PA X es t)(i:∀σ H Q,t' σ H Q->t σ H Q):PA X es t':=λpos pins s σ H Q I q=>h pos pins s σ H Q I (i _ _ _ q)
theorem PS.to {t t':TS}(h:PS X st t)(i:∀D σ H,t' D σ H->t D σ H):PS X st t':=λpins s σ H D I q=>h pins s σ H D I (i _ _ _ q)
theorem sU.to {st:List ab7}{t t':TS}(h:sU X st t)(i:∀D σ H,t' D σ H->t D σ H):sU X st t':=λpins s σ H D I q=>h pins s σ H D I (i _ _ _ q)
theorem PG.to {t t':TG}(h:PG X e t)(i:∀v σ H Q,t' v σ H Q->t v σ H Q):PG X e t':=λpins s σ H v u Q I r q=>h pins s σ H v u Q I r (i _ _ _ _ q)
end
section
variable {A':Ye->Prop}{ρ':Ev}{m:Md}
theorem vV.rp (h:vV K G Z m A ρ σ H u v)(n:m≠.P):Rp K H A u v:=by
 cases m with
 |S=>exact h
 |O=>
  obtain⟨a,rfl,na,_,_,t⟩:=h;exact t.rp (λb z=>.inl z) na
 |P=>lia
theorem vV.pk (h:vV K G Z m A ρ σ H u v):Pk K H A u v:=by
 by_cases c:m=.P
 ·subst c;exact h
 ·exact (h.rp c).pk
theorem FH.e (r:dQ K G Z A ρ σ H)(s:aX H H')(h:FH K m A H H' u v):vV K G Z m A ρ σ H' u v:=by
 cases m with
 |S=>exact h
 |P=>exact h
 |O=>
  obtain⟨a,rfl,n,t⟩:=h;exact⟨a,rfl,r.notA n,r.notB n,r.add s n t.mu,t⟩
def vV.later (r:dQ K G Z A ρ σ H)(h:vV K G Z m A ρ σ H u v)(x:fQ A H H')(s:b=false->ρ'=ρ/\aX H H')(c:m=.P->b=false):Pk K H' A u v:=by
 by_cases d:m=.P
 ·exact h.pk.same (s (c d)).2
 ·exact ((h.rp d).re r.mu x λb z=>.inl z).pk
def vV.laterS (r:dQ K G Z A ρ σ H)(h:vV K G Z m A ρ σ H u v)(x:fQ A H H')(d:m≠.P):Rp K H' A u v:=(h.rp d).re r.mu x λb z=>.inl z
theorem two {b1 b2:Bool}{ρ1 ρ2:Ev}(h1:b1=false->ρ1=ρ/\aX H H1)(h2:b2=false->ρ2=ρ1/\aX H1 H2):(b1||b2)=false->ρ2=ρ/\aX H H2:=λh=>by
 rw[ZZ] at h;obtain⟨a,b⟩:=h1 h.1;obtain⟨c,d⟩:=h2 h.2;exact⟨c.trans a,b.trans d⟩
def p7 {b1:Bool}{ρ1:Ev}(h1:b1=false->ρ1=ρ/\aX H H1)(h2:aX H1 H2):b1=false->ρ1=ρ/\aX H H2:=λh=>⟨(h1 h).1,(h1 h).2.trans h2⟩
end
noncomputable def af (i:Nat):Ev->R (U×Ev):=λρ=>match ρ[i]? with
 |some (some u)=>.ok (u,ρ)
 |_=>.stk
noncomputable def gC (u:U):Ev->R (U×Ev):=λρ=>.ok (u,ρ)
noncomputable abbrev zqc (n:Int):Ev->R (U×Ev):=gC (.int n)
section
variable {e a b:aaj}{es:List aaj}{pos:Pos}
theorem Qs {b:Bool}{m:Md}(h:PE X e (Jm i))(c:G.is i=false):DE X G e false .S (af i):=by
 refine⟨h.to λσ H Q ⟨Z,A,ρ,r,f⟩=>?_⟩;unfold af at f;split at f
 ·rename_i u hu;obtain⟨v,h1,h2⟩:=r.val c hu;exact⟨v,h1,f v H r fQ.refl (λ_=>⟨rfl,aX.refl _⟩) h2⟩
 ·exact f.elim
def ao (i:Nat)(hN:X.N[i]? = some x:=by rfl)(hv:DR X.env.scope x:=by first|exact Or.inl rfl|exact Or.inr (Or.inl rfl)|exact Or.inr (Or.inr rfl))(hd:(x==("__debug__":Str))=false:=by decide)
  (kI:(x==("__classdict__":Str))=false:=by decide) (c:G.is i=false:=by rfl):DE X G (.Name x pos) false .S (af i):=Qs (b:=false) (m:=.S) (i5 hN hv hd kI) c
theorem fV (i:Nat)(hN:X.N[i]? = some x:=by rfl)(hv:DR X.env.scope x:=by first|exact Or.inl rfl|exact Or.inr (Or.inl rfl)|exact Or.inr (Or.inr rfl))(hd:(x==("__debug__":Str))=false:=by decide)
  (kI:(x==("__classdict__":Str))=false:=by decide) (c:G.is i=true:=by rfl):DE X G (.Name x pos) false .P (af i):=by
 refine⟨(i5 hN hv hd kI).to λσ H Q ⟨Z,A,ρ,r,f⟩=>?_⟩;unfold af at f;split at f
 ·rename_i u hu;obtain⟨a,h1,_,_,_,h2⟩:=r.own c hu;exact⟨.ref a,h1,f _ H r fQ.refl (λ_=>⟨rfl,aX.refl _⟩) h2.pk⟩
 ·exact f.elim
def FI (h:PE X e (tC v))(r:∀K H A,Rp K H A u v):DE X G e false .S (gC u):=by
 refine⟨h.to λσ H Q ⟨Z,A,ρ,q,f⟩=>?_⟩;exact f v H q fQ.refl (λ_=>⟨rfl,aX.refl _⟩) (r _ _ _)
def ai {i j pos}:DE X G (.Constant (.int i) j pos) false .S (gC (.int i)):=FI A5 λ_ _ _=>by rfl
def qC {i j pos}:DE X G (.Constant (.bool i) j pos) false .S (gC (.bl i)):=FI yF λ_ _ _=>by rfl
def p8 {j pos}:DE X G (.Constant .none j pos) false .S (gC .non):=FI M_ λ_ _ _=>by rfl
def bj {i j pos}:DE X G (.Constant (.str i) j pos) false .S (gC (.str i)):=FI dG λ_ _ _=>by rfl
def yT {i:Int}{tk:Tok}(hg:Gl X x)(hm:X.mg x=some (.int i tk))(hd:(x==("__debug__":Str))=false:=by decide):DE X G (.Name x pos) false .S (gC (.int i)):=FI (v:=.int i) (Cb hg hm ⟨_,rfl⟩ hd) λ_ _ _=>by rfl
noncomputable def aI (p:U->U->R U)(g1 g2:Ev->R (U×Ev)):Ev->R (U×Ev):=λρ=>(g1 ρ).bind λx=>(g2 x.2).bind λy=>(p x.1 y.1).bind λz=>.ok (z,y.2)
def iH (K:XX)(r:R2)(m:Md)(p:U->U->R U):Prop:=∀A H x y u w z Q,Pk K H A u x->Pk K H A w y->(∀a,A a->Mu (H a))->p u w=.ok z->(∀v H',aX H H'->FH K m A H H' z v->Q v H')->r x y H Q
variable {b1 b2 b3:Bool}{m1 m2 m3 mr:Md}{g1 g2 g3:Ev->R (U×Ev)}
theorem sD (hp:iH X.K r mr p)(hm:m1=.P->b2=false){Q:VK}(h:tD X.K G (b1||b2) mr (aI p g1 g2) σ H Q) :
  P5 r (tD X.K G b1 m1 g1) (tD X.K G b2 m2 g2) σ H Q:=by
 obtain⟨Z,A,ρ,q,f⟩:=h;unfold aI at f;refine⟨Z,A,ρ,q,?_⟩;cases e1:g1 ρ with
 |stk=>rw[e1] at f;exact f.elim
 |exc=>rw[e1] at f;exact f.elim
 |ok x=>
  obtain⟨u,ρ1⟩:=x;rw[e1] at f;intro v1 H1 q1 x1 s1 wV;refine⟨Z,A,ρ1,q1,?_⟩;cases e2:g2 ρ1 with
  |stk=>simp only[R.bind,e2] at f;exact f.elim
  |exc=>simp only[R.bind,e2] at f;exact f.elim
  |ok y=>
   obtain⟨w,ρ2⟩:=y;simp only[R.bind,e2] at f;intro v2 H2 q2 x2 s2 yu;cases e3:p u w with
   |stk=>rw[e3] at f;exact f.elim
   |exc=>rw[e3] at f;exact f.elim
   |ok z=>
    rw[e3] at f;refine hp A H2 v1 v2 u w z Q (wV.later q1 x2 s2 hm) yu.pk q2.mu e3 λv H' sm vm=>?_;exact f v H' (q2.same sm) ((x1.trans x2).trans (fQ.same sm)) (p7 (two s1 s2) sm) (vm.e q2 sm)
def bH {op:Operator}(ho:l7 X (abi op) r)(hp:iH X.K r mr p)(ha:DE X G a b1 m1 g1)(hb:DE X G b b2 m2 g2)(hm:m1=.P->b2=false:=by first|exact λ_=>rfl|exact λh=>nomatch h) :
  DE X G (.BinOp a op b pos) (b1||b2) mr (aI p g1 g2):=⟨(Cc ho ha.un hb.un).to λ_ _ _=>sD hp hm⟩
def k8 (ho:l7 X (aaz op) r)(hp:iH X.K r mr p)(ha:DE X G a b1 m1 g1)(hb:DE X G b b2 m2 g2)(hk:abt op b=false)(hm:m1=.P->b2=false:=by first|exact λ_=>rfl|exact λh=>nomatch h) :
  DE X G (.Compare a [op] [b] pos) (b1||b2) mr (aI p g1 g2):=⟨(Ju ho ha.un hb.un hk).to λ_ _ _=>sD hp hm⟩
def aL (ho:Ja X r)(hp:iH X.K r mr p)(ha:DE X G a b1 m1 g1)(hb:DE X G b b2 m2 g2)(hs:Cg b)(hm:m1=.P->b2=false:=by first|exact λ_=>rfl|exact λh=>nomatch h) :
  DE X G (.Subscript a b pos) (b1||b2) mr (aI p g1 g2):=⟨(Fj ho ha.un hb.un hs).to λ_ _ _=>sD hp hm⟩
noncomputable def gB (g:Ev->R (U×Ev)):Ev->R (Bool×Ev):=λρ=>(g ρ).bind λx=>match x.1 with
 | .bl c=>.ok (c,x.2)
 |_=>.stk
theorem vW {g:Ev->R (U×Ev)}{m:Md}{Q:Bool->Hp->Prop}(h:EW X.K G b1 (gB g) σ H Q):tD X.K G b1 m g σ H λx H'=>∃k,x=.bl k/\Q k H':=by
 obtain⟨Z,A,ρ,q,f⟩:=h;refine⟨Z,A,ρ,q,?_⟩;unfold gB at f;cases e1:g ρ with
 |stk=>rw[e1] at f;exact f.elim
 |exc=>rw[e1] at f;exact f.elim
 |ok x=>
  obtain⟨u,ρ1⟩:=x;rw[e1] at f;intro v H1 q1 x1 s1 vm;cases u with
  |bl c=>
   have e:v=.bl c:=by have:=vm.pk;grind[Pk]
   exact⟨c,e,f H1 q1 x1 s1⟩
  |_=>exact f.elim
def jT (h:DE X G e b1 m1 g1)(he:∀pO,isTrue e X.env pO=(do let v ←pO;standAt e.pos;adk [v] (truthy v)):=by intro _;rfl):DT X G e b1 (gB g1):=⟨(A6 h.un he).to λ_ _ _ h=>vW h⟩
def aV (ho:l7 X (aaz op) r)(hp:iH X.K r mr p)(ha:DE X G a b1 m1 g1)(hb:DE X G b b2 m2 g2)(hk:abt op b=false)(hm:m1=.P->b2=false:=by first|exact λ_=>rfl|exact λh=>nomatch h) :
  DT X G (.Compare a [op] [b] pos) (b1||b2) (gB (aI p g1 g2)):=⟨(w6 ho ha.un hb.un hk).to λ_ _ _ h=>sD hp hm (vW (m:=mr) h)⟩
end
end L2
namespace L2
section
variable {A':Ye->Prop}{ρ':Ev}{p:Bool}{m:Md}{α:Type}
theorem JJ.bind {x:R α}{k:α->R (U×Ev)}{Q:VK}(f:JJ K G Z A b m ρ σ H (x.bind k) Q):∃a,x=.ok a/\JJ K G Z A b m ρ σ H (k a) Q:=by
 cases x with
 |ok a=>exact⟨a,rfl,f⟩
 |exc=>exact f.elim
 |stk=>exact f.elim
theorem JK.bind {x:R α}{k:α->R (Bool×Ev)}{Q:Bool->Hp->Prop}(f:JK K G Z A b ρ σ H (x.bind k) Q):∃a,x=.ok a/\JK K G Z A b ρ σ H (k a) Q:=by
 cases x with
 |ok a=>exact⟨a,rfl,f⟩
 |exc=>exact f.elim
 |stk=>exact f.elim
theorem JM.bind {x:R α}{k:α->R (List U×Ev)}{Q:List V->Hp->Prop}(f:JM K G Z A b p ρ σ H (x.bind k) Q):∃a,x=.ok a/\JM K G Z A b p ρ σ H (k a) Q:=by
 cases x with
 |ok a=>exact⟨a,rfl,f⟩
 |exc=>exact f.elim
 |stk=>exact f.elim
theorem Pk.bl {c:Bool}(h:Pk K H A (.bl c) v):v=.bl c:=by grind[Pk]
theorem Pk.int {i:Int}(h:Pk K H A (.int i) v):v=.int i:=by grind[Pk]
theorem Pk.str {i:Str}(h:Pk K H A (.str i) v):v=.str i:=by grind[Pk]
def iC {c:Bool}:Rp K H A (.bl c) (.bl c):=by rfl
def eR {c:Int}:Rp K H A (.int c) (.int c):=by rfl
def vV.ofS (h:Rp K H A u v):vV K G Z .S A ρ σ H u v:=h
def tH:Rp K H A .non .non:=by rfl
def Bo {c:Str}:Rp K H A (.str c) (.str c):=by rfl
theorem aU.pks:∀{us:List U} {vs:List V},aU K H A us vs->Bn K H A us vs
 | [],_,h=>by grind[aU,Bn]
 |u::us,_,h=>by
  unfold aU at h;unfold Bn;obtain⟨x,r,e,z,q⟩:=h;exact⟨x,r,e,z.pk,aU.pks q⟩
end
section
variable {e a b:aaj}{es rest:List aaj}{pos:Pos}{b1 b2 b3:Bool}{m1 m2 m3 mr:Md}{g1 g2 g3:Ev->R (U×Ev)}{h1 h2:Ev->R (Bool×Ev)}
noncomputable def JN (g1 g2:Ev->R (Bool×Ev)):Ev->R (Bool×Ev):=λρ=>(g1 ρ).bind λx=>if x.1=true then g2 x.2 else .ok (false,x.2)
noncomputable def JO (g1 g2:Ev->R (Bool×Ev)):Ev->R (Bool×Ev):=λρ=>(g1 ρ).bind λx=>if x.1=true then .ok (true,x.2) else g2 x.2
noncomputable def vv (g1:Ev->R (Bool×Ev)):Ev->R (Bool×Ev):=λρ=>(g1 ρ).bind λx=>.ok (!x.1,x.2)
structure DW (X:Cx)(G:Gm)(e:aaj)(b:Bool)(g:Ev->R (Bool×Ev)):Prop where
 un:PW X e (EW X.K G b g)
def DW.dt (h:DW X G e b1 h1):DT X G e b1 h1:=⟨PW.pt h.un⟩
theorem FJ {Q:Bool->Hp->Prop}(h:EW X.K G (b1||b2) (JN h1 h2) σ H Q):PQ (EW X.K G b1 h1) (EW X.K G b2 h2) σ H Q:=by
 obtain⟨Z,A,ρ,q,f⟩:=h;obtain⟨⟨k,ρ1⟩,e1,f⟩:=f.bind;refine⟨Z,A,ρ,q,?_⟩;rw[e1];intro H1 q1 x1 s1;cases k with
 |true=>
  rw[hZ rfl] at f ⊢;refine⟨Z,A,ρ1,q1,?_⟩;dsimp only at f;cases e2:h2 ρ1 with
  |ok y=>rw[e2] at f;exact λH2 q2 x2 s2=>f H2 q2 (x1.trans x2) (two s1 s2)
  |exc=>rw[e2] at f;exact f.elim
  |stk=>rw[e2] at f;exact f.elim
 |false=>
  rw[hV XR] at f ⊢;exact f H1 q1 x1 λz=>s1 (ZZ.mp z).1
theorem JP {Q:Bool->Hp->Prop}(h:EW X.K G (b1||b2) (JO h1 h2) σ H Q):UM (EW X.K G b1 h1) (EW X.K G b2 h2) σ H Q:=by
 obtain⟨Z,A,ρ,q,f⟩:=h;obtain⟨⟨k,ρ1⟩,e1,f⟩:=f.bind;refine⟨Z,A,ρ,q,?_⟩;rw[e1];intro H1 q1 x1 s1;cases k with
 |false=>
  rw[hV XR] at f ⊢;refine⟨Z,A,ρ1,q1,?_⟩;dsimp only at f;cases e2:h2 ρ1 with
  |ok y=>rw[e2] at f;exact λH2 q2 x2 s2=>f H2 q2 (x1.trans x2) (two s1 s2)
  |exc=>rw[e2] at f;exact f.elim
  |stk=>rw[e2] at f;exact f.elim
 |true=>
  rw[hZ rfl] at f ⊢;exact f H1 q1 x1 λz=>s1 (ZZ.mp z).1
def JQ (ha:DT X G a b1 h1):DW X G (.BoolOp .And [a] pos) b1 h1:=⟨Jn ha.un⟩
def tJ (ha:DT X G a b1 h1):DW X G (.BoolOp .Or [a] pos) b1 h1:=⟨Na ha.un⟩
def NI (ha:DT X G a b1 h1)(hb:DW X G (.BoolOp .And (b::rest) pos) b2 h2):DW X G (.BoolOp .And (a::b::rest) pos) (b1||b2) (JN h1 h2):=⟨(Nb ha.un hb.un).to λ_ _ _=>FJ⟩
def yU (ha:DT X G a b1 h1)(hb:DW X G (.BoolOp .Or (b::rest) pos) b2 h2):DW X G (.BoolOp .Or (a::b::rest) pos) (b1||b2) (JO h1 h2):=⟨(PR ha.un hb.un).to λ_ _ _=>JP⟩
theorem tK (ha:DT X G a b1 h1):DT X G (.UnaryOp .Not a pos) b1 (vv h1):=⟨(A7 ha.un).to λσ H Q h=>by
 obtain⟨Z,A,ρ,q,f⟩:=h;obtain⟨⟨k,ρ1⟩,e1,f⟩:=f.bind;refine⟨Z,A,ρ,q,?_⟩;rw[e1];exact λH1 q1 x1 s1=>f H1 q1 x1 s1⟩
noncomputable def NJ (g1 g2:Ev->R (U×Ev)):Ev->R (U×Ev):=λρ=>(gB g1 ρ).bind λx=>if x.1=true then g2 x.2 else .ok (.bl false,x.2)
noncomputable def Tb (g1 g2:Ev->R (U×Ev)):Ev->R (U×Ev):=λρ=>(gB g1 ρ).bind λx=>if x.1=true then .ok (.bl true,x.2) else g2 x.2
noncomputable def Tc (g1:Ev->R (U×Ev)):Ev->R (U×Ev):=λρ=>(gB g1 ρ).bind λx=>.ok (.bl (!x.1),x.2)
theorem Lw {g:Ev->R (U×Ev)}{ρ1:Ev}{k:Bool}(h:gB g ρ=.ok (k,ρ1)):g ρ=.ok (.bl k,ρ1):=by
 unfold gB at h;cases e:g ρ with
 |ok y=>
  obtain⟨u,ρ2⟩:=y;rw[e] at h;cases u<;>simp[R.bind] at h;lia
 |exc=>grind[R.bind]
 |stk=>grind[R.bind]
theorem NK (hn:m2≠.P:=by decide)(ha:DE X G a b1 m1 g1)(hb:DE X G (.BoolOp .And (b::rest) pos) b2 m2 g2):DE X G (.BoolOp .And (a::b::rest) pos) (b1||b2) .S (NJ g1 g2):=⟨(Nf ha.un hb.un).to λσ H Q h=>by
 obtain⟨Z,A,ρ,q,f⟩:=h;obtain⟨⟨k,ρ1⟩,e1,f⟩:=f.bind;refine⟨Z,A,ρ,q,?_⟩;rw[Lw e1];intro v H1 q1 x1 s1 vm;refine⟨k,vm.pk.bl,?_⟩;cases k with
 |true=>
  rw[hZ rfl] at f ⊢;refine⟨Z,A,ρ1,q1,?_⟩;dsimp only at f;cases e2:g2 ρ1 with
  |ok y=>rw[e2] at f;exact λv2 H2 q2 x2 s2 yu=>f v2 H2 q2 (x1.trans x2) (two s1 s2) (yu.rp hn)
  |exc=>rw[e2] at f;exact f.elim
  |stk=>rw[e2] at f;exact f.elim
 |false=>
  rw[hV XR] at f ⊢;exact f _ H1 q1 x1 (λz=>s1 (ZZ.mp z).1) (vV.ofS iC)⟩
theorem Qt (hn:m2≠.P:=by decide)(ha:DE X G a b1 m1 g1)(hb:DE X G (.BoolOp .Or (b::rest) pos) b2 m2 g2):DE X G (.BoolOp .Or (a::b::rest) pos) (b1||b2) .S (Tb g1 g2):=⟨(PV ha.un hb.un).to λσ H Q h=>by
 obtain⟨Z,A,ρ,q,f⟩:=h;obtain⟨⟨k,ρ1⟩,e1,f⟩:=f.bind;refine⟨Z,A,ρ,q,?_⟩;rw[Lw e1];intro v H1 q1 x1 s1 vm;refine⟨k,vm.pk.bl,?_⟩;cases k with
 |false=>
  rw[hV XR] at f ⊢;refine⟨Z,A,ρ1,q1,?_⟩;dsimp only at f;cases e2:g2 ρ1 with
  |ok y=>rw[e2] at f;exact λv2 H2 q2 x2 s2 yu=>f v2 H2 q2 (x1.trans x2) (two s1 s2) (yu.rp hn)
  |exc=>rw[e2] at f;exact f.elim
  |stk=>rw[e2] at f;exact f.elim
 |true=>
  rw[hZ rfl] at f ⊢;exact f _ H1 q1 x1 (λz=>s1 (ZZ.mp z).1) (vV.ofS iC)⟩
def FK {op}(ha:DE X G a b1 m1 g1):DE X G (.BoolOp op [a] pos) b1 m1 g1:=⟨Nc ha.un⟩
noncomputable def NL (h:Ev->R (Bool×Ev))(g1 g2:Ev->R (U×Ev)):Ev->R (U×Ev):=λρ=>(h ρ).bind λx=>if x.1=true then g1 x.2 else g2 x.2
theorem k9 (Um:m1≠.P:=by decide)(MT:m2≠.P:=by decide)(hc:DT X G c b1 h1)(ha:DE X G a b2 m1 g1)(hb:DE X G b b3 m2 g2):DE X G (.IfExp c a b pos) (b1||(b2||b3)) .S (NL h1 g1 g2):=⟨(E3 hc.un ha.un hb.un).to λσ H Q h=>by
 obtain⟨Z,A,ρ,q,f⟩:=h;obtain⟨⟨k,ρ1⟩,e1,f⟩:=f.bind;refine⟨Z,A,ρ,q,?_⟩;rw[e1];intro H1 q1 x1 s1;cases k with
 |true=>
  rw[hZ rfl] at f ⊢;refine⟨Z,A,ρ1,q1,?_⟩;dsimp only at f;cases e2:g1 ρ1 with
  |ok y=>rw[e2] at f;exact λv2 H2 q2 x2 s2 yu=>f v2 H2 q2 (x1.trans x2) (two s1 λz=>s2 (ZZ.mp z).1) (yu.rp Um)
  |exc=>rw[e2] at f;exact f.elim
  |stk=>rw[e2] at f;exact f.elim
 |false=>
  rw[hV XR] at f ⊢;refine⟨Z,A,ρ1,q1,?_⟩;dsimp only at f;cases e2:g2 ρ1 with
  |ok y=>rw[e2] at f;exact λv2 H2 q2 x2 s2 yu=>f v2 H2 q2 (x1.trans x2) (two s1 λz=>s2 (ZZ.mp z).2) (yu.rp MT)
  |exc=>rw[e2] at f;exact f.elim
  |stk=>rw[e2] at f;exact f.elim⟩
noncomputable def NM (p p':U->U->R U)(g1 g2 g3:Ev->R (U×Ev)):Ev->R (U×Ev):=λρ=>(g1 ρ).bind λx=>(g2 x.2).bind λy=>(p x.1 y.1).bind λz=>match z with
 | .bl k=>if k=true then (g3 y.2).bind λw=>(p' y.1 w.1).bind λz'=>.ok (z',w.2) else .ok (.bl false,y.2)
 |_=>.stk
noncomputable def VR (p:U->R U)(g:Ev->R (U×Ev)):Ev->R (U×Ev):=λρ=>(g ρ).bind λx=>(p x.1).bind λz=>.ok (z,x.2)
noncomputable def ak:Ev->R (List U×Ev):=λρ=>.ok ([],ρ)
noncomputable def ae (g:Ev->R (U×Ev))(ga:Ev->R (List U×Ev)):Ev->R (List U×Ev):=λρ=>(g ρ).bind λx=>(ga x.2).bind λy=>.ok (x.1::y.1,y.2)
variable {ga:Ev->R (List U×Ev)}{p:Bool}
theorem ah:DA X G [] false p ak:=⟨cM.to λσ H Q ⟨Z,A,ρ,q,f⟩=>f [] H q fQ.refl (λ_=>⟨rfl,aX.refl _⟩) (by unfold JL;split;exact rfl;rfl)⟩
theorem aa (ha:DE X G e b1 m1 g1)(hr:DA X G es b2 p ga)(hm:m1=.P->(p=true/\b2=false):=by first|exact λ_=>⟨rfl,rfl⟩|exact λh=>nomatch h)
  (hs:X7 (e::es) X.env=(false,abh e X.env)::X7 es X.env:=by rfl):DA X G (e::es) (b1||b2) p (ae g1 ga):=⟨(aG ha.un hr.un hs).to λσ H Q h=>by
 obtain⟨Z,A,ρ,q,f⟩:=h;obtain⟨⟨u,ρ1⟩,e1,f⟩:=f.bind;obtain⟨⟨us,ρ2⟩,e2,f⟩:=f.bind;refine⟨Z,A,ρ,q,?_⟩;rw[e1];intro v1 H1 q1 x1 s1 wV;refine⟨Z,A,ρ1,q1,?_⟩;dsimp only at e2;rw[e2];intro vs H2 q2 x2 s2 yu;refine f (v1::vs) H2 q2 (x1.trans x2) (two s1 s2) ?_;unfold JL at yu ⊢;cases p with
 |true=>
  rw[hZ rfl] at yu ⊢;exact⟨v1,vs,rfl,wV.later q1 x2 s2 (λz=>(hm z).2),yu⟩
 |false=>
  rw[hV XR] at yu ⊢;exact aU.cons (wV.laterS q1 x2 λz=>XR (hm z).1) yu⟩
theorem JL.pks (h:JL K p A H us vs):Bn K H A us vs:=by
 unfold JL at h;cases p with
 |true=>lia
 |false=>rw[hV XR] at h;exact h.pks
theorem JL.rps (h:JL K false A H us vs):aU K H A us vs:=by
 simp_all[JL,hV,XR]
noncomputable def bu (ga:Ev->R (List U×Ev)):Ev->R (U×Ev):=λρ=>(ga ρ).bind λx=>if x.1.length<=XU then .ok (.tup x.1,x.2) else .stk
noncomputable def eW (ga:Ev->R (List U×Ev)):Ev->R (U×Ev):=λρ=>(ga ρ).bind λx=>if x.1.length<=XU then .ok (.lst x.1,x.2) else .stk
def dI {p:Ye}(h:H p=none)(o:HO):aX H (dF H p o):=λb u q=>by rw[aS (bG q h)];exact q
def p9 {a:Ye}(h:aU K H A us vs)(n:H a=none)(l:us.length<=XU):Rp K (dF H a (.tup vs)) A (.tup us) (.ref a):=by
 unfold Rp;exact⟨a,vs,rfl,aQ,l,h.same (dI n _)⟩
theorem c9 {a:Ye}(m:∀b,A b->Mu (H b))(h:aU K H A us vs)(n:H a=none)(l:us.length<=XU):mJ K (dF H a (.lst vs)) (λb=>A b\/b=a) (.lst us) a:=
 ⟨vs,aQ,l,h.re m (fQ.same (dI n _)) λb z=>by
  lia⟩
theorem bC {x1}(h:DA X G es b1 false ga):DE X G (.Tuple es x1 pos) b1 .S (bu ga):=⟨(Fc h.un).to λσ H Q h=>by
 obtain⟨Z,A,ρ,q,f⟩:=h;obtain⟨⟨us,ρ1⟩,e1,f⟩:=f.bind;refine⟨Z,A,ρ,q,?_⟩;rw[e1];intro vs H1 q1 x1 s1 wV;dsimp only at f;split at f
 ·rename_i l;refine⟨by rw[←wV.rps.length];exact l,λa n=>?_⟩;exact f _ _ (q1.same (dI n _)) (x1.trans (fQ.same (dI n _))) (p7 s1 (dI n _)) (vV.ofS (p9 wV.rps n l))
 ·exact f.elim⟩
theorem gz (h:DA X G es b1 false ga):DE X G (.List es pos) b1 .O (eW ga):=⟨(nq h.un).to λσ H Q h=>by
 obtain⟨Z,A,ρ,q,f⟩:=h;obtain⟨⟨us,ρ1⟩,e1,f⟩:=f.bind;refine⟨Z,A,ρ,q,?_⟩;rw[e1];intro vs H1 q1 x1 s1 wV;dsimp only at f;split at f
 ·rename_i l;refine⟨by rw[←wV.rps.length];exact l,λa n=>?_⟩;exact f _ _ (q1.same (dI n _)) (x1.trans (fQ.same (dI n _))) (p7 s1 (dI n _)) (FH.e q1 (dI n _) ⟨a,rfl,n,c9 q1.mu wV.rps n l⟩)
 ·exact f.elim⟩
noncomputable def fg (p:List U->R U)(ga:Ev->R (List U×Ev)):Ev->R (U×Ev):=λρ=>(ga ρ).bind λx=>(p x.1).bind λz=>.ok (z,x.2)
def oy (K:XX)(r:List V->Hp->VK->Prop)(m:Md)(p:List U->R U):Prop:=∀A H vs us z Q,Bn K H A us vs->(∀a,A a->Mu (H a))->p us=.ok z->(∀v H',aX H H'->FH K m A H H' z v->Q v H')->r vs H Q
theorem xf {r:List V->Hp->VK->Prop}{f:List U->R U}(hp:oy X.K r mr f){Q:VK}(h:tD X.K G b1 mr (fg f ga) σ H Q):S6 r (Ta X.K G b1 p ga) σ H Q:=by
 obtain⟨Z,A,ρ,q,f⟩:=h;obtain⟨⟨us,ρ1⟩,e1,f⟩:=f.bind;obtain⟨z,e2,f⟩:=f.bind;refine⟨Z,A,ρ,q,?_⟩;rw[e1];intro vs H1 q1 x1 s1 wV;exact hp A H1 vs us z Q wV.pks q1.mu e2 λv H' sm vm=>f v H' (q1.same sm) (x1.trans (fQ.same sm)) (p7 s1 sm) (vm.e q1 sm)
def bD {id:String}{p1:Pos}{r:List V->Hp->VK->Prop}{f:List U->R U}(hc:eO X (.builtin id) r)(hp:oy X.K r mr f)(hg:Gl X x)(hm:X.mg x=none)(hv:YQ x=some (.builtin id))(ha:DA X G (e::es) b1 true ga)(hn:x≠"__name__":=by decide)(yr:(x==("__debug__":Str))=false:=by decide)
  (he:X7 (e::es) X.env=(false,abh e X.env)::X7 es X.env:=by rfl) (jZ:(aan pos (X7 es X.env)).any (·.1)=false:=by rfl):DE X G (.Call (.Name x p1) (e::es) [] pos) b1 mr (fg f ga):=⟨(j5 hc hg hm hv ha.un hn yr he jZ).to λ_ _ _=>xf hp⟩
def cg {T:String}{p1:Pos}{r:List V->Hp->VK->Prop}{f:List U->R U}(hc:eO X (.type T) r)(hp:oy X.K r mr f)(hg:Gl X x)(hm:X.mg x=none)(hv:YQ x=some (.type T))(ha:DA X G (e::es) b1 true ga)(hn:x≠"__name__":=by decide)(yr:(x==("__debug__":Str))=false:=by decide)
  (he:X7 (e::es) X.env=(false,abh e X.env)::X7 es X.env:=by rfl) (jZ:(aan pos (X7 es X.env)).any (·.1)=false:=by rfl):DE X G (.Call (.Name x p1) (e::es) [] pos) b1 mr (fg f ga):=⟨(iV hc hg hm hv ha.un hn yr he jZ).to λ_ _ _=>xf hp⟩
end
end L2
namespace L2
section
variable {A':Ye->Prop}{ρ':Ev}{p:Bool}{m:Md}{α:Type}
theorem mJ.mono (n:∀b,A' b->A b)(h:mJ K H A u a):mJ K H A' u a:=by
 cases u<;>(unfold mJ at h ⊢)
 case lst us=>obtain⟨xs,q,l,z⟩:=h;exact⟨xs,q,l,z.mono n⟩
 case dct ks us=>obtain⟨xs,q,l,z⟩:=h;exact⟨xs,q,l,z.mono n⟩
 all_goals exact h.elim
theorem eM {α:Type}{l:List (Option α)}{x:Option α}{y:α}(h:(l.set i x)[j]? = some (some y)):(i=j/\x=some y)\/(i≠j/\l[j]? = some (some y)):=by
 grind
theorem sE {α:Type}{l l':List (Option α)}{x:α}{β:Type}{k:List (Option β)}{y:Option β}{z:β}(hl:k.length=l.length)(h:(k.set i y)[i]? = some (some z)):(l.set i (some x))[i]? = some (some x):=by
 grind
theorem dQ.set (r:dQ K G Z A ρ σ H)(c:G.is i=false)(h:Rp K H A u v):dQ K G Z A (ρ.set i (some u)) (σ.set i (some v)) H where
 slot:=λj w hj=>by
  rcases eM hj with⟨rfl,e⟩|⟨ne,e⟩
  ·cases e;refine⟨v,sE (l':=σ) r.len hj,?_⟩;rw[hV (by rw[c];exact XR)];exact h
  ·rw[YI ne];exact r.slot j w e
 dis:=λj k w w' a cj ck ne hj hk sj sk=>by
  rcases eM hj with⟨rfl,_⟩|⟨n1,e1⟩
  ·lia
  ·rcases eM hk with⟨rfl,_⟩|⟨n2,e2⟩
   ·lia
   ·rw[YI n1] at sj;rw[YI n2] at sk;exact r.dis j k w w' a cj ck ne e1 e2 sj sk
 mu:=r.mu
 sup:=r.sup
 out:=r.out
 bas:=r.bas
 io0:=λh0=>by
  obtain⟨a,b⟩:=r.io0 h0;grind
 len:=by rw[Zw,Zw];exact r.len
theorem dQ.drop (r:dQ K G Z A ρ σ H)(i:Nat):dQ K G Z A (ρ.set i none) σ H where
 slot:=λj w hj=>by
  rcases eM hj with⟨rfl,e⟩|⟨ne,e⟩
  ·cases e
  ·exact r.slot j w e
 dis:=λj k w w' a cj ck ne hj hk sj sk=>by
  rcases eM hj with⟨rfl,e⟩|⟨n1,e1⟩
  ·cases e
  ·rcases eM hk with⟨rfl,e⟩|⟨n2,e2⟩
   ·cases e
   ·exact r.dis j k w w' a cj ck ne e1 e2 sj sk
 mu:=r.mu
 sup:=r.sup
 out:=r.out
 bas:=r.bas
 io0:=r.io0
 len:=by rw[Zw];exact r.len
theorem dQ.setO (r:dQ K G Z A ρ σ H)(c:G.is i=true)(hi:G.io=true->i≠0)(na:¬A a)(nb:Z.B a=none)(r':dQ K G Z (λb=>A b\/b=a) ρ σ H)(h:mJ K H (λb=>A b\/b=a) u a) :
  dQ K G Z (λb=>A b\/b=a) (ρ.set i (some u)) (σ.set i (some (.ref a))) H where
 slot:=λj w hj=>by
  rcases eM hj with⟨rfl,e⟩|⟨ne,e⟩
  ·cases e;refine⟨.ref a,sE (l':=σ) r.len hj,?_⟩;rw[hZ c];exact⟨a,rfl,.inr rfl,nb,.inl λz=>na (r.sup a z),h⟩
  ·rw[YI ne];exact r'.slot j w e
 dis:=λj k w w' b cj ck ne hj hk sj sk=>by
  have key:∀k w',G.is k=true->i≠k->ρ[k]? = some (some w')->σ[k]? ≠ some (some (.ref a)):=λk w' ck _ e q=>by
   obtain⟨b,h1,h2,_⟩:=r.own ck e;lia
  rcases eM hj with⟨rfl,e1⟩|⟨n1,e1⟩
  ·grind
  ·rcases eM hk with⟨rfl,e2⟩|⟨n2,e2⟩
   ·grind
   ·rw[YI n1] at sj;rw[YI n2] at sk;exact r.dis j k w w' b cj ck ne e1 e2 sj sk
 mu:=r'.mu
 sup:=r'.sup
 out:=r'.out
 bas:=r'.bas
 io0:=λh0=>by
  obtain⟨a,b⟩:=r.io0 h0;grind
 len:=by rw[Zw,Zw];exact r.len
theorem dQ.free (r:dQ K G Z A ρ σ H)(c:G.is i=true)(hi:G.io=true->i≠0)(h:ρ[i]? = some (some u)):∃a A',σ[i]? = some (some (.ref a))/\dQ K G Z A' (ρ.set i none) σ H/\Rp K H A' u (.ref a):=by
 obtain⟨a,h1,h2,h3,h4,h5⟩:=r.own c h;have na:¬Z.A0 a:=by
  lia
 have sub:∀b,(A b/\b≠a)->A b:=λb z=>z.1;refine⟨a,λb=>A b/\b≠a,h1,?_,h5.rp sub λz=>z.2 rfl⟩;exact {
  slot:=λj w hj=>by
   rcases eM hj with⟨rfl,e⟩|⟨ne,e⟩
   ·cases e
   ·obtain⟨v,s1,s2⟩:=r.slot j w e;refine⟨v,s1,?_⟩;by_cases cj:G.is j=true
    ·rw[hZ cj] at s2 ⊢;obtain⟨b,e1,e2,e3,e4,e5⟩:=s2;refine⟨b,e1,⟨e2,λz=>?_⟩,e3,e4,e5.mono sub⟩;subst z e1;exact r.dis i j u w b c cj ne h e h1 s1
    ·rw[hV cj] at s2 ⊢;exact s2.mono sub
  dis:=(r.drop i).dis
  mu:=λb z=>r.mu b z.1
  sup:=λb z=>⟨r.sup b z,λe=>na (e▸z)⟩
  out:=λb z=>r.out b z.1
  bas:=r.bas
  io0:=r.io0
  len:=by rw[Zw];exact r.len}
theorem dQ.put (r:dQ K G Z A ρ σ H){w:U}(c:G.is i=true)(h:ρ[i]? = some (some u))(ha:σ[i]? = some (some (.ref a)))(e:∀b o,b≠a->H b=some o->H' b=some o)(t:mJ K H' A w a) :
  dQ K G Z A (ρ.set i (some w)) σ H':=by
 obtain⟨a',h1,h2,h3,h4,h5⟩:=r.own c h;rw[ha] at h1;cases h1;have x:fQ A H H':=λb o nb z=>e b o (λq=>nb (q▸h2)) z;exact {
  slot:=λj y hj=>by
   rcases eM hj with⟨rfl,q⟩|⟨ne,q⟩
   ·cases q;refine⟨.ref a,ha,?_⟩;rw[hZ c];exact⟨a,rfl,h2,h3,h4,t⟩
   ·obtain⟨v,s1,s2⟩:=r.slot j y q;refine⟨v,s1,?_⟩;by_cases cj:G.is j=true
    ·rw[hZ cj] at s2 ⊢;obtain⟨b,e1,e2,e3,e4,e5⟩:=s2;refine⟨b,e1,e2,e3,e4,e5.re r.mu x (λb z=>.inl z) λo z=>e b o (λq'=>?_) z⟩;subst q' e1;exact r.dis i j u y b c cj ne h q ha s1
    ·rw[hV cj] at s2 ⊢;exact s2.re r.mu x λb z=>.inl z
  dis:=λj k y y' b cj ck ne hj hk sj sk=>by
   have f:∀j y,(ρ.set i (some w))[j]? = some (some y)->∃y',ρ[j]? = some (some y'):=λj y hj=>by
    rcases eM hj with⟨rfl,q⟩|⟨ne,q⟩
    ·exact⟨u,h⟩
    grind
   obtain⟨y1,hj⟩:=f j y hj;obtain⟨y2,hk⟩:=f k y' hk;exact r.dis j k y1 y2 b cj ck ne hj hk sj sk
  mu:=λb z=>by
   by_cases q:b=a
   ·subst q;exact t.mu
   ·have m:=r.mu b z;obtain⟨o,z⟩:=m.ex;grind
  sup:=r.sup
  out:=r.out
  bas:=λb o z=>e b o (λq=>by lia) (r.bas b o z)
  io0:=r.io0
  len:=by rw[Zw];exact r.len}
end
def JR (K:XX)(m:Md)(A:Ye->Prop)(H:Hp):R U->VK->Prop
 | .ok u,Q=>∀v H',aX H H'->FH K m A H H' u v->Q v H'
 |_,_=>False
noncomputable def yE {α:Type}(n:Nat)(g:List U->R α)(us:List U):R α:=if us.length=n then g us else .stk
def jG (K:XX)(n:Nat)(f:List U->R U)(m:Md):Sp:=λvs H Q _=>∃us A,aU K H A us vs/\(∀a,A a->Mu (H a))/\JR K m A H (yE n f us) Q
def k_ (K:XX)(n:Nat)(f:List U->R (U×U)):Sp:=λvs H Q _=>∃u0 us a0 vs' A,vs=.ref a0::vs'/\A a0/\mJ K H A u0 a0/\aU K H A us vs'/\(∀a,A a->Mu (H a))/\match yE n f (u0::us) with
 | .ok (u,w)=>∀v H',(∀b o,b≠a0->H b=some o->H' b=some o)->mJ K H' A w a0->Rp K H' A u v->Q v H'
 |_=>False
section
variable {e a b:aaj}{es rest:List aaj}{pos p1:Pos}{b1 b2 b3:Bool}{m1 m2 m3 mr:Md}{g1 g2 g3:Ev->R (U×Ev)}{h1 h2:Ev->R (Bool×Ev)}{ga:Ev->R (List U×Ev)}
noncomputable def fR (n:Nat)(f:List U->R U)(ga:Ev->R (List U×Ev)):Ev->R (U×Ev):=λρ=>(ga ρ).bind λx=>(yE n f x.1).bind λz=>.ok (z,x.2)
theorem aY {f:List U->R U}(F:Fn X.prog X.w X.K X.mg X.base x k ps (jG X.K n f mr))(hr:eV k X.A)(ha:DA X G (e::es) b1 false ga)(hg:Gl X x:=by rfl)(yr:(x==("__debug__":Str))=false:=by decide)(he:X7 (e::es) X.env=(false,abh e X.env)::X7 es X.env:=by rfl)(jZ:(aan pos (X7 es X.env)).any (·.1)=false:=by rfl):DE X G (.Call (.Name x p1) (e::es) [] pos) b1 mr (fR n f ga):=⟨(yR F hr ha.un hg yr he jZ).to λσ H Q h=>by
 obtain⟨Z,A,ρ,q,f⟩:=h;obtain⟨⟨us,ρ1⟩,e1,f⟩:=f.bind;obtain⟨z,e2,f⟩:=f.bind;refine⟨Z,A,ρ,q,?_⟩;rw[e1];intro vs H1 q1 x1 s1 wV;show jG _ _ _ _ _ _ _ _;rw[Yu];refine⟨us,A,wV.rps,q1.mu,?_⟩;dsimp only at e2;rw[e2];exact λv H' sm vm=>f v H' (q1.same sm) (x1.trans (fQ.same sm)) (p7 s1 sm) (vm.e q1 sm)⟩
noncomputable def live (ρ:Ev)(i:Nat):Bool:=match ρ[i]? with
 |some (some _)=>true
 |_=>false
theorem xg (h:live ρ i=true):∃u,ρ[i]? = some (some u):=by
 grind[live]
noncomputable def dw (n i:Nat)(f:List U->R (U×U))(ga:Ev->R (List U×Ev)):Ev->R (U×Ev):=λρ=>if live ρ i=true then (ga ρ).bind λx=>match x.2[i]? with
 |some (some u0)=>(yE n f (u0::x.1)).bind λz=>.ok (z.1,x.2.set i (some z.2))
 |_=>.stk
 else .stk
theorem az {y:Str}{f:List U->R (U×U)}(F:Fn X.prog X.w X.K X.mg X.base x k ps (k_ X.K n f))(hr:eV k X.A)(ha:DA X G es b1 false ga)(hN:X.N[i]? = some y:=by rfl)(hv:DR X.env.scope y:=by first|exact Or.inl rfl|exact Or.inr (Or.inl rfl)|exact Or.inr (Or.inr rfl))(c:G.is i=true:=by rfl)(hd:(y==("__debug__":Str))=false:=by decide)(kI:(y==("__classdict__":Str))=false:=by decide)(hs:X7 (.Name y p2::es) X.env=(false,abh (.Name y p2) X.env)::X7 es X.env:=by rfl)(hg:Gl X x:=by rfl)(yr:(x==("__debug__":Str))=false:=by decide)(jZ:(aan pos (X7 es X.env)).any (·.1)=false:=by rfl):DE X G (.Call (.Name x p1) (.Name y p2::es) [] pos) true .S (dw n i f ga):=⟨(yR F hr (aG (i5 hN hv hd kI) ha.un hs) hg yr hs jZ).to λσ H Q h=>by
 obtain⟨Z,A,ρ,q,f⟩:=h;unfold dw at f;split at f
 ·rename_i hl;obtain⟨u00,hu0⟩:=xg hl;obtain⟨a0,h0,_⟩:=q.own c hu0;obtain⟨⟨us,ρ1⟩,e1,f⟩:=f.bind;dsimp only at f;split at f
  ·rename_i u0 hu;obtain⟨⟨z,w⟩,e2,f⟩:=f.bind;refine⟨.ref a0,h0,Z,A,ρ,q,?_⟩;rw[e1];intro vs H1 q1 x1 s1 wV;obtain⟨a0',k1,k2,_,_,k3⟩:=q1.own c hu;rw[h0] at k1;cases k1;show k_ _ _ _ _ _ _ _;rw[Yu];refine⟨u0,us,a0,vs,A,rfl,k2,k3,wV.rps,q1.mu,?_⟩;rw[e2];intro v H' em tp rp;exact f v H' (q1.put c hu h0 em tp) (x1.trans λb o nb z=>em b o (λy=>nb (y▸k2)) z) (λz=>nomatch z) rp
  ·exact f.elim
 ·exact f.elim⟩
def FN (K:XX)(T:String)(r:V->List V->Hp->VK->Prop)(p:U->List U->R (U×U)):Prop:=∀A H a u vs us z w Q,mJ K H A u a->A a->aU K H A us vs->(∀a,A a->Mu (H a))->p u us=.ok (z,w)->
 (∀v H',(∀b o,b≠a->H b=some o->H' b=some o)->mJ K H' A w a->Rp K H' A z v->Q v H')->r (.ref a) vs H Q
noncomputable def Ea:U->String->Bool
 | .lst _,T=>T=="list"
 |_,_=>false
theorem NO {a:Ye}{T:String}(h:mJ K H A u a)(t:Ea u T=true):S7 K T (.ref a) H:=by
 cases u<;>(unfold Ea at t;unfold mJ at h)
 case lst us=>
  obtain⟨xs,q,_⟩:=h;exact .inl ⟨by lia,xs,.inl (.inl q)⟩
 all_goals cases t
noncomputable def gM (T:String)(i:Nat)(p:U->List U->R (U×U))(ga:Ev->R (List U×Ev)):Ev->R (U×Ev):=λρ=>match ρ[i]? with
 |some (some u1)=>if Ea u1 T=true then (ga ρ).bind λx=>match x.2[i]? with
  |some (some u0)=>(p u0 x.1).bind λz=>.ok (z.1,x.2.set i (some z.2))
  |_=>.stk
  else .stk
 |_=>.stk
theorem FO {T:String}{r:V->List V->Hp->VK->Prop}{p:U->List U->R (U×U)}(hp:FN X.K T r p)(c:G.is i=true){Q:VK}(h:tD X.K G true .S (gM T i p ga) σ H Q) :
  UR X.K T r (Jm i) (Ta X.K G b1 false ga) σ H Q:=by
 obtain⟨Z,A,ρ,q,f⟩:=h;unfold gM at f;split at f
 ·rename_i u1 kn;split at f
  ·rename_i ht;obtain⟨a0,h0,_,_,_,t0⟩:=q.own c kn;obtain⟨⟨us,ρ1⟩,e1,f⟩:=f.bind;dsimp only at f;split at f
   ·rename_i u0 hu;obtain⟨⟨z,w⟩,e2,f⟩:=f.bind;refine⟨.ref a0,h0,NO t0 ht,Z,A,ρ,q,?_⟩;rw[e1];intro vs H1 q1 x1 s1 wV;obtain⟨a0',k1,k2,_,_,k3⟩:=q1.own c hu;rw[h0] at k1;cases k1;exact hp A H1 a0 u0 vs us z w Q k3 k2 wV.rps q1.mu e2 λv H' em tp rp=>f v H' (q1.put c hu h0 em tp) (x1.trans λb o nb z=>em b o (λy=>nb (y▸k2)) z) (λz=>nomatch z) rp
   ·exact f.elim
  ·exact f.elim
 ·exact f.elim
def nu {T id:String}{y name:Str}{AN:Pos}{r:V->List V->Hp->VK->Prop}{p:U->List U->R (U×U)}(pa:PlainAttrs T)(slot:Slot T name id)(T9:typeOf (.builtin id)=pure (.type "method_descriptor"))(hm:Jb X id r)(hp:FN X.K T r p)(ha:DA X G (e::es) b1 false ga)(hN:X.N[i]? = some y:=by rfl)(hv:DR X.env.scope y:=by first|exact Or.inl rfl|exact Or.inr (Or.inl rfl)|exact Or.inr (Or.inr rfl))(c:G.is i=true:=by rfl)(hd:(y==("__debug__":Str))=false:=by decide)(kI:(y==("__classdict__":Str))=false:=by decide)(IB:attributeBase (.Name y p2) name X.env (abh (.Name y p2) X.env)=abh (.Name y p2) X.env:=by rfl)(OZ:((aan pos (X7 (e::es) X.env)).all (λx=> !x.1)&&(backToKw pos (keywordEach [] X.env)).all (λx=>x.1.isSome)
   && decide ((e::es).length+([]:List Keyword).length+(if ([]:List Keyword).isEmpty then 0 else 1)<30))=true:=by rfl)(IC:(AN.endLine==pos.line)=true:=by rfl)(hs:X7 (e::es) X.env=(false,abh e X.env)::X7 es X.env:=by rfl)(B2:(aan pos (X7 es X.env)).any (·.1)=false:=by rfl) :
  DE X G (.Call (.Attribute (.Name y p2) name AN) (e::es) [] pos) true .S (gM T i p ga):=⟨(yJ pa slot T9 hm (i5 hN hv hd kI) ha.un IB OZ IC hs B2).to λ_ _ _=>FO hp c⟩
def FP (K:XX)(r:V->Option Int->Option Int->Hp->VK->Prop)(m:Md)(p:U->Option Int->Option Int->R U):Prop:=∀A H x u lo hi z Q,Pk K H A u x->(∀a,A a->Mu (H a))->p u lo hi=.ok z->(∀v H',aX H H'->FH K m A H H' z v->Q v H')->r x lo hi H Q
def Td (K:XX)(G:Gm)(Z:Pkg)(A:Ye->Prop)(b:Bool)(ρ:Ev)(σ:St)(H:Hp):R (Option Int×Ev)->(Option Int->Hp->Prop)->Prop
 | .ok (c,ρ'),Q=>∀H',dQ K G Z A ρ' σ H'->fQ A H H'->(b=false->ρ'=ρ/\aX H H')->Q c H'
 |_,_=>False
def VS (K:XX)(G:Gm)(b:Bool)(g:Ev->R (Option Int×Ev)):TO:=λσ H Q=>∃Z A ρ,dQ K G Z A ρ σ H/\Td K G Z A b ρ σ H (g ρ) Q
structure DO (X:Cx)(G:Gm)(e:Option aaj)(b:Bool)(g:Ev->R (Option Int×Ev)):Prop where
 un:PO X e (VS X.K G b g)
noncomputable def d5:Ev->R (Option Int×Ev):=λρ=>.ok (none,ρ)
noncomputable def dJ (g:Ev->R (U×Ev)):Ev->R (Option Int×Ev):=λρ=>(g ρ).bind λx=>match x.1 with
 | .int i=>.ok (some i,x.2)
 |_=>.stk
theorem PO.to {e:Option aaj}{t t':TO}(h:PO X e t)(i:∀σ H Q,t' σ H Q->t σ H Q):PO X e t':=λpins s σ H Q I q=>h pins s σ H Q I (i _ _ _ q)
def gQ:DO X G none false d5:=⟨Jy.to λσ H Q ⟨Z,A,ρ,q,f⟩=>f H q fQ.refl λ_=>⟨rfl,aX.refl _⟩⟩
theorem fh (h:DE X G e b1 m1 g1):DO X G (some e) b1 (dJ g1):=⟨(Jz h.un).to λσ H Q h00=>by
 obtain⟨Z,A,ρ,q,f⟩:=h00;refine⟨Z,A,ρ,q,?_⟩;unfold dJ at f;cases e1:g1 ρ with
 |stk=>rw[e1] at f;exact f.elim
 |exc=>rw[e1] at f;exact f.elim
 |ok x=>
  obtain⟨u,ρ1⟩:=x;rw[e1] at f;intro v H1 q1 x1 s1 vm;cases u with
  |int c=>exact⟨c,vm.pk.int,f H1 q1 x1 s1⟩
  |_=>exact f.elim⟩
noncomputable def qD (p:U->Option Int->Option Int->R U)(g:Ev->R (U×Ev))(lo hi:Ev->R (Option Int×Ev)):Ev->R (U×Ev):=λρ=>(g ρ).bind λx=>(lo x.2).bind λl=>(hi l.2).bind λh=>(p x.1 l.1 h.1).bind λz=>.ok (z,h.2)
theorem eA {r:V->Option Int->Option Int->Hp->VK->Prop}{p:U->Option Int->Option Int->R U}{lo hi:Option aaj}{gl gh:Ev->R (Option Int×Ev)}(hr:Fh X r)(hp:FP X.K r mr p)(he:DE X G e b1 m1 g1)(hl:DO X G lo b2 gl)(hu:DO X G hi b3 gh)(hm:m1=.P->(b2||b3)=false:=by first|exact λ_=>rfl|exact λh=>nomatch h):DE X G (.Subscript e (.Slice lo hi none p2) pos) (b1||(b2||b3)) mr (qD p g1 gl gh):=⟨(Fi hr he.un hl.un hu.un).to λσ H Q h=>by
 obtain⟨Z,A,ρ,q,f⟩:=h;obtain⟨⟨u,ρ1⟩,e1,f⟩:=f.bind;obtain⟨⟨l,ρ2⟩,e2,f⟩:=f.bind;obtain⟨⟨h,ρ3⟩,e3,f⟩:=f.bind;obtain⟨z,e4,f⟩:=f.bind;dsimp only at e2 e3 e4 f;refine⟨Z,A,ρ,q,?_⟩;rw[e1];intro v1 H1 q1 x1 s1 wV;refine⟨Z,A,ρ1,q1,?_⟩;rw[e2];intro H2 q2 x2 s2;refine⟨Z,A,ρ2,q2,?_⟩;rw[e3];intro H3 q3 x3 s3;exact hp A H3 v1 u l h z Q (wV.later q1 (x2.trans x3) (two s2 s3) hm) q3.mu e4 λv H' sm vm=>f v H' (q3.same sm) ((x1.trans (x2.trans x3)).trans (fQ.same sm)) (p7 (two s1 (two s2 s3)) sm) (vm.e q3 sm)⟩
end
end L2
namespace L2
def Te (K:XX)(G:Gm)(sg:U->Ev->R Ev):TG:=λv σ H Q=>∃Z A ρ u,dQ K G Z A ρ σ H/\Rp K H A u v/\match sg u ρ with
 | .ok ρ'=>∀σ',dQ K G Z A ρ' σ' H->(∀i,G.is i=true->σ'[i]? = σ[i]?)->Q σ' H
 |_=>False
structure DG (X:Cx)(G:Gm)(tg:aaj)(sg:U->Ev->R Ev):Prop where
 un:PG X tg (Te X.K G sg)
def Tf (K:XX)(G:Gm)(sg:List U->Ev->R Ev):Jp:=λvs σ H Q=>∃Z A ρ us,dQ K G Z A ρ σ H/\aU K H A us vs/\match sg us ρ with
 | .ok ρ'=>∀σ',dQ K G Z A ρ' σ' H->(∀i,G.is i=true->σ'[i]? = σ[i]?)->Q σ' H
 |_=>False
structure R0 (X:Cx)(G:Gm)(tgs:List aaj)(sg:List U->Ev->R Ev):Prop where
 un:Lr X tgs (Tf X.K G sg)
noncomputable def cA (i:Nat):U->Ev->R Ev:=λu ρ=>.ok (ρ.set i (some u))
noncomputable def kK:List U->Ev->R Ev:=λus ρ=>match us with
 | []=>.ok ρ
 |_=>.stk
noncomputable def dk (s:U->Ev->R Ev)(t:List U->Ev->R Ev):List U->Ev->R Ev:=λus ρ=>match us with
 |u::r=>(s u ρ).bind λρ1=>t r ρ1
 |_=>.stk
noncomputable def kL (n:Nat)(t:List U->Ev->R Ev):U->Ev->R Ev:=λu ρ=>match u with
 | .tup us=>if us.length=n then t us ρ else .stk
 |_=>.stk
section
variable {pos:Pos}
theorem Lr.to {es:List aaj}{t t':Jp}(h:Lr X es t)(i:∀v σ H Q,t' v σ H Q->t v σ H Q):Lr X es t':=λpins s σ H v u Q I r q=>h pins s σ H v u Q I r (i _ _ _ _ q)
theorem aT (hN:X.N.Nodup)(hi:X.N[i]? = some x:=by rfl)(hx:E2 X.env.scope x:=by first|exact Or.inl rfl|exact Or.inr rfl)(c:G.is i=false:=by rfl)(hf:X.fn x=true\/X.env.scope.names.lookup x=some .local:=by first|exact .inl rfl|exact .inr rfl|assumption):DG X G (.Name x pos) (cA i):=⟨(Jq hN hi hx hf).to λv σ H Q ⟨Z,A,ρ,u,q,r,f⟩=>f _ (q.set c r) λj cj=>by
  have:i≠j:=λz=>by subst z;rw[c] at cj;cases cj
  rw[YI this]⟩
theorem oz:R0 X G [] kK:=⟨Jr.to λvs σ H Q h00=>by
 obtain⟨Z,A,ρ,us,q,r,f⟩:=h00;unfold kK at f;cases us with
 |nil=>unfold aU at r;exact⟨r,f σ q λ_ _=>rfl⟩
 |cons=>exact f.elim⟩
theorem eX {e:aaj}{es:List aaj}{s:U->Ev->R Ev}{t:List U->Ev->R Ev}(h1:DG X G e s)(h2:R0 X G es t)
  (hs:(aa1 (e::es) X.env).map (·.2)=assign e X.env::(aa1 es X.env).map (·.2):=by rfl):R0 X G (e::es) (dk s t):=⟨(E4 h1.un h2.un hs).to λvs σ H Q h00=>by
 obtain⟨Z,A,ρ,us,q,r,f⟩:=h00;unfold dk at f;cases us with
 |nil=>exact f.elim
 |cons u us=>
  unfold aU at r;obtain⟨v,vr,rfl,r1,r2⟩:=r;dsimp only at f;refine⟨v,vr,rfl,Z,A,ρ,u,q,r1,?_⟩;cases e1:s u ρ with
  |ok ρ1=>
   rw[e1] at f;simp only[R.bind] at f;intro σ1 q1 o1;refine⟨Z,A,ρ1,us,q1,r2,?_⟩;cases e2:t us ρ1 with
   |ok ρ2=>rw[e2] at f;exact λσ2 q2 o2=>f σ2 q2 λi c=>(o2 i c).trans (o1 i c)
   |exc=>rw[e2] at f;exact f.elim
   |stk=>rw[e2] at f;exact f.elim
  |exc=>rw[e1] at f;exact f.elim
  |stk=>rw[e1] at f;exact f.elim⟩
theorem tL {es:List aaj}{t:List U->Ev->R Ev}(hc:X.calm=true)(h:R0 X G es t)(hn:(aa1 es X.env).length=n:=by rfl)(g_:(aa1 es X.env).findIdx? (·.1)=none:=by rfl):DG X G (.Tuple es k pos) (kL n t):=⟨(Nh hc h.un hn g_).to λv σ H Q h00=>by
 obtain⟨Z,A,ρ,u,q,r,f⟩:=h00;unfold kL at f;cases u with
 |tup us=>
  unfold Rp at r;obtain⟨a,xs,rfl,sq,l,rs⟩:=r;dsimp only at f;by_cases hl:us.length=n
  ·rw[hZ hl] at f;exact⟨a,xs,rfl,i6.of sq,by rw[←rs.length];exact hl,Z,A,ρ,us,q,rs,f⟩
  ·rw[hV hl] at f;exact f.elim
 |_=>exact f.elim⟩
end
def VT (K:XX)(Z:Pkg)(m:Md)(H:Hp)(u:U)(v:V):Prop:=match m with
 | .S=>Rp K H Z.A0 u v
 | .O=>∃a,v=.ref a/\Z.B a=none/\¬Z.A0 a/\mJ K H (λb=>Z.A0 b\/b=a) u a
 | .P=>False
def tM (K:XX)(G:Gm)(Z:Pkg)(m:Md):SR->oh->Prop
 | .nx ρ',D=>∀A' σ' H',dQ K G Z A' ρ' σ' H'->D.nx σ' H'
 | .bk ρ',D=>∀A' σ' H',dQ K G Z A' ρ' σ' H'->D.bk σ' H'
 | .ct ρ',D=>∀A' σ' H',dQ K G Z A' ρ' σ' H'->D.ct σ' H'
 | .rt u ρ',D=>∀A' σ' H' v,dQ K G Z A' ρ' σ' H'->VT K Z m H' u v->D.rt v H'
 | .exc _ _,_=>∀H',(∀a o,Z.B a=some o->H' a=some o)->G.W H'
 | .stk,_=>False
def R1 (K:XX)(G:Gm)(m:Md)(g:Ev->SR):TS:=λD σ H=>∃Z A ρ,dQ K G Z A ρ σ H/\tM K G Z m (g ρ) D
structure DS (X:Cx)(G:Gm)(m:Md)(st:ab7)(g:Ev->SR):Prop where
 un:PS X st (R1 X.K G m g)
structure Bp (X:Cx)(G:Gm)(m:Md)(st:List ab7)(g:Ev->SR):Prop where
 un:sU X st (R1 X.K G m g)
noncomputable def aR:Ev->SR:=.nx
noncomputable def aE (g1 g2:Ev->SR):Ev->SR:=λρ=>match g1 ρ with
 | .nx ρ'=>g2 ρ'
 |r=>r
noncomputable def SR.of {α:Type}:R α->(α->SR)->SR
 | .ok a,f=>f a
 |_,_=>.stk
section
variable {m:Md}{α:Type}
theorem tM.of {x:R α}{k:α->SR}{D:oh}(f:tM K G Z m (SR.of x k) D):∃a,x=.ok a/\tM K G Z m (k a) D:=by
 cases x with
 |ok a=>exact⟨a,rfl,f⟩
 |exc=>exact f.elim
 |stk=>exact f.elim
end
section
variable {e a b:aaj}{Vh rest:List ab7}{es:List aaj}{pos p1:Pos}{b1 b2 b3:Bool}{m m1 m2 m3 mr:Md}{g1 g2 g3:Ev->R (U×Ev)}{h1 h2:Ev->R (Bool×Ev)}{ga:Ev->R (List U×Ev)}{s1 s2:Ev->SR}
def aK:Bp X G m [] aR:=⟨oj.to λD σ H ⟨Z,A,ρ,q,f⟩=>f A σ H q⟩
def au (h:DS X G m st s1):Bp X G m [st] s1:=⟨fU h.un⟩
theorem aj (ha:DS X G m st s1)(hb:Bp X G m rest s2):Bp X G m (st::rest) (aE s1 s2):=⟨(fT ha.un hb.un).to λD σ H h00=>by
 obtain⟨Z,A,ρ,q,f⟩:=h00;refine⟨Z,A,ρ,q,?_⟩;unfold aE at f;cases e:s1 ρ with
 |nx ρ1=>rw[e] at f;exact λA1 σ1 H1 q1=>⟨Z,A1,ρ1,q1,f⟩
 |rt=>rw[e] at f;exact f
 |bk=>rw[e] at f;exact f
 |ct=>rw[e] at f;exact f
 |exc=>rw[e] at f;exact f
 |stk=>rw[e] at f;exact f⟩
noncomputable def NP:Ev->SR:=.bk
noncomputable def Qu:Ev->SR:=.ct
noncomputable def iD (g:Ev->R (U×Ev)):Ev->SR:=λρ=>SR.of (g ρ) λx=>.nx x.2
theorem l9 (h:DE X G e b1 m1 g1)(hs:acw e none pos.line X.env=pure false:=by rfl):DS X G m (.Expr e pos) (iD g1):=⟨(Jo h.un hs).to λD σ H h00=>by
 obtain⟨Z,A,ρ,q,f⟩:=h00;obtain⟨⟨u,ρ1⟩,e1,f⟩:=f.of;refine⟨Z,A,ρ,q,?_⟩;rw[e1];exact λv H1 q1 _ _ _=>f A σ H1 q1⟩
noncomputable def bg (g:Ev->R (U×Ev)):Ev->SR:=λρ=>SR.of (g ρ) λx=>.rt x.1 x.2
theorem aJ (h:DE X G e b1 m1 g1)(hn:m1≠.P:=by decide):DS X G .S (.Return (some e) pos) (bg g1):=⟨(i7 h.un).to λD σ H h00=>by
 obtain⟨Z,A,ρ,q,f⟩:=h00;obtain⟨⟨u,ρ1⟩,e1,f⟩:=f.of;refine⟨Z,A,ρ,q,?_⟩;rw[e1];exact λv H1 q1 _ _ vm=>f A σ H1 v q1 ((vm.rp hn).mono q1.sup)⟩
theorem Ck (h:DE X G e b1 .O g1):DS X G .O (.Return (some e) pos) (bg g1):=⟨(i7 h.un).to λD σ H h00=>by
 obtain⟨Z,A,ρ,q,f⟩:=h00;obtain⟨⟨u,ρ1⟩,e1,f⟩:=f.of;refine⟨Z,A,ρ,q,?_⟩;rw[e1];intro v H1 q1 _ _ vm;obtain⟨a,rfl,na,nb,_,t⟩:=vm;exact f A σ H1 _ q1 ⟨a,rfl,nb,λz=>na (q1.sup a z),t.mono λb z=>z.imp (q1.sup b) id⟩⟩
theorem Cm (hm:m≠.P:=by decide)(hi:G.io=true->i≠0)(hN:X.N[i]? = some x:=by rfl)(hv:DR X.env.scope x:=by first|exact Or.inl rfl|exact Or.inr (Or.inl rfl)|exact Or.inr (Or.inr rfl))(hd:(x==("__debug__":Str))=false:=by decide)(kI:(x==("__classdict__":Str))=false:=by decide)(c:G.is i=true:=by rfl):DS X G m (.Return (some (.Name x p1)) pos) (bg (af i)):=⟨(i7 (i5 hN hv hd kI)).to λD σ H h00=>by
 obtain⟨Z,A,ρ,q,f⟩:=h00;obtain⟨⟨u,ρ1⟩,e1,f⟩:=f.of;unfold af at e1;split at e1
 ·rename_i u' hu;cases e1;obtain⟨a,h1,h2,h3,h4,h5⟩:=q.own c hu;have na:¬Z.A0 a:=by
   lia
  refine⟨.ref a,h1,f A σ H _ q ?_⟩;cases m with
  |S=>exact h5.rp q.sup na
  |O=>exact⟨a,rfl,h3,na,h5.mono λb z=>by
    rcases z with z|z
    ·exact q.sup b z
    lia⟩
  |P=>lia
 lia⟩
noncomputable def a9 (i:Nat)(g:Ev->R (U×Ev)):Ev->SR:=λρ=>SR.of (g ρ) λx=>.nx (x.2.set i (some x.1))
theorem tN (c:G.is i=false)(hn:m1≠.P)(hi:∀σ H Q,tD X.K G b1 m1 g1 σ H Q->te σ H Q){D:oh}(h:R1 X.K G m (a9 i g1) D σ H):E5 te (yH i) D σ H:=by
 obtain⟨Z,A,ρ,q,f⟩:=h;obtain⟨⟨u,ρ1⟩,e1,f⟩:=f.of;refine hi _ _ _ ⟨Z,A,ρ,q,?_⟩;rw[e1];exact λv H1 q1 _ _ vm=>f A _ H1 (q1.set c (vm.rp hn))
theorem Eb (c:G.is i=true)(h0:G.io=true->i≠0)(hi:∀σ H Q,tD X.K G b1 .O g1 σ H Q->te σ H Q){D:oh}(h:R1 X.K G m (a9 i g1) D σ H):E5 te (yH i) D σ H:=by
 obtain⟨Z,A,ρ,q,f⟩:=h;obtain⟨⟨u,ρ1⟩,e1,f⟩:=f.of;refine hi _ _ _ ⟨Z,A,ρ,q,?_⟩;rw[e1];intro v H1 q1 _ _ vm;obtain⟨a,rfl,na,nb,r,t⟩:=vm;exact f _ _ H1 (q1.setO c h0 na nb r t)
def bA (hN:X.N.Nodup)(h:DE X G e b1 m1 g1)(hi:X.N[i]? = some x:=by rfl)(hx:E2 X.env.scope x:=by first|exact Or.inl rfl|exact Or.inr rfl)(c:G.is i=false:=by rfl)(hn:m1≠.P:=by decide)(hs:acw e (some (.Name x p1)) pos.line X.env=pure false:=by rfl)(hf:X.fn x=true\/X.env.scope.names.lookup x=some .local:=by first|exact .inl rfl|exact .inr rfl|assumption):DS X G m (.Assign [.Name x p1] e pos) (a9 i g1):=⟨(nk hN hi hx h.un hs hf).to λ_ _ _=>tN c hn λ_ _ _ h=>h⟩
def iI (hN:X.N.Nodup)(h:DE X G e b1 .O g1)(h0:G.io=true->i≠0:=by decide)(hi:X.N[i]? = some x:=by rfl)(hx:E2 X.env.scope x:=by first|exact Or.inl rfl|exact Or.inr rfl)(c:G.is i=true:=by rfl)(hs:acw e (some (.Name x p1)) pos.line X.env=pure false:=by rfl)(hf:X.fn x=true\/X.env.scope.names.lookup x=some .local:=by first|exact .inl rfl|exact .inr rfl|assumption):DS X G m (.Assign [.Name x p1] e pos) (a9 i g1):=⟨(nk hN hi hx h.un hs hf).to λ_ _ _=>Eb c h0 λ_ _ _ h=>h⟩
noncomputable def yV (i j:Nat):Ev->SR:=λρ=>match ρ[j]? with
 |some (some u)=>.nx ((ρ.set j none).set i (some u))
 |_=>.stk
theorem JS {y:Str}(hN:X.N.Nodup)(h0:G.io=true->j≠0:=by decide)(hj:X.N[j]? = some y:=by rfl)(hv:DR X.env.scope y:=by first|exact Or.inl rfl|exact Or.inr (Or.inl rfl)|exact Or.inr (Or.inr rfl))(hd:(y==("__debug__":Str))=false:=by decide)(kI:(y==("__classdict__":Str))=false:=by decide)(cj:G.is j=true:=by rfl)(hi:X.N[i]? = some x:=by rfl)(hx:E2 X.env.scope x:=by first|exact Or.inl rfl|exact Or.inr rfl)(c:G.is i=false:=by rfl)(hs:acw (.Name y p2) (some (.Name x p1)) pos.line X.env=pure false:=by rfl)(hf:X.fn x=true\/X.env.scope.names.lookup x=some .local:=by first|exact .inl rfl|exact .inr rfl|assumption):DS X G m (.Assign [.Name x p1] (.Name y p2) pos) (yV i j):=⟨(nk hN hi hx (i5 hj hv hd kI) hs hf).to λD σ H h00=>by
 obtain⟨Z,A,ρ,q,f⟩:=h00;unfold yV at f;split at f
 ·rename_i u hu;obtain⟨a,A',h1,r,p⟩:=q.free cj h0 hu;exact⟨.ref a,h1,f A' _ H (r.set c p)⟩
 ·exact f.elim⟩
noncomputable def NQ (sg:U->Ev->R Ev)(g:Ev->R (U×Ev)):Ev->SR:=λρ=>SR.of (g ρ) λx=>SR.of (sg x.1 x.2) .nx
theorem NR (h:DE X G e b1 m1 g1)(hg:DG X G tg sg)(hn:m1≠.P:=by decide)(hs:swapsWithSole [tg] e pos.line X.env=pure false:=by rfl)(hw:swappedStores [tg] e X.env=pure none:=by rfl)(h1:(aa1 [tg] X.env).map (·.2)=[assign tg X.env]:=by rfl):DS X G m (.Assign [tg] e pos) (NQ sg g1):=⟨(E6 h.un hg.un hs hw h1).to λD σ H h00=>by
 obtain⟨Z,A,ρ,q,f⟩:=h00;obtain⟨⟨u,ρ1⟩,e1,f⟩:=f.of;obtain⟨ρ2,e2,f⟩:=f.of;refine⟨Z,A,ρ,q,?_⟩;rw[e1];intro v H1 q1 _ _ vm;refine⟨Z,A,ρ1,u,q1,vm.rp hn,?_⟩;dsimp only at e2;rw[e2];exact λσ' q' _=>f A σ' H1 q'⟩
noncomputable def Tg (i j:Nat)(ga:Ev->R (List U×Ev)):Ev->SR:=λρ=>SR.of (ga ρ) λx=>match x.1 with
 | [u,w]=>.nx ((x.2.set i (some u)).set j (some w))
 |_=>.stk
noncomputable def dR (h:Ev->R (Bool×Ev))(s1 s2:Ev->SR):Ev->SR:=λρ=>SR.of (h ρ) λx=>if x.1=true then s1 x.2 else s2 x.2
theorem bI {a b:List ab7}(hc:DT X G c b1 h1)(ha:Bp X G m a s1)(hb:Bp X G m b s2):DS X G m (.If c a b pos) (dR h1 s1 s2):=⟨(yG hc.un ha.un hb.un).to λD σ H h00=>by
 obtain⟨Z,A,ρ,q,f⟩:=h00;obtain⟨⟨k,ρ1⟩,e1,f⟩:=f.of;refine⟨Z,A,ρ,q,?_⟩;rw[e1];intro H1 q1 _ _;cases k with
 |true=>rw[hZ rfl] at f ⊢;exact⟨Z,A,ρ1,q1,f⟩
 |false=>rw[hV XR] at f ⊢;exact⟨Z,A,ρ1,q1,f⟩⟩
noncomputable def gD (h:Ev->R (Bool×Ev))(s:Ev->SR):Nat->Ev->SR
 |0,_=>.stk
 |n+1,ρ=>SR.of (h ρ) λx=>if x.1=true then match s x.2 with
   | .nx ρ2=>gD h s n ρ2
   | .ct ρ2=>gD h s n ρ2
   | .bk ρ2=>.nx ρ2
   |r=>r
  else .nx x.2
theorem FQ (hp:adL (Yw X.prog X.w) X.A X.env X.xe)(hc:DT X G c b1 h1)(hb:Bp X G m body s1):DS X G m (.While c body [] pos) (gD h1 s1 n):=⟨(E7 hp hc.un hb.un).to λD σ H h00=>by
 obtain⟨Z,A,ρ,q,f⟩:=h00;refine⟨λk σ H=>∃A ρ,dQ X.K G Z A ρ σ H/\tM X.K G Z m (gD h1 s1 k ρ) D,⟨n,A,ρ,q,f⟩,?_⟩;rintro k σ H ⟨A,ρ,q,f⟩;cases k with
 |zero=>exact f.elim
 |succ k=>
  unfold gD at f;obtain⟨⟨t,ρ1⟩,e1,f⟩:=f.of;refine⟨Z,A,ρ,q,?_⟩;rw[e1];intro H1 q1 _ _;cases t with
  |false=>rw[hV XR] at f ⊢;exact f A σ H1 q1
  |true=>
   rw[hZ rfl] at f ⊢;refine⟨λσ H=>∃A ρ,dQ X.K G Z A ρ σ H/\tM X.K G Z m (gD h1 s1 k ρ) D,λσ' H' z=>⟨k,Nat.lt_succ_self k,z⟩,Z,A,ρ1,q1,?_⟩;dsimp only at f;cases e2:s1 ρ1 with
   |nx ρ2=>rw[e2] at f;exact λA2 σ2 H2 q2=>⟨A2,ρ2,q2,f⟩
   |ct ρ2=>rw[e2] at f;exact λA2 σ2 H2 q2=>⟨A2,ρ2,q2,f⟩
   |bk ρ2=>rw[e2] at f;exact f
   |rt=>rw[e2] at f;exact f
   |exc=>rw[e2] at f;exact f
   |stk=>rw[e2] at f;exact f⟩
end
end L2
namespace L2
def Wk (K:XX)(p:Bool)(A:Ye->Prop)(us:List U)(J:It)(H1:Hp):Prop:=us.length<=XU/\
 ∀H A',(if p=true then aX H1 H else fQ A H1 H)->(∀b,A' b->A b\/H1 b=none)->(∀(i:Nat) (u:U),us[i]? = some u->J.go i H/\∀x H',J.yld i H x H'->aX H H'/\Rp K H' A' u x)/\J.stop us.length H
def Th (K:XX)(G:Gm)(b p:Bool)(gi:Ev->R (List U×Ev)):TI:=λσ H R=>∃Z A ρ,dQ K G Z A ρ σ H/\match gi ρ with
 | .ok (us,ρ')=>∀J H1,dQ K G Z A ρ' σ H1->fQ A H H1->(b=false->ρ'=ρ/\aX H H1)->Wk K p A us J H1->R J H1
 |_=>False
structure DI (X:Cx)(G:Gm)(tg iter:aaj)(b p:Bool)(gi:Ev->R (List U×Ev)):Prop where
 un:PI X tg iter (Th X.K G b p gi)
section
variable {e a b:aaj}{es:List aaj}{pos p1:Pos}{b1 b2 b3:Bool}{m m1 m2 m3 mr:Md}{g1 g2 g3:Ev->R (U×Ev)}{h1 h2:Ev->R (Bool×Ev)}{ga:Ev->R (List U×Ev)}{s1 s2:Ev->SR}
theorem PI.to {t t':TI}(h:PI X tg e t)(i:∀σ H Q,t' σ H Q->t σ H Q):PI X tg e t':=λpins s σ H Q I q=>h pins s σ H Q I (i _ _ _ q)
theorem PI.or {t t':TI}(h:PI X tg e t)(h':PI X tg e t'):PI X tg e (λσ H R=>t σ H R\/t' σ H R):=λpins s σ H Q I q=>by
 rcases q with q|q
 ·exact h pins s σ H Q I q
 ·exact h' pins s σ H Q I q
noncomputable def Qv:Md->Bool
 | .P=>true
 |_=>false
noncomputable def d6 (g:Ev->R (U×Ev)):Ev->R (List U×Ev):=λρ=>(g ρ).bind λx=>match x.1 with
 | .lst us=>.ok (us,x.2)
 | .tup us=>.ok (us,x.2)
 | .scr us=>.ok (us,x.2)
 |_=>.stk
theorem JT (q:dQ K G Z A ρ σ H1)(h:vV K G Z m1 A ρ σ H1 (.lst us) v):∃a,v=.ref a/\(∃xs,fS K H1 a xs)/\Wk K (Qv m1) A us (RU K a) H1:=by
 have hp:=h.pk;unfold Pk at hp;obtain⟨a,xs,rfl,rd,l,rs⟩:=hp;refine⟨a,rfl,⟨xs,fS.of rd⟩,l,λH A' hs ha=>?_⟩;have st:H a=some (.lst xs)/\∀(i:Nat) (u:U),us[i]? = some u->∃x,xs[i]? = some x/\Rp K H A' u x:=by
  cases hm:Qv m1 with
  |true=>
   rw[hm,hZ rfl] at hs;refine⟨hs a _ rd,λi u hu=>?_⟩;obtain⟨x,h1,h2⟩:=rs.get hu;exact⟨x,h1,h2.re q.mu (fQ.same hs) ha⟩
  |false=>
   rw[hm,hV XR] at hs;have hn:m1≠.P:=λz=>by subst z;cases hm
   have hr:=h.rp hn;unfold Rp at hr;obtain⟨a',xs',e,na,rd',_,rs'⟩:=hr;cases e;refine⟨hs a _ na rd,λi u hu=>?_⟩;obtain⟨x,h1,h2⟩:=rs.get hu;exact⟨x,h1,h2.re q.mu hs ha⟩
 obtain⟨rd2,get⟩:=st;refine⟨λi u hu=>?_,⟨xs,fS.of rd2,by rw[←rs.length];exact X6 _⟩⟩;obtain⟨x,h1,h2⟩:=get i u hu;refine⟨⟨xs,x,fS.of rd2,h1⟩,λy H' yl=>?_⟩;obtain⟨e,yl⟩:=yl;have e2:=yl xs (fS.of rd2);rw[h1] at e2;cases e2;subst e;exact⟨aX.refl _,h2⟩
theorem NT {p:Bool}(q:dQ K G Z A ρ σ H1)(h:Pk K H1 A (.tup us) v):∃a,v=.ref a/\(∃xs,i6 K H1 a xs)/\Wk K p A us (SU K a) H1:=by
 unfold Pk at h;obtain⟨a,xs,rfl,sq,l,rs⟩:=h;refine⟨a,rfl,⟨xs,i6.of sq⟩,l,λH A' hs ha=>?_⟩;have ex:fQ A H1 H:=by
  cases p with
  |true=>rw[hZ rfl] at hs;exact fQ.same hs
  |false=>lia
 have O4:i6 K H a xs:=i6.of (ex a _ (λz=>by have:=q.mu a z;rw[sq] at this;exact this) sq);refine⟨λi u hu=>?_,⟨xs,O4,by rw[←rs.length];exact X6 _⟩⟩;obtain⟨x,h1,h2⟩:=rs.get hu;refine⟨⟨xs,x,O4,h1⟩,λy H' yl=>?_⟩;obtain⟨e,yl⟩:=yl;have e2:=yl xs O4;rw[h1] at e2;cases e2;subst e;exact⟨aX.refl _,h2.re q.mu ex ha⟩
theorem NU {p:Bool}(q:dQ K G Z A ρ σ H1)(h:Pk K H1 A (.scr us) v):∃a,v=.ref a/\(∃xs,fS K H1 a xs)/\Wk K p A us (RU K a) H1:=by
 unfold Pk at h;obtain⟨a,xs,rfl,sq,l,rs⟩:=h;refine⟨a,rfl,⟨xs,sq.sq⟩,l,λH A' hs ha=>?_⟩;have ex:fQ A H1 H:=by
  cases p with
  |true=>rw[hZ rfl] at hs;exact fQ.same hs
  |false=>lia
 have O4:fS K H a xs:=(sq.to λo y w=>ex a _ (λz=>by have:=q.mu a z;rw[w] at this;exact this) w).sq;refine⟨λi u hu=>?_,⟨xs,O4,by rw[←rs.length];exact X6 _⟩⟩;obtain⟨x,h1,h2⟩:=rs.get hu;refine⟨⟨xs,x,O4,h1⟩,λy H' yl=>?_⟩;obtain⟨e,yl⟩:=yl;have e2:=yl xs O4;rw[h1] at e2;cases e2;subst e;exact⟨aX.refl _,h2.re q.mu ex ha⟩
theorem cO (h:DE X G e b1 m1 g1):DI X G tg e b1 (Qv m1) (d6 g1):=⟨((Js h.un).or (Nk h.un)).to λσ H RR h00=>by
 obtain⟨Z,A,ρ,q,f⟩:=h00;unfold d6 at f;cases e1:g1 ρ with
 |stk=>rw[e1] at f;exact f.elim
 |exc=>rw[e1] at f;exact f.elim
 |ok y=>
  obtain⟨u,ρ1⟩:=y;rw[e1] at f;cases u with
  |lst us=>
   refine .inl ⟨Z,A,ρ,q,?_⟩;rw[e1];intro v H1 q1 x1 s1 vm;obtain⟨a,e,l,wk⟩:=JT q1 vm;exact⟨a,e,l,f _ H1 q1 x1 s1 wk⟩
  |tup us=>
   refine .inr ⟨Z,A,ρ,q,?_⟩;rw[e1];intro v H1 q1 x1 s1 vm;obtain⟨a,e,l,wk⟩:=NT (p:=Qv m1) q1 vm.pk;exact⟨a,e,l,f _ H1 q1 x1 s1 wk⟩
  |scr us=>
   refine .inl ⟨Z,A,ρ,q,?_⟩;rw[e1];intro v H1 q1 x1 s1 vm;obtain⟨a,e,l,wk⟩:=NU (p:=Qv m1) q1 vm.pk;exact⟨a,e,l,f _ H1 q1 x1 s1 wk⟩
  |_=>exact f.elim⟩
noncomputable def aO (lo:Int)(n:Nat):List U:=(YF n).map λi=>.int (lo+(i:Nat))
theorem FR {lo:Int}{p:Bool}(h:n<=XU):Wk K p A (aO lo n) (RV lo n) H1:=by
 have hl:(aO lo n).length=n:=by unfold aO;rw[XO,YZ]
 refine⟨by rw[hl];exact h,λH A' _ _=>⟨λi u hu=>?_,by rw[hl];exact X6 _⟩⟩;unfold aO at hu;rw[Yq] at hu;cases e:(YF n)[i]? with
 |none=>grind
 |some j=>
  rw[e] at hu;obtain⟨l1,l2⟩:=X3.mp e;rw[YZ] at l1;rw[List.getElem_range] at l2;subst l2;cases hu;refine⟨l1,λx H' y=>?_⟩;obtain⟨rfl,rfl⟩:=y;exact⟨aX.refl _,eR⟩
noncomputable def fA (ga:Ev->R (List U×Ev)):Ev->R (List U×Ev):=λρ=>(ga ρ).bind λx=>match x.1 with
 | [.int j]=>if -1000000<=j/\j<=1000000 then .ok (aO 0 j.toNat,x.2) else .stk
 |_=>.stk
theorem dz {a:aaj}(ha:DA X G [a] b1 false ga)(hm:X.mg "range"=none)(hg:Gl X "range":=by rfl)(hs:X7 [a] X.env=[(false,abh a X.env)]:=by rfl):DI X G tg (.Call (.Name "range" p1) [a] [] pos) b1 false (fA ga):=⟨(DX hg hm ha.un hs).to λσ H RR h00=>by
 obtain⟨Z,A,ρ,q,f⟩:=h00;unfold fA at f;cases e1:ga ρ with
 |stk=>rw[e1] at f;exact f.elim
 |exc=>rw[e1] at f;exact f.elim
 |ok y=>
  obtain⟨us,ρ1⟩:=y;rw[e1] at f;dsimp only[L2.R.bind] at f;refine⟨Z,A,ρ,q,?_⟩;rw[e1];intro vs H1 q1 x1 s1 vm;split at f
  ·rename_i Wh ρ' e2;split at e2
   ·rename_i j;split at e2
    ·rename_i hl;cases e2;have r:=vm.rps;unfold aU at r;obtain⟨v,vr,rfl,r1,r2⟩:=r;unfold aU at r2;subst r2;unfold Rp at r1;subst r1;exact⟨j,rfl,(by lia),(by lia),f _ H1 q1 x1 s1 (FR (by have:XU=16777216:=rfl;lia))⟩
    lia
   lia
  lia⟩
noncomputable def jH (sg:U->Ev->R Ev)(s:Ev->SR):List U->Ev->SR
 | [],ρ=>.nx ρ
 |u::us,ρ=>SR.of (sg u ρ) λρ1=>match s ρ1 with
   | .nx ρ2=>jH sg s us ρ2
   | .ct ρ2=>jH sg s us ρ2
   | .bk ρ2=>.nx ρ2
   |r=>r
noncomputable def nv (gi:Ev->R (List U×Ev))(sg:U->Ev->R Ev)(s:Ev->SR):Ev->SR:=λρ=>SR.of (gi ρ) λx=>jH sg s x.1 x.2
open Classical in
noncomputable def Pkg.lp (Z:Pkg)(A:Ye->Prop)(H:Hp):Pkg:={Z with B:=λb=>if A b/\Z.B b=none then none else H b}
theorem xh {b:Ye}(h1:A b)(h2:Z.B b=none):(Z.lp A H).B b=none:=by
 simp_all[Pkg.lp,hZ]
theorem oA {b:Ye}(h:¬(A b/\Z.B b=none)):(Z.lp A H).B b=H b:=by
 simp_all[Pkg.lp,hV]
theorem Bq {b:Ye}(h:(Z.lp A H).B b=none):(A b/\Z.B b=none)\/H b=none:=by
 grind[oA]
theorem dQ.lp (q:dQ K G Z A ρ σ H):dQ K G (Z.lp A H) A ρ σ H where
 slot:=λi u h=>by
  obtain⟨v,h1,h2⟩:=q.slot i u h;refine⟨v,h1,?_⟩;by_cases c:G.is i=true
  ·rw[hZ c] at h2 ⊢;obtain⟨a,e1,e2,e3,e4,e5⟩:=h2;exact⟨a,e1,e2,xh e2 e3,e4,e5⟩
  ·rw[hV c] at h2 ⊢;exact h2
 dis:=q.dis
 mu:=q.mu
 sup:=q.sup
 out:=λa h=>(q.out a h).imp id λz=>xh h z
 bas:=λa o h=>by
  grind[xh,oA]
 io0:=q.io0
 len:=q.len
theorem dQ.unlp {A':Ye->Prop}{ρ':Ev}{σ':St}(q:dQ K G Z A ρ σ H)(q':dQ K G (Z.lp A H) A' ρ' σ' H'):dQ K G Z A' ρ' σ' H':=by
 have sub:∀a,(Z.lp A H).B a=none->Z.B a=none:=λa h=>by
  rcases Bq h with z|h
  ·lia
  ·cases e:Z.B a with
   |none=>rfl
   |some o=>rw[q.bas a o e] at h;cases h
 exact {
  slot:=λi u h=>by
   obtain⟨v,h1,h2⟩:=q'.slot i u h;refine⟨v,h1,?_⟩;by_cases c:G.is i=true
   ·rw[hZ c] at h2 ⊢;obtain⟨a,e1,e2,e3,e4,e5⟩:=h2;exact⟨a,e1,e2,sub a e3,e4,e5⟩
   ·rw[hV c] at h2 ⊢;exact h2
  dis:=q'.dis
  mu:=q'.mu
  sup:=q'.sup
  out:=λa h=>(q'.out a h).imp id (sub a)
  bas:=λa o h=>q'.bas a o (by
   rw[oA (λz=>by lia)];exact q.bas a o h)
  io0:=q'.io0
  len:=q'.len}
theorem tM.lp {r:SR}{D:oh}(q:dQ K G Z A ρ σ H)(f:tM K G Z m r D):tM K G (Z.lp A H) m r D:=by
 cases r with
 |nx=>exact λA' σ' H' q'=>f A' σ' H' (q.unlp q')
 |bk=>exact λA' σ' H' q'=>f A' σ' H' (q.unlp q')
 |ct=>exact λA' σ' H' q'=>f A' σ' H' (q.unlp q')
 |rt u ρ'=>
  intro A' σ' H' v q' vm;refine f A' σ' H' v (q.unlp q') ?_;cases m with
  |S=>exact vm
  |P=>exact vm
  |O=>
   obtain⟨a,e,nb,na,t⟩:=vm;refine⟨a,e,?_,na,t⟩;rcases Bq nb with z|h
   ·lia
   ·cases e:Z.B a with
    |none=>rfl
    |some o=>rw[q.bas a o e] at h;cases h
 |exc=>exact λH' hb=>f H' λa o h=>hb a o (by
   rw[oA (λz=>by lia)];exact q.bas a o h)
 |stk=>exact f.elim
theorem lh {gi:Ev->R (List U×Ev)}(hp:adL (Yw X.prog X.w) X.A X.env X.xe)(hc:X.calm=true)(hi:DI X G tg iter b1 false gi)(hg:DG X G tg sg)(hb:Bp X G m body s1)(hs:∀x,ZO iter X.env x=pure x:=by intro _;rfl):DS X G m (.For tg iter body [] pos) (nv gi sg s1):=⟨(JG hp hc hi.un hg.un hb.un hs).to λD σ H h00=>by
 obtain⟨Z,A,ρ,q,f⟩:=h00;obtain⟨⟨us,ρ1⟩,e1,f⟩:=f.of;refine⟨Z,A,ρ,q,?_⟩;rw[e1];intro J H1 q1 x1 B4 wk;dsimp only at f;obtain⟨hz,wk⟩:=wk;refine⟨λi k σ H=>i+k=us.length/\∃A' ρ',dQ X.K G (Z.lp A H1) A' ρ' σ H/\tM X.K G (Z.lp A H1) m (jH sg s1 (us.drop i) ρ') D,⟨us.length,(by lia),A,ρ1,q1.lp,by rw[acs];exact f.lp q1⟩,?_⟩;rintro i k σ H ⟨hk,A',ρ',q',f'⟩;have ex:fQ A H1 H:=λb o nb z=>q'.bas b o (by
  grind[oA])
 have nw:∀b,A' b->A b\/H1 b=none:=λb z=>by
  rcases q'.out b z with y|y
  ·exact .inl (q1.sup b y)
  ·rcases Bq y with w|h
   ·lia
   lia
 obtain⟨w1,w2⟩:=wk H A' (by lia) nw;by_cases yt:i<us.length
 ·have eu:us[i]? = some us[i]:=XN yt;obtain⟨go,yl⟩:=w1 i _ eu;rw[ZC yt] at f';unfold jH at f';obtain⟨ρ2,e2,f2⟩:=f'.of;refine .inr ⟨go,λσ H=>∃A' ρ',dQ X.K G (Z.lp A H1) A' ρ' σ H/\tM X.K G (Z.lp A H1) m (jH sg s1 (us.drop (i+1)) ρ') D,λσ' H' z=>⟨k-1,(by lia),(by lia),z⟩,λx H' y=>?_⟩;obtain⟨sm,rp⟩:=yl x H' y;refine⟨Z.lp A H1,A',ρ',us[i],q'.same sm,rp,?_⟩;rw[e2];intro σ2 q2 _;refine⟨Z.lp A H1,A',ρ2,q2,?_⟩;cases e3:s1 ρ2 with
  |nx ρ3=>rw[e3] at f2;exact λA3 σ3 H3 q3=>⟨A3,ρ3,q3,f2⟩
  |ct ρ3=>rw[e3] at f2;exact λA3 σ3 H3 q3=>⟨A3,ρ3,q3,f2⟩
  |bk ρ3=>rw[e3] at f2;exact f2
  |rt=>rw[e3] at f2;exact f2
  |exc=>rw[e3] at f2;exact f2
  |stk=>rw[e3] at f2;exact f2
 ·have e:i=us.length:=(by lia)
  subst e;rw[abD] at f';exact .inl ⟨w2,f' A' σ H q'⟩⟩
end
end L2
namespace L2
noncomputable def iJ (js:List (Option Nat))(ρ:Ev):Ev:=js.map λo=>match o with
 |none=>none
 |some j=>match ρ[j]? with
  |some v=>v
  |none=>none
noncomputable def rO (G:Gm)(js:List (Option Nat)):Gm:=⟨js.map λo=>match o with
 |none=>false
 |some j=>G.is j,false,λ_=>False⟩
noncomputable def oB:List (Option Nat)->Bool
 | []=>true
 |none::r=>oB r
 |some j::r=> !(r.contains (some j))&&oB r
theorem tP:∀{js:List (Option Nat)} {i k j:Nat},oB js=true->js[i]? = some (some j)->js[k]? = some (some j)->i=k
 | [],_,_,_,_,h,_=>by simp at h
 |none::r,i,k,j,ok,h1,h2=>by
  unfold oB at ok;cases i with
  |zero=>simp at h1
  |succ i=>
   cases k with
   |zero=>simp at h2
   |succ k=>exact congrArg (·+1) (tP (j:=j) ok (by simpa using h1) (by simpa using h2))
 |some j'::r,i,k,j,ok,h1,h2=>by
  unfold oB at ok;rw[YD] at ok;have nm:∀n:Nat,r[n]? ≠ some (some j'):=λn h=>by
   have:=YA h;simp at ok;exact ok.1 this
  cases i with
  |zero=>
   grind
  |succ i=>
   cases k with
   |zero=>grind
   |succ k=>exact congrArg (·+1) (tP (j:=j) ok.2 (by simpa using h1) (by simpa using h2))
theorem oC (h:(iJ js ρ)[i]? = some (some u)):∃j,js[i]? = some (some j)/\ρ[j]? = some (some u):=by
 unfold iJ at h;rw[Yq] at h;cases e:js[i]? with
 |none=>rw[e] at h;cases h
 |some o=>
  rw[e] at h;cases o with
  |none=>cases h
  |some j=>
   refine⟨j,rfl,?_⟩;have h:=Yl h;dsimp only at h;split at h
   ·rename_i v hv;rw[hv,h]
   ·cases h
def oD (h:js[i]? = some (some j))(hv:σ[j]? = some (some v)):(vS js σ)[i]? = some (some v):=by
 unfold vS;rw[Yq,h];dsimp only[Option.map];rw[hv]
theorem tQ (h:js[i]? = some (some j)):(rO G js).is i=G.is j:=by
 grind[rO,Gm.is,ab2,Yq]
def Co (js:List (Option Nat))(ρ:Ev)(σ:St):(iJ js ρ).length=(vS js σ).length:=by
 unfold iJ vS;rw[XO,XO]
section
variable {ρi:Ev}
theorem Cp (q:dQ K G Z A ρ σ H)(ok:oB js=true):dQ K (rO G js) ⟨λ_=>False,λ_=>none,0⟩ A (iJ js ρ) (vS js σ) H where
 slot:=λi u h=>by
  obtain⟨j,h1,h2⟩:=oC h;obtain⟨v,h3,h4⟩:=q.slot j u h2;refine⟨v,oD h1 h3,?_⟩;rw[tQ h1];grind
 dis:=λi k u w a ci ck ne hi hk si sk=>by
  obtain⟨j,h1,h2⟩:=oC hi;obtain⟨j',IU,Pz⟩:=oC hk;rw[tQ h1] at ci;rw[tQ IU] at ck;obtain⟨b,e1,_⟩:=q.own ci h2;obtain⟨b',B5,_⟩:=q.own ck Pz;rw[oD h1 e1] at si;rw[oD IU B5] at sk;cases si;cases sk;exact q.dis j j' u w a ci ck (λz=>ne (by grind[tP])) h2 Pz e1 B5
 mu:=q.mu
 sup:=λ_ h=>h.elim
 out:=λ_ _=>.inr rfl
 bas:=λ_ _ h=>by cases h
 io0:=λh=>by cases h
 len:=Co js ρ σ
def JU (G:Gm)(js:List (Option Nat))(ρ:Ev)(σ:St)(a:Ye):Prop:=∃(i j:Nat) (u:U),js[i]? = some (some j)/\G.is j=true/\ρ[j]? = some (some u)/\σ[j]? = some (some (.ref a))
open Classical in
noncomputable def NV (G:Gm)(js:List (Option Nat))(A:Ye->Prop)(ρ:Ev)(σ:St)(H:Hp):Pkg:=⟨λa=>A a/\¬JU G js ρ σ a,λa=>if JU G js ρ σ a then none else H a,0⟩
theorem tR (h:JU G js ρ σ a):(NV G js A ρ σ H).B a=none:=by
 simp_all[NV,hZ]
theorem oE (h:¬JU G js ρ σ a):(NV G js A ρ σ H).B a=H a:=by
 simp_all[NV,hV]
theorem NW (q:dQ K G Z A ρ σ H)(ok:oB js=true):dQ K (rO G js) (NV G js A ρ σ H) A (iJ js ρ) (vS js σ) H where
 slot:=λi u h=>by
  obtain⟨j,h1,h2⟩:=oC h;obtain⟨v,h3,h4⟩:=q.slot j u h2;refine⟨v,oD h1 h3,?_⟩;rw[tQ h1];by_cases c:G.is j=true
  ·rw[hZ c] at h4 ⊢;obtain⟨a,e1,e2,_,_,e5⟩:=h4;subst e1;have cp:JU G js ρ σ a:=⟨i,j,u,h1,c,h2,h3⟩;exact⟨a,rfl,e2,tR cp,.inl λz=>z.2 cp,e5⟩
  ·rw[hV c] at h4 ⊢;exact h4
 dis:=(Cp q ok).dis
 mu:=q.mu
 sup:=λ_ h=>h.1
 out:=λa h=>by
  by_cases c:JU G js ρ σ a
  ·exact .inr (tR c)
  ·exact .inl ⟨h,c⟩
 bas:=λa o h=>by
  grind[JU,tR,oE]
 io0:=λh=>by cases h
 len:=Co js ρ σ
noncomputable def lj:List (Option Nat)->Nat->Option Nat
 | [],_=>none
 |o::r,j=>if o=some j then some 0 else (lj r j).map (·+1)
theorem vX:∀{js:List (Option Nat)} {i j:Nat},lj js j=some i->js[i]? = some (some j)
 | [],_,_,h=>by cases h
 |o::r,i,j,h=>by
  unfold lj at h;split at h
  ·rename_i e;cases h;rw[e];rfl
  ·cases e:lj r j with
   |none=>rw[e] at h;cases h
   |some k=>
    rw[e] at h;cases h;rw[Zj];exact vX e
theorem tT:∀{js:List (Option Nat)} {i j:Nat},lj js j=none->js[i]? ≠ some (some j)
 | [],_,_,_=>by simp
 |o::r,i,j,h=>by
  unfold lj at h;split at h
  ·cases h
  ·rename_i ne;cases e:lj r j with
   |some k=>rw[e] at h;cases h
   |none=>
    cases i with
    |zero=>intro z;exact ne (Yl z)
    |succ i=>rw[Zj];exact tT e
noncomputable def wb (G:Gm)(js:List (Option Nat))(ρi ρ:Ev):Ev:=ρ.mapIdx λj x=>if (G.is j&&x.isSome)=true then (match lj js j with
 |some i=>(ρi[i]?).getD none
 |none=>x) else x
theorem Br (h:(wb G js ρi ρ)[j]? = some (some u)):∃u0,ρ[j]? = some (some u0)/\((G.is j=true/\∃i,lj js j=some i/\ρi[i]? = some (some u))\/(u0=u/\(G.is j=false\/lj js j=none))):=by
 unfold wb at h;rw[List.getElem?_mapIdx] at h;cases e:ρ[j]? with
 |none=>rw[e] at h;cases h
 |some x=>
  rw[e] at h;have h:=Yl h;cases x with
  |none=>simp at h
  |some u0=>
   grind
theorem dQ.wb {σ4:St}(q:dQ K G Z A ρ σ H)(ok:oB js=true)(q':dQ K (rO G js) (NV G js A ρ σ H) A ρi σ4 H')(ho:∀i,(rO G js).is i=true->σ4[i]? = (vS js σ)[i]?):dQ K G Z A (L2.wb G js ρi ρ) σ H'/\fQ A H H':=by
 have RD:∀a,JU G js ρ σ a->A a/\Z.B a=none:=λa h00=>by
  obtain⟨i,j,u,h1,h2,h3,h4⟩:=h00;obtain⟨b,e1,e2,e3,_⟩:=q.own h2 h3;lia
 have ex:fQ A H H':=λb o nb z=>q'.bas b o (by grind[oE]);refine⟨{
  slot:=λj u h=>?_
  dis:=λi k u w a ci ck ne hi hk si sk=>by
   obtain⟨u1,h1,_⟩:=Br hi;obtain⟨u2,h2,_⟩:=Br hk;exact q.dis i k u1 u2 a ci ck ne h1 h2 si sk
  mu:=q'.mu
  sup:=q.sup
  out:=q.out
  bas:=λa o h=>q'.bas a o (by
   rw[oE λc=>by grind];exact q.bas a o h)
  io0:=q.io0
  len:=by unfold L2.wb;rw[List.length_mapIdx];exact q.len},ex⟩
 obtain⟨u0,h0,hh⟩:=Br h;rcases hh with⟨c,i,hi,hu⟩|⟨rfl,hc⟩
 ·have hj:=vX hi;obtain⟨a,e1,e2,e3,e4,_⟩:=q.own c h0;have ci:(rO G js).is i=true:=by rw[tQ hj];exact c
  obtain⟨a',k1,k2,_,_,k5⟩:=q'.own ci hu;rw[ho i ci,oD hj e1] at k1;cases k1;refine⟨.ref a,e1,?_⟩;rw[hZ c];exact⟨a,rfl,e2,e3,e4,k5⟩
 ·obtain⟨v,h1,h2⟩:=q.slot j u0 h0;refine⟨v,h1,?_⟩;by_cases c:G.is j=true
  ·rw[hZ c] at h2 ⊢;obtain⟨a,rfl,e2,e3,e4,e5⟩:=h2;have hc:lj js j=none:=by
    lia
   have nc:¬JU G js ρ σ a:=λh00=>by
    obtain⟨i,j',u,z1,z2,z3,z4⟩:=h00;have ne:j≠j':=λz=>by grind[tT]
    exact q.dis j j' u0 u a c z2 ne h0 z3 h1 z4
   exact⟨a,rfl,e2,e3,e4,e5.re q.mu ex (λb z=>.inl z) λo z=>q'.bas a o (by rw[oE nc];exact z)⟩
  ·rw[hV c] at h2 ⊢;exact h2.re q.mu ex λb z=>.inl z
end
noncomputable def lq (f:U->R (Option U)):List U->R (List U)
 | []=>.ok []
 |u::us=>(f u).bind λo=>(lq f us).bind λr=>.ok (match o with
  |some y=>y::r
  |none=>r)
noncomputable def og (js:List (Option Nat))(sg:U->Ev->R Ev)(gt:Ev->R (Bool×Ev))(ge:Ev->R (U×Ev))(ρ:Ev)(u:U):R (Option U):=
 (sg u (iJ js ρ)).bind λρi=>(gt ρi).bind λc=>if c.1=true then (ge ρi).bind λy=>.ok (some y.1) else .ok none
noncomputable def eh (gi:Ev->R (List U×Ev))(js:List (Option Nat))(sg:U->Ev->R Ev)(gt:Ev->R (Bool×Ev))(ge:Ev->R (U×Ev)):Ev->R (U×Ev):=λρ=>
 (gi ρ).bind λx=>(lq (og js sg gt ge x.2) x.1).bind λys=>.ok (.lst ys,x.2)
noncomputable def mK (G:Gm)(js:List (Option Nat))(sg:U->Ev->R Ev)(gt:Ev->R (Bool×Ev))(ge:Ev->R (U×Ev)):List U->Ev->R (List U×Ev)
 | [],ρ=>.ok ([],ρ)
 |u::us,ρ=>(sg u (iJ js ρ)).bind λρi=>(gt ρi).bind λc=>if c.1=true then (ge c.2).bind λy=>(mK G js sg gt ge us (wb G js y.2 ρ)).bind λr=>.ok (y.1::r.1,r.2) else mK G js sg gt ge us (wb G js c.2 ρ)
noncomputable def rP (G:Gm)(gi:Ev->R (List U×Ev))(js:List (Option Nat))(sg:U->Ev->R Ev)(gt:Ev->R (Bool×Ev))(ge:Ev->R (U×Ev)):Ev->R (U×Ev):=λρ=>
 (gi ρ).bind λx=>(mK G js sg gt ge x.1 x.2).bind λy=>.ok (.lst y.1,y.2)
theorem R.bind_ok {α β:Type}{x:R α}{k:α->R β}{b:β}(h:x.bind k=.ok b):∃a,x=.ok a/\k a=.ok b:=by
 cases x with
 |ok a=>exact⟨a,rfl,h⟩
 |exc=>cases h
 |stk=>cases h
section
variable {e:aaj}{pos:Pos}{b1 b2 b3 p:Bool}{m me:Md}{gi:Ev->R (List U×Ev)}{gt:Ev->R (Bool×Ev)}{ge:Ev->R (U×Ev)}
theorem yW (ok:oB js=true)(hn:me≠.P){Q:VK}(h:tD X.K G b1 .O (eh gi js sg gt ge) σ H Q) :
  RY (Th X.K G b1 p gi) js (λ_=>Te X.K (rO G js) sg) (λ_=>EW X.K (rO G js) false gt) (λ_=>tD X.K (rO G js) false me ge) σ H Q:=by
 obtain⟨Z,A,ρ,q,f⟩:=h;obtain⟨⟨us,ρ1⟩,e1,f⟩:=f.bind;obtain⟨all,e2,f⟩:=f.bind;refine⟨Z,A,ρ,q,?_⟩;rw[e1];intro J H1 q1 x1 s1 ⟨hz,wk⟩ Y;dsimp only at e2 f;refine⟨λi k ys H2=>i+k=us.length/\aX H1 H2/\∃done rest,lq (og js sg gt ge ρ1) (us.drop i)=.ok rest/\done++rest=all/\aU X.K H2 A done ys/\done.length<=i,
  ⟨us.length,(by lia),aX.refl _,[],all,by grind,rfl,aU.nil,X6 _⟩,?_⟩
 rintro i k ys H2 ⟨hk,sm,done,rest,e3,e4,rs,hd⟩;have q2:=q1.same sm;obtain⟨w1,w2⟩:=wk H2 A (by grind[fQ.same]) λb z=>.inl z;by_cases yt:i<us.length
 ·have eu:us[i]? = some us[i]:=XN yt;obtain⟨go,yl⟩:=w1 i _ eu;rw[ZC yt] at e3;unfold lq at e3;obtain⟨o,e5,e3⟩:=R.bind_ok e3;obtain⟨r,e6,e3⟩:=R.bind_ok e3;unfold og at e5;obtain⟨ρi,e7,e5⟩:=R.bind_ok e5;obtain⟨⟨c,ρc⟩,e8,e5⟩:=R.bind_ok e5;refine .inr ⟨go,by rw[←rs.length];lia,λMV H'=>aX H1 H'/\∃done,done++r=all/\aU X.K H' A done MV/\done.length<=i+1,λMV H' ⟨z1,dn,z2,z3,z4⟩=>⟨k-1,(by lia),(by lia),z1,dn,r,e6,z2,z3,z4⟩,λx H3 y=>?_⟩;obtain⟨sm3,rp⟩:=yl x H3 y;refine⟨_,A,iJ js ρ1,us[i],(Cp (q2.same sm3) ok),rp,?_⟩;rw[e7];intro σ4 q4 _;refine⟨_,A,ρi,q4,?_⟩;rw[e8];intro H5 q5 x5 s5;obtain⟨rfl,sm5⟩:=s5 rfl;cases c with
  |false=>
   rw[hV XR] at e5 ⊢;cases e5;cases e3;exact⟨(sm.trans sm3).trans sm5,done,e4,(rs.same sm3).same sm5,(by lia)⟩
  |true=>
   rw[hZ rfl] at e5 ⊢;obtain⟨⟨y1,ρy⟩,e9,e5⟩:=R.bind_ok e5;cases e5;cases e3;refine⟨_,A,ρc,q5,?_⟩;rw[e9];intro v H6 q6 x6 s6 vm;obtain⟨rfl,sm6⟩:=s6 rfl;have Vg:=sm3.trans (sm5.trans sm6);exact⟨sm.trans Vg,done++[y1],by rw[Yi];exact e4,(rs.same Vg).append (aU.cons (vm.rp hn) aU.nil),by rw[XW];simp;lia⟩
 ·have e:i=us.length:=(by lia)
  subst e;rw[abD] at e3;cases e3;rw[Yu] at e4;subst e4;refine .inl ⟨w2,λa na=>?_⟩;have sn:=dI na (.lst ys);exact f _ _ (q2.same sn) ((x1.trans (fQ.same sm)).trans (fQ.same sn)) (p7 (p7 s1 sm) sn) (FH.e q2 sn ⟨a,rfl,na,c9 q2.mu rs na (by lia)⟩)
theorem yX (ok:oB js=true)(hn:me≠.P){Q:VK}(h:tD X.K G true .O (rP G gi js sg gt ge) σ H Q) :
  RY (Th X.K G b1 false gi) js (λ_=>Te X.K (rO G js) sg) (λ_=>EW X.K (rO G js) b2 gt) (λ_=>tD X.K (rO G js) b3 me ge) σ H Q:=by
 obtain⟨Z,A,ρ,q,f⟩:=h;obtain⟨⟨us,ρ1⟩,e1,f⟩:=f.bind;obtain⟨⟨all,ρe⟩,e2,f⟩:=f.bind;refine⟨Z,A,ρ,q,?_⟩;rw[e1];intro J H1 q1 x1 s1 ⟨hz,wk⟩ Y;dsimp only at e2 f;refine⟨λi k ys H2=>i+k=us.length/\fQ A H1 H2/\∃ρ2 done rest,dQ X.K G Z A ρ2 σ H2/\mK G js sg gt ge (us.drop i) ρ2=.ok (rest,ρe)/\done++rest=all/\aU X.K H2 A done ys/\done.length<=i,
  ⟨us.length,(by lia),fQ.refl,ρ1,[],all,q1,by grind,rfl,aU.nil,X6 _⟩,?_⟩
 rintro i k ys H2 ⟨hk,ex,ρ2,done,rest,q2,e3,e4,rs,hd⟩;obtain⟨w1,w2⟩:=wk H2 A (by lia) λb z=>.inl z;by_cases yt:i<us.length
 ·have eu:us[i]? = some us[i]:=XN yt;obtain⟨go,yl⟩:=w1 i _ eu;rw[ZC yt] at e3;unfold mK at e3;obtain⟨ρi,e7,e3⟩:=R.bind_ok e3;obtain⟨⟨c,ρc⟩,e8,e3⟩:=R.bind_ok e3;refine .inr ⟨go,by rw[←rs.length];lia,λMV H'=>fQ A H1 H'/\∃ρ2 done rest,dQ X.K G Z A ρ2 σ H'/\mK G js sg gt ge (us.drop (i+1)) ρ2=.ok (rest,ρe)/\done++rest=all/\aU X.K H' A done MV/\done.length<=i+1,λMV H' z=>⟨k-1,(by lia),(by lia),z⟩,λx H3 y=>?_⟩;obtain⟨sm3,rp⟩:=yl x H3 y;have q3:=q2.same sm3;refine⟨NV G js A ρ2 σ H3,A,iJ js ρ2,us[i],NW q3 ok,rp,?_⟩;rw[e7];intro σ4 q4 o4;refine⟨_,A,ρi,q4,?_⟩;rw[e8];intro H5 q5 x5 s5;dsimp only at e3;cases c with
  |false=>
   rw[hV XR] at e3 ⊢;obtain⟨q6,x6⟩:=q3.wb ok q5 o4;exact⟨ex.trans ((fQ.same sm3).trans x6),_,done,rest,q6,e3,e4,(rs.same sm3).re q3.mu x6 (λb z=>.inl z),(by lia)⟩
  |true=>
   rw[hZ rfl] at e3 ⊢;obtain⟨⟨y1,ρy⟩,e9,e3⟩:=R.bind_ok e3;obtain⟨⟨r,ρr⟩,e10,e3⟩:=R.bind_ok e3;cases e3;refine⟨_,A,ρc,q5,?_⟩;rw[e9];intro v H6 q6 x6 s6 vm;obtain⟨q7,x7⟩:=q3.wb ok q6 o4;exact⟨ex.trans ((fQ.same sm3).trans x7),_,done++[y1],r,q7,e10,by rw[Yi];exact e4,((rs.same sm3).re q3.mu x7 (λb z=>.inl z)).append (aU.cons (vm.rp hn) aU.nil),by rw[XW];simp;lia⟩
 ·have e:i=us.length:=(by lia)
  subst e;rw[abD] at e3;cases e3;rw[Yu] at e4;subst e4;refine .inl ⟨w2,λa na=>?_⟩;have sn:=dI na (.lst ys);exact f _ _ (q2.same sn) ((x1.trans ex).trans (fQ.same sn)) (λz=>nomatch z) (FH.e q2 sn ⟨a,rfl,na,c9 q2.mu rs na (by lia)⟩)
structure Ec (X:Cx)(G:Gm)(rH:List aaj)(b:Bool)(h:Ev->R (Bool×Ev)):Prop where
 un:D8 X rH (EW X.K G b h)
noncomputable def bY:Ev->R (Bool×Ev):=λρ=>.ok (true,ρ)
def bz:Ec X G [] false bY:=⟨λpins s σ H Q I ⟨Z,A,ρ,q,f⟩=>Fv pins s σ H Q I (f H q fQ.refl λ_=>⟨rfl,aX.refl _⟩)⟩
def tU {h:Ev->R (Bool×Ev)}(hc:DT X G e b1 h):Ec X G [e] b1 h:=⟨Fw hc.un⟩
def fm (kO:acY)(NX N:List Str)(js:List (Option Nat))(hc:X.calm=true)(hi:DI X G tg iter b1 p gi)(rJ:∀Y:rN,DG (eo X scope N Y) (rO G js) tg sg/\Ec (eo X scope N Y) (rO G js) rH false gt/\DE (eo X scope N Y) (rO G js) elt false me ge)(hn:me≠.P:=by decide)(ok:oB js=true:=by rfl)(kT:X.env.scope=kO:=by rfl)(IF:X.N=NX:=by rfl)(hS:tv kO NX scope N js=true:=by decide+kernel)(hs:∀x,ZO iter X.env x=pure x:=by intro _;rfl):DE X G (.ListComp elt [⟨tg,iter,rH,0⟩] scope pos) b1 .O (eh gi js sg gt ge):=⟨(Lv kO NX N js hc hi.un (λY=>⟨(rJ Y).1.un,(rJ Y).2.1.un,(rJ Y).2.2.un⟩) kT IF hS hs).to λ_ _ _=>yW ok hn⟩
def p_ (kO:acY)(NX N:List Str)(js:List (Option Nat))(hc:X.calm=true)(hi:DI X G tg iter b1 false gi)(rJ:∀Y:rN,DG (eo X scope N Y) (rO G js) tg sg/\Ec (eo X scope N Y) (rO G js) rH b2 gt/\DE (eo X scope N Y) (rO G js) elt b3 me ge)(hn:me≠.P:=by decide)(ok:oB js=true:=by rfl)(kT:X.env.scope=kO:=by rfl)(IF:X.N=NX:=by rfl)(hS:tv kO NX scope N js=true:=by decide+kernel)(hs:∀x,ZO iter X.env x=pure x:=by intro _;rfl):DE X G (.ListComp elt [⟨tg,iter,rH,0⟩] scope pos) true .O (rP G gi js sg gt ge):=⟨(Lv kO NX N js hc hi.un (λY=>⟨(rJ Y).1.un,(rJ Y).2.1.un,(rJ Y).2.2.un⟩) kT IF hS hs).to λ_ _ _=>yX ok hn⟩
variable {pM pN:Pos}
def iX (kO:acY)(NX N:List Str)(js:List (Option Nat))(hN:X.N.Nodup)(hc:X.calm=true)(hi:DI X G tg iter b1 p gi)(rJ:∀Y:rN,DG (eo X scope N Y) (rO G js) tg sg/\Ec (eo X scope N Y) (rO G js) rH false gt/\DE (eo X scope N Y) (rO G js) elt false me ge)(hx:X.N[i]? = some x:=by rfl)(hl:E2 X.env.scope x:=by first|exact Or.inl rfl|exact Or.inr rfl)(c:G.is i=false:=by rfl)(hn:me≠.P:=by decide)(ok:oB js=true:=by rfl)(kT:X.env.scope=kO:=by rfl)(IF:X.N=NX:=by rfl)(hS:tv kO NX scope N js=true:=by decide+kernel)(hw:acw (.ListComp elt [⟨tg,iter,rH,0⟩] scope pN) (some (.Name x pM)) pos.line X.env=pure true:=by rfl)(hf:X.fn x=true\/X.env.scope.names.lookup x=some .local:=by first|exact .inl rfl|exact .inr rfl|assumption)(hs:∀x,ZO iter X.env x=pure x:=by intro _;rfl):DS X G m (.Assign [.Name x pM] (.ListComp elt [⟨tg,iter,rH,0⟩] scope pN) pos) (a9 i (eh gi js sg gt ge)):=⟨(yK kO NX N js hN hx hl hc hi.un (λY=>⟨(rJ Y).1.un,(rJ Y).2.1.un,(rJ Y).2.2.un⟩) kT IF hS hw hf hs).to λ_ _ _=>tN (b1:=b1) c (by decide) λ_ _ _=>yW ok hn⟩
def vY (kO:acY)(NX N:List Str)(js:List (Option Nat))(hN:X.N.Nodup)(hc:X.calm=true)(hi:DI X G tg iter b1 false gi)(rJ:∀Y:rN,DG (eo X scope N Y) (rO G js) tg sg/\Ec (eo X scope N Y) (rO G js) rH b2 gt/\DE (eo X scope N Y) (rO G js) elt b3 me ge)(hx:X.N[i]? = some x:=by rfl)(hl:E2 X.env.scope x:=by first|exact Or.inl rfl|exact Or.inr rfl)(c:G.is i=false:=by rfl)(hn:me≠.P:=by decide)(ok:oB js=true:=by rfl)(kT:X.env.scope=kO:=by rfl)(IF:X.N=NX:=by rfl)(hS:tv kO NX scope N js=true:=by decide+kernel)(hw:acw (.ListComp elt [⟨tg,iter,rH,0⟩] scope pN) (some (.Name x pM)) pos.line X.env=pure true:=by rfl)(hf:X.fn x=true\/X.env.scope.names.lookup x=some .local:=by first|exact .inl rfl|exact .inr rfl|assumption)(hs:∀x,ZO iter X.env x=pure x:=by intro _;rfl):DS X G m (.Assign [.Name x pM] (.ListComp elt [⟨tg,iter,rH,0⟩] scope pN) pos) (a9 i (rP G gi js sg gt ge)):=⟨(yK kO NX N js hN hx hl hc hi.un (λY=>⟨(rJ Y).1.un,(rJ Y).2.1.un,(rJ Y).2.2.un⟩) kT IF hS hw hf hs).to λ_ _ _=>tN (b1:=true) c (by decide) λ_ _ _=>yX (b1:=b1) (b2:=b2) (b3:=b3) ok hn⟩
end
end L2
namespace L2
noncomputable def bx (n:Nat)(us:List U):Ev:=us.map some++List.replicate (n-us.length) none
noncomputable def dq (m:Md)(n:Nat)(s:Ev->SR):List U->R U:=λus=>match s (bx n us) with
 | .rt u _=>.ok u
 | .nx _=>if m=.S then .ok .non else .stk
 | .exc c u=>.exc c u
 |_=>.stk
noncomputable def iu (n:Nat)(s:Ev->SR):List U->R (U×U):=λus=>match s (bx n us) with
 | .rt u ρ=>match ρ[0]? with
  |some (some w)=>.ok (u,w)
  |_=>.stk
 | .nx ρ=>match ρ[0]? with
  |some (some w)=>.ok (.non,w)
  |_=>.stk
 | .exc c u=>.exc c u
 |_=>.stk
theorem kr (h:(bx n us)[i]? = some (some u)):us[i]? = some u:=by
 unfold bx at h;by_cases c:i<(us.map some).length
 ·rw[Y7 c,Yq] at h;cases e:us[i]? with
  |none=>rw[e] at h;cases h
  |some w=>rw[e] at h;simp at h;rw[h]
 ·rw[Y3 (by lia),abY] at h;split at h
  ·cases h
  ·cases h
def j_ (h:vs[i]? = some v):(abc N vs)[i]? = some (some v):=by
 unfold abc;have c:i<(vs.map some).length:=by rw[XO];exact (X3.mp h).1
 rw[Y7 c,Yq,h];rfl
def xi (h:us.length=vs.length):(bx N.length us).length=(abc N vs).length:=by
 unfold bx abc;rw[XW,XW,XO,XO,abj,abj,h]
section
variable {w:Y6}{base:Z9}
theorem tV (G:Gm)(m:Md)(s:Ev->SR)(DJ:G.io=false)(lT:∀i,i<ps.length->G.is i=false)(gf:∀(f:Ye) (bQ:XY) (A:YG) (outer:List Env) (s0:Ya) (H:Hp) (E:XK),eV k (A.deeper (aae x (aq st) s0.heap.objs.size f bQ))->
   Bp (jC vR P w K mg base N x (aq st) f bQ A outer s0 H E).nox G m (cJ st) s) :
  (∀vs H Q E,jG K ps.length (dq m N.length s) m vs H Q E->vs.length=ps.length)/\∀(f:Ye) (bQ:XY) (A:YG) (outer:List Env) (s0:Ya) (H:Hp) (vs:List V) (Q:VK) (E:XK),eV k (A.deeper (aae x (aq st) s0.heap.objs.size f bQ))->jG K ps.length (dq m N.length s) m vs H Q E->
   ∃t,sU (jC vR P w K mg base N x (aq st) f bQ A outer s0 H E).nox (cJ st) t/\t {nx:=λ_ H'=>Q .non H',rt:=Q} (abc N vs) H:=by
 have hl:∀(us:List U) (A:Ye->Prop) (H:Hp) (Q:VK),JR K m A H (yE ps.length (dq m N.length s) us) Q->us.length=ps.length:=λus A H Q h=>by
  unfold yE at h;split at h
  ·lia
  ·exact h.elim
 refine⟨λvs H Q E ⟨us,A,r,_,h⟩=>by rw[←r.length];grind,λf bQ A outer s0 H vs Q E hr ⟨us,A0,r,mu,h⟩=>⟨_,(gf f bQ A outer s0 H E hr).un,?_⟩⟩;have l:=hl us A0 H Q h;unfold yE at h;rw[hZ l] at h;refine⟨⟨A0,H,0⟩,A0,bx N.length us,?_,?_⟩
 ·exact {
   slot:=λi u hu=>by
    have hu:=kr hu;obtain⟨v,h1,h2⟩:=r.get hu;refine⟨v,j_ h1,?_⟩;rw[hV (by grind)];exact h2
   dis:=λi j u w a ci cj ne hi hj si sj=>by
    rw[lT i (by rw[←l];exact (X3.mp (kr hi)).1)] at ci;cases ci
   mu:=mu
   sup:=λa h=>h
   out:=λa h=>.inl h
   bas:=λa o h=>h
   io0:=λh=>by lia
   len:=xi r.length}
 ·unfold dq at h;cases e:s (bx N.length us) with
  |nx ρ'=>
   rw[e] at h;dsimp only at h;intro A' σ' H' q;split at h
   ·rename_i hm;subst hm;exact h _ H' q.bas (show Rp K H' A0 .non .non from tH)
   ·exact h.elim
  |rt u ρ'=>
   rw[e] at h;intro A' σ' H' v q vm;refine h v H' q.bas ?_;cases m with
   |S=>exact vm
   |P=>exact vm.elim
   |O=>
    obtain⟨a,e1,e2,e3,e4⟩:=vm;exact⟨a,e1,e2,e4⟩
  |bk=>rw[e] at h;exact h.elim
  |ct=>rw[e] at h;exact h.elim
  |exc=>rw[e] at h;exact h.elim
  |stk=>rw[e] at h;exact h.elim
def Df.fnD (G:Gm)(m:Md)(s:Ev->SR)(d:Df K mg x st)(S:aW N ps (aq st))(hb:∀(kV kX pm:XY) (an:Option Ye) (bQ ct:XY) (us:List XY),us.length=ps.length->bindArgs (Zu x x (ff st) (cJ st) (aq st) .none kV kX pm an bQ ct) ⟨us,[]⟩=pure (ps.zip us))(DJ:G.io=false)(lT:∀i,i<ps.length->G.is i=false)(gf:∀(f:Ye) (bQ:XY) (A:YG) (outer:List Env) (s0:Ya) (H:Hp) (E:XK),eV k (A.deeper (aae x (aq st) s0.heap.objs.size f bQ))->
   Bp (jC vR P w K mg base N x (aq st) f bQ A outer s0 H E).nox G m (cJ st) s):Fn P w K mg base x (k+1) ps (jG K ps.length (dq m N.length s) m):=
 d.fn S hb (tV G m s DJ lT gf).1 (tV G m s DJ lT gf).2
theorem Jc.okD (G:Gm)(m:Md)(s:Ev->SR)(F:Jc K x x st f fd)(S:aW N ps (aq st))(DJ:G.io=false)(lT:∀i,i<ps.length->G.is i=false)(gf:∀(f:Ye) (bQ:XY) (A:YG) (outer:List Env) (s0:Ya) (H:Hp) (E:XK),eV k (A.deeper (aae x (aq st) s0.heap.objs.size f bQ))->
   Bp (jC vR P w K mg base N x (aq st) f bQ A outer s0 H E).nox G m (cJ st) s):j3 P w K mg base vR (k+1) f fd ps (jG K ps.length (dq m N.length s) m):=
 F.ok S (tV G m s DJ lT gf).1 ((tV G m s DJ lT gf).2 f)
def yY (K:XX):Sp:=λvs H Q _=>∃(a:Ye) (ns:List Int),vs=[.ref a]/\JI K H a (ns.map V.int)/\ns.length<=63/\∀H',Q (.bl true) H'
theorem NY (hO:JE H)(h:fS K H a xs):JI K H a xs:=by
 rcases h with (h|h)|h
 ·rcases hO a with z|⟨o,ys,z⟩
  ·lia
  lia
 ·exact .inl h
 ·exact .inr h
theorem yZ {H:Hp}{A:Ye->Prop}:∀(ns:List Int),aU K H A (ns.map .int) (ns.map V.int)
 | []=>aU.nil
 |n::ns=>aU.cons eR (yZ ns)
theorem NZ {f:List U->R U}{fa:Ye}(F:j3 P w K mg base vR k fa fd ["script"] (jG K 1 f .S))(h:∀ns:List Int,ns.length<=63->f [.scr (ns.map .int)]=.ok (.bl true)):j3 P w K mg base vR k fa fd ["script"] (yY K):=by
 refine F.imp λvs H Q E ⟨a,ns,e,sc,l,q⟩=>?_;subst e;have hl:(ns.map U.int).length<=XU:=by rw[XO];have:XU=16777216:=rfl;lia
 refine⟨[.scr (ns.map .int)],λ_=>False,aU.cons ?_ aU.nil,λ_ h=>h.elim,?_⟩
 ·unfold Rp;exact⟨a,_,rfl,sc,hl,yZ ns⟩
 ·have e:yE 1 f [.scr (ns.map .int)]=.ok (.bl true):=(hZ rfl).trans (h ns l);rw[e];intro v H' sm vm;have vm:Rp K H' (λ_=>False) (.bl true) v:=vm;grind[Rp]
theorem Df.fnI (G:Gm)(s:Ev->SR)(d:Df K mg x st)(S:aW N ps (aq st))(hb:∀(kV kX pm:XY) (an:Option Ye) (bQ ct:XY) (us:List XY),us.length=ps.length->bindArgs (Zu x x (ff st) (cJ st) (aq st) .none kV kX pm an bQ ct) ⟨us,[]⟩=pure (ps.zip us))(DJ:G.io=true)(h0:G.is 0=true)(lT:∀i,i<ps.length->i≠0->G.is i=false)(gf:∀(f:Ye) (bQ:XY) (A:YG) (outer:List Env) (s0:Ya) (H:Hp) (E:XK),eV k (A.deeper (aae x (aq st) s0.heap.objs.size f bQ))->
   Bp (jC vR P w K mg base N x (aq st) f bQ A outer s0 H E).nox G .S (cJ st) s):Fn P w K mg base x (k+1) ps (k_ K ps.length (iu N.length s)):=by
 refine d.fn S hb ?_ ?_
 ·rintro vs H Q E ⟨u0,us,a0,vs',A,rfl,_,_,r,_,h⟩;unfold yE at h;split at h
  ·rename_i e;split at e
   ·rename_i l;rw[X1,←r.length,←l];rfl
   lia
  lia
 ·rintro f bQ A outer s0 H vs Q E hr ⟨u0,us,a0,vs',A0,rfl,ha,t0,r,mu,h⟩;refine⟨_,(gf f bQ A outer s0 H E hr).un,?_⟩;have l:(u0::us).length=ps.length:=by
   unfold yE at h;lia
  unfold yE at h;rw[hZ l] at h
  let Z:Pkg:=⟨A0,λb=>if b=a0 then none else H b,a0⟩
  have zb:∀b o,b≠a0->H b=some o->Z.B b=some o:=λb o nb z=>by
   lia
  have rel:dQ K G Z A0 (bx N.length (u0::us)) (abc N (.ref a0::vs')) H:={
   slot:=λi u hu=>by
    have hu:=kr hu;cases i with
    |zero=>
     simp at hu;subst hu;refine⟨.ref a0,j_ (by simp),?_⟩;lia
    |succ i=>
     have hl:=(X3.mp hu).1;rw[Zj] at hu;obtain⟨v,h1,h2⟩:=r.get hu;simp_all[j_,Zj,hV,XR]
   dis:=λi j u w a ci cj ne hi hj si sj=>by
    have hi:=(X3.mp (kr hi)).1;have hj:=(X3.mp (kr hj)).1;grind
   mu:=mu
   sup:=λa h=>h
   out:=λa h=>.inl h
   bas:=λa o h=>by
    lia
   io0:=λ_=>⟨j_ (vs:=.ref a0::vs') (i:=0) (v:=.ref a0) rfl,h0⟩
   len:=xi (by rw[X1,X1,r.length])}
  have fin:∀(A':Ye->Prop) (ρ':Ev) (σ':St) (H':Hp) (w:U),dQ K G Z A' ρ' σ' H'->ρ'[0]? = some (some w)->(∀b o,b≠a0->H b=some o->H' b=some o)/\mJ K H' A0 w a0:=λA' ρ' σ' H' w q hw=>by
   obtain⟨a,e1,e2,e3,e4,e5⟩:=q.own h0 hw;rw[(q.io0 DJ).1] at e1;cases e1;exact⟨λb o nb z=>q.bas b o (zb b o nb z),e5.mono q.sup⟩
  refine⟨Z,A0,_,rel,?_⟩;unfold iu at h;cases e:s (bx N.length (u0::us)) with
  |nx ρ'=>
   rw[e] at h;dsimp only at h;intro A' σ' H' q;split at h
   ·rename_i hm;split at hm
    ·rename_i w hw;cases hm;obtain⟨z1,z2⟩:=fin A' ρ' σ' H' _ q hw;exact h _ H' z1 z2 tH
    lia
   lia
  |rt u ρ'=>
   rw[e] at h;dsimp only at h;intro A' σ' H' v q vm;split at h
   ·rename_i hm;split at hm
    ·rename_i w hw;cases hm;obtain⟨z1,z2⟩:=fin A' ρ' σ' H' _ q hw;exact h _ H' z1 z2 vm
    lia
   lia
  |bk=>rw[e] at h;exact h.elim
  |ct=>rw[e] at h;exact h.elim
  |exc=>rw[e] at h;exact h.elim
  |stk=>rw[e] at h;exact h.elim
end
section
variable {e e2:aaj}{pos p1:Pos}{y:Str}{b1 b2:Bool}{m m1 m2:Md}{g1 g2:Ev->R (U×Ev)}
noncomputable def y3 (i:Nat)(gv gk:Ev->R (U×Ev)):Ev->SR:=λρ=>SR.of (gv ρ) λx=>if live x.2 i=true then SR.of (gk x.2) λy=>match y.1 with
 | .int k=>match y.2[i]? with
  |some (some (.lst us))=>match Be us.length k with
   |some j=>.nx (y.2.set i (some (.lst (us.set j x.1))))
   |none=>.stk
  |_=>.stk
 |_=>.stk
 else .stk
theorem xj (he:DE X G e b1 m1 g1)(hk:DE X G e2 b2 m2 g2)(hn:m1≠.P:=by decide)(hN:X.N[i]? = some y:=by rfl)(hv:DR X.env.scope y:=by first|exact Or.inl rfl|exact Or.inr (Or.inl rfl)|exact Or.inr (Or.inr rfl))(c:G.is i=true:=by rfl)(hd:(y==("__debug__":Str))=false:=by decide)(kI:(y==("__classdict__":Str))=false:=by decide)(ha:∀v,assign (.Subscript (.Name y p1) e2 p2) X.env v=(do
   let ov ←adk [v] (abh (.Name y p1) X.env)
   let iv ←adk [v,ov] (abh e2 X.env)
   standAt p2
   adk [v,ov,iv] (setItem ov iv v)
   release [v,ov,iv] []):=by intro _;rfl)(hs:swapsWithSole [.Subscript (.Name y p1) e2 p2] e pos.line X.env=pure false:=by rfl)(hw:swappedStores [.Subscript (.Name y p1) e2 p2] e X.env=pure none:=by rfl)(h1:(aa1 [.Subscript (.Name y p1) e2 p2] X.env).map (·.2)=[assign (.Subscript (.Name y p1) e2 p2) X.env]:=by rfl):DS X G m (.Assign [.Subscript (.Name y p1) e2 p2] e pos) (y3 i g1 g2):=⟨(E6 he.un (Ni (i5 hN hv hd kI) hk.un Fm ha) hs hw h1).to λD σ H h00=>by
 obtain⟨Z,A,ρ,q,f⟩:=h00;obtain⟨⟨u,ρ1⟩,e1,f⟩:=f.of;refine⟨Z,A,ρ,q,?_⟩;rw[e1];intro v H1 q1 x1 s1 vm;dsimp only at f;split at f
 ·rename_i hl;obtain⟨u00,hu0⟩:=xg hl;obtain⟨a0,h0,_⟩:=q1.own c hu0;obtain⟨⟨k,ρ2⟩,e2,f⟩:=f.of;refine⟨.ref a0,h0,Z,A,ρ1,q1,?_⟩;rw[e2];intro v2 H2 q2 x2 s2 yu;dsimp only at f;cases k with
  |int kk=>
   dsimp only at f;split at f
   ·rename_i us hu;split at f
    ·rename_i j hj;obtain⟨a0',k1,k2,_,_,k5⟩:=q2.own c hu;rw[h0] at k1;cases k1;obtain⟨xs,t1,t2,t3⟩:=k5;refine⟨a0,xs,kk,j,rfl,yu.pk.int,t1,by rw[←t3.length];exact hj,?_⟩;have em:∀b o,b≠a0->H2 b=some o->dF H2 a0 (.lst (xs.set j v)) b=some o:=λb o nb z=>by rw[aS nb];exact z
     have ex:fQ A H2 (dF H2 a0 (.lst (xs.set j v))):=λb o nb z=>em b o (λy=>nb (y▸k2)) z;refine f A σ _ (q2.put c hu h0 em ⟨xs.set j v,aQ,by rw[Zw];exact t2,?_⟩);exact (t3.re q2.mu ex λb z=>.inl z).set j (((vm.rp hn).re q1.mu x2 λb z=>.inl z).re q2.mu ex λb z=>.inl z)
    ·exact f.elim
   ·exact f.elim
  |_=>exact f.elim
 ·exact f.elim⟩
noncomputable def Ti (i:Nat)(p:U->U->R U)(g:Ev->R (U×Ev)):Ev->SR:=λρ=>match ρ[i]? with
 |some (some u)=>SR.of (g ρ) λy=>SR.of (p u y.1) λz=>.nx (y.2.set i (some z))
 |_=>.stk
end
end L2
namespace L2
def FT:R2:=λx y H Q=>∃l b xs zs,x=.ref l/\y=.ref b/\H l=some (.lst xs)/\H b=some (.lst zs)/\xs.length+zs.length<=XU/\∀p,H p=none->Q (.ref p) (dF H p (.lst (xs++zs)))
theorem JV:l7 X (abi .Add) FT:=by
 intro pins s σ H x y v u Q I rx ry h;obtain⟨l,b,xs,zs,rfl,rfl,hH,hB,hz,q⟩:=h;cases rx;cases ry;obtain⟨z,aA,n,r,hl,e⟩:=I.lstM hH;obtain⟨z2,its2,n2,r2,IG,e2⟩:=I.lstM hB;refine PySem.P.add_list e e2 ?_ (by rw[XZ,XZ];lia);have ea:aA.toArray++its2.toArray=(aA++its2).toArray:=by simp
 rw[ea];exact⟨.ref _,_,I.lnew (t':=s.toks) (r.append r2) (by rw[XW];lia),rfl,q _ I.fresh⟩
noncomputable def di:U->U->R U:=λu w=>match u,w with
 | .int i,.int j=>.ok (.int (i+j))
 | .tup a,.tup b=>if a.length+b.length<=XU then .ok (.tup (a++b)) else .stk
 | .lst a,.lst b=>if a.length+b.length<=XU then .ok (.lst (a++b)) else .stk
 |_,_=>.stk
noncomputable def N0:U->U->R U:=λu w=>match u,w with
 | .lst a,.lst b=>if a.length+b.length<=XU then .ok (.lst (a++b)) else .stk
 |_,_=>.stk
def Lx:R2:=λx y H Q=>(DZ λi j=>.int (i+j)) x y H Q\/FE x y H Q\/FT x y H Q
def bU:l7 X (abi .Add) Lx:=Np.or (FF.or JV)
theorem JW:iH K FT .O N0:=λA H x y u w z Q hx hy mu e q=>by
 unfold N0 at e;split at e
 ·split at e
  ·rename_i hl;cases e;unfold Pk at hx hy;obtain⟨a,xs,rfl,h1,l1,r1⟩:=hx;obtain⟨b,ys,rfl,h2,l2,r2⟩:=hy;exact⟨a,b,xs,ys,rfl,rfl,h1,h2,by rw[←r1.length,←r2.length];exact hl,λp hp=>q _ _ (dI hp _) ⟨p,rfl,hp,c9 mu (r1.append r2) hp (by rw[XW];exact hl)⟩⟩
  lia
 lia
theorem bV:iH K Lx .S di:=λA H x y u w z Q hx hy mu e q=>by
 unfold di at e;split at e
 ·cases e;exact .inl ⟨_,_,hx.int,hy.int,q _ H (aX.refl _) (show Rp K H A _ _ from eR)⟩
 ·split at e
  ·rename_i hl;cases e;unfold Pk at hx hy;obtain⟨a,xs,rfl,h1,l1,r1⟩:=hx;obtain⟨b,ys,rfl,h2,l2,r2⟩:=hy;refine .inr (.inl ⟨a,b,xs,ys,rfl,rfl,h1,h2,by rw[←r1.length,←r2.length];exact hl,λr H' sm hr=>q _ H' sm (show Rp K H' A _ _ from ?_)⟩);unfold Rp;exact⟨r,_,rfl,hr,by rw[XW];exact hl,(r1.append r2).same sm⟩
  lia
 ·refine .inr (.inr (JW A H x y _ _ z Q hx hy mu (show N0 (.lst _) (.lst _)=_ from e) λv H' sm vm=>q v H' sm ?_));obtain⟨a,rfl,na,t⟩:=vm;exact t.rp (λb h=>.inl h) λh=>by have:=mu a h;rw[na] at this;exact this
 lia
noncomputable def pI (c:Int->Int->Bool)(f:Int->Int->Int):U->U->R U:=λu w=>match u,w with
 | .int i,.int j=>if c i j=true then .ok (.int (f i j)) else .stk
 |_,_=>.stk
theorem Cq {C:Int->Int->Prop}{c:Int->Int->Bool}{f:Int->Int->Int}(h:∀i j,c i j=true->C i j):iH K (rI C λi j=>.int (f i j)) .S (pI c f):=λA H x y u w z Q hx hy mu e q=>by
 unfold pI at e;split at e
 ·rename_i i j;split at e
  ·rename_i hc;cases e;exact⟨i,j,hx.int,hy.int,h i j hc,q _ H (aX.refl _) (show Rp K H A _ _ from eR)⟩
  lia
 lia
noncomputable def tW:U->U->R U:=λu w=>match u,w with
 | .int i,.int j=>.ok (.int (i-j))
 |_,_=>.stk
theorem l_:iH K (DZ λi j=>.int (i-j)) .S tW:=λA H x y u w z Q hx hy mu e q=>by
 unfold tW at e;split at e
 ·cases e;exact⟨_,_,hx.int,hy.int,q _ H (aX.refl _) (show Rp K H A _ _ from eR)⟩
 lia
noncomputable def oF (i j:Int):Bool:=(decide (-(2 ^ 64)<i)&&decide (i<2 ^ 64))||(decide (-(2 ^ 64)<j)&&decide (j<2 ^ 64))
noncomputable def mT:U->U->R U:=pI oF (·*·)
def jI:iH K (rI Jt λi j=>.int (i*j)) .S mT:=Cq λi j h=>by
 unfold oF at h;simp only[Bool.or_eq_true,YD,decide_eq_true_eq] at h;exact h
noncomputable def Bs (_ j:Int):Bool:=decide (0<j)&&decide (j<18446744073709551616)
noncomputable def y4:U->U->R U:=pI Bs (· / ·)
def tX:iH K (rI Fy λi j=>.int (i / j)) .S y4:=Cq λi j h=>by
 unfold Bs at h;simp only[YD,decide_eq_true_eq] at h;exact h
noncomputable def y6:U->U->R U:=pI (λ_ j=>decide (0<j)) (· % ·)
def ma:iH K (rI (λ_ j=>0<j) λi j=>.int (i % j)) .S y6:=Cq λi j h=>of_decide_eq_true h
noncomputable def JX (i j:Int):Bool:=decide (0<=j)&&decide (j<=1000000)&&decide (i.natAbs<2 ^ 64)
noncomputable def JY:U->U->R U:=pI JX λi j=>i ^ j.toNat
def Cr:iH K (rI P7 λi j=>.int (i ^ j.toNat)) .S JY:=Cq λi j h=>by
 unfold JX at h;simp only[YD,decide_eq_true_eq] at h;exact⟨h.1.1,h.1.2,h.2⟩
noncomputable def Tj:U->R U:=λu=>match u with
 | .int i=>.ok (.int (-i))
 |_=>.stk
noncomputable def pC (f:Int->Int->Bool):U->U->R U:=λu w=>match u,w with
 | .int i,.int j=>.ok (.bl (f i j))
 |_,_=>.stk
theorem FU {f:Int->Int->Bool}:iH K (DZ λi j=>.bl (f i j)) .S (pC f):=λA H x y u w z Q hx hy mu e q=>by
 unfold pC at e;split at e
 ·cases e;exact⟨_,_,hx.int,hy.int,q _ H (aX.refl _) (show Rp K H A _ _ from iC)⟩
 lia
noncomputable def JZ:U->U->R U:=pC λi j=>decide (i<j)
noncomputable def VU:U->U->R U:=pC λi j=>decide (i<=j)
noncomputable def Je:U->U->R U:=pC λi j=>decide (j<i)
noncomputable def Tn:U->U->R U:=pC λi j=>decide (j<=i)
mutual
noncomputable def toD:U->Option D
 | .non=>some .non
 | .bl b=>some (.bl b)
 | .int i=>some (.int i)
 | .str x=>some (.str x)
 | .tup us=>(eT us).map .tup
 | .lst us=>(eT us).map .lst
 | .dct _ _=>none
 | .scr _=>none
noncomputable def eT:List U->Option (List D)
 | []=>some []
 |u::us=>(toD u).bind λd=>(eT us).map λds=>d::ds
end
mutual
theorem Bt {H:Hp}{A:Ye->Prop}:∀{u:U} {v:V} {d:D},Rp K H A u v->toD u=some d->bS K H d v
 | .non,v,d,h,e=>by grind[toD,Rp,bS]
 | .bl b,v,d,h,e=>by grind[toD,Rp,bS]
 | .int b,v,d,h,e=>by grind[toD,Rp,bS]
 | .str b,v,d,h,e=>by grind[toD,Rp,bS]
 | .tup us,v,d,h,e=>by
  unfold toD at e;cases e2:eT us with
  |none=>grind
  |some ds=>
   rw[e2] at e;cases e;unfold Rp at h;unfold bS;obtain⟨a,xs,r,q,l,z⟩:=h;exact⟨a,xs,r,i6.of q,md z e2⟩
 | .lst us,v,d,h,e=>by
  unfold toD at e;cases e2:eT us with
  |none=>grind
  |some ds=>
   rw[e2] at e;cases e;unfold Rp at h;unfold bS;obtain⟨a,xs,r,_,q,l,z⟩:=h;exact⟨a,xs,r,fS.of q,md z e2⟩
 | .dct _ _,v,d,h,e=>by grind[toD]
 | .scr _,v,d,h,e=>by grind[toD]
theorem md {H:Hp}{A:Ye->Prop}:∀{us:List U} {vs:List V} {ds:List D},aU K H A us vs->eT us=some ds->gu K H ds vs
 | [],vs,ds,h,e=>by grind[eT,aU,gu]
 |u::us,vs,ds,h,e=>by
  unfold eT at e;cases e1:toD u with
  |none=>rw[e1] at e;cases e
  |some d=>
   cases e2:eT us with
   |none=>rw[e1,e2] at e;cases e
   |some ds'=>
    rw[e1,e2] at e;cases e;unfold aU at h;unfold gu;obtain⟨x,r,q,p,z⟩:=h;exact⟨x,r,q,Bt p e1,md z e2⟩
end
theorem xk {d:D}(h:Pk K H A u v)(e:toD u=some d):bS K H d v:=by
 cases u with
 |lst us=>
  unfold toD at e;cases e2:eT us with
  |none=>grind
  |some ds=>
   rw[e2] at e;cases e;unfold Pk at h;unfold bS;obtain⟨a,xs,r,q,l,z⟩:=h;exact⟨a,xs,r,fS.of q,md z e2⟩
 |dct=>grind[toD]
 |scr=>grind[toD]
 |tup us=>exact Bt (A:=A) (by grind[Pk,Rp]) e
 |_=>exact Bt (A:=A) (by unfold Pk at h;unfold Rp;exact h) e
noncomputable def y7 (u w:U):R Bool:=match toD u,toD w with
 |some d,some d'=>if cF d<=30 then .ok (iG d d') else .stk
 |_,_=>.stk
noncomputable def Po (f:Bool->Bool):U->U->R U:=λu w=>(y7 u w).bind λb=>.ok (.bl (f b))
theorem N1 {f:Bool->Bool}:iH K (Qo K f) .S (Po f):=λA H x y u w z Q hx hy mu e q=>by
 unfold Po y7 at e;obtain⟨b,e1,e2⟩:=R.bind_ok e;split at e1
 ·rename_i d d' h1 h2;split at e1
  ·rename_i hd;cases e1;cases e2;exact⟨d,d',xk hx h1,xk hy h2,hd,q _ H (aX.refl _) (show Rp K H A _ _ from iC)⟩
  lia
 lia
noncomputable def kM:U->Bool
 | .non=>true
 |_=>false
theorem FV (h:Pk K H A u v):decide (v=.non)=kM u:=by
 cases u<;>unfold Pk at h
 case non=>subst h;rfl
 case tup=>obtain⟨a,xs,rfl,_⟩:=h;rfl
 case lst=>obtain⟨a,xs,rfl,_⟩:=h;rfl
 case dct=>obtain⟨a,xs,rfl,_⟩:=h;rfl
 case scr=>obtain⟨a,xs,rfl,_⟩:=h;rfl
 all_goals (subst h;rfl)
noncomputable def FW (f:Bool->Bool):U->U->R U:=λu w=>match w with
 | .non=>.ok (.bl (f (kM u)))
 |_=>.stk
theorem Cs:iH K (λx y H Q=>y=.non/\Q (.bl (decide (x=.non))) H) .S (FW id):=λA H x y u w z Q hx hy mu e q=>by
 unfold FW at e;split at e
 ·cases e;refine⟨by grind[Pk],q _ H (aX.refl _) ?_⟩;rw[FV hx];rfl
 lia
noncomputable def To (f:Bool->Bool):U->U->R U:=λu w=>match u,w with
 | .bl a,.bl b=>.ok (.bl (f (decide (a=b))))
 |_,_=>.stk
theorem Bu {i:Int}{z:U}(r:aU K H A us xs)(e:mS us i=some z):∃v,mS xs i=some v/\Rp K H A z v:=by
 unfold mS at e ⊢;rw[←r.length];cases h:Be us.length i with
 |none=>grind
 |some j=>
  rw[h] at e;obtain⟨v,h1,h2⟩:=r.get (show us[j]? = some z from e);exact⟨v,h1,h2⟩
noncomputable def cz:U->U->R U:=λu w=>match u,w with
 | .lst us,.int i=>match mS us i with
  |some z=>.ok z
  |none=>.stk
 | .tup us,.int i=>match mS us i with
  |some z=>.ok z
  |none=>.stk
 | .scr us,.int i=>match mS us i with
  |some z=>.ok z
  |none=>.stk
 | .str x,.int i=>match mS x.cps.toList i with
  |some c=>if x.length<=XU then .ok (.str ⟨(List.toArray [c])⟩) else .stk
  |none=>.stk
 |_,_=>.stk
noncomputable abbrev zqb (i:Nat)(n:Int):Ev->R (U×Ev):=aI cz (af i) (zqc n)
theorem aD:iH K (UQ K) .S cz:=λA H x y u w z Q hx hy mu e q=>by
 unfold cz at e;split at e
 ·split at e
  ·rename_i z' hz;cases e;unfold Pk at hx;obtain⟨a,xs,rfl,h1,l1,r1⟩:=hx;obtain⟨v,h2,h3⟩:=Bu r1 hz;exact .inl ⟨a,xs,_,v,rfl,hy.int,fS.of h1,h2,q _ H (aX.refl _) h3⟩
  lia
 ·split at e
  ·rename_i z' hz;cases e;unfold Pk at hx;obtain⟨a,xs,rfl,h1,l1,r1⟩:=hx;obtain⟨v,h2,h3⟩:=Bu r1 hz;exact .inr (.inl ⟨a,xs,_,v,rfl,hy.int,i6.of h1,h2,q _ H (aX.refl _) h3⟩)
  lia
 ·split at e
  ·rename_i z' hz;cases e;unfold Pk at hx;obtain⟨a,xs,rfl,h1,l1,r1⟩:=hx;obtain⟨v,h2,h3⟩:=Bu r1 hz;exact .inl ⟨a,xs,_,v,rfl,hy.int,h1.sq,h2,q _ H (aX.refl _) h3⟩
  lia
 ·split at e
  ·rename_i z' hz;split at e
   ·rename_i hl;cases e;exact .inr (.inr ⟨_,_,z',hx.str,hy.int,hl,hz,q _ H (aX.refl _) (show Rp K H A _ _ from Bo)⟩)
   lia
  lia
 lia
def zqa {X G x pos k j p q}(i:Nat)(hN:X.N[i]? = some x:=by rfl)(hv:DR X.env.scope x:=by first|exact Or.inl rfl|exact Or.inr (Or.inl rfl)|exact Or.inr (Or.inr rfl))(hd:(x==("__debug__":Str))=false:=by decide)(kI:(x==("__classdict__":Str))=false:=by decide) (c:G.is i=false:=by rfl):DE X G (.Subscript (.Name x pos) (.Constant (.int k) j p) q) false .S (zqb i k):=aL aB aD (ao i hN hv hd kI c) ai λ_ _=>rfl
noncomputable def ku {α:Type}(xs:List α)(lo hi:Option Int):List α:=(xs.drop (HT.sIx xs.length 0 lo)).take (HT.sIx xs.length xs.length hi-HT.sIx xs.length 0 lo)
theorem lr {α:Type}(xs:List α)(lo hi:Option Int):(ku xs lo hi).length<=xs.length:=by
 unfold ku;rw[Ys,YR];lia
def xl (r:aU K H A us xs)(lo hi:Option Int):aU K H A (ku us lo hi) (tj xs lo hi):=by
 unfold ku tj;rw[←r.length];exact (r.drop _).take _
def eB:Fh X (λx lo hi H Q=>JB X.K x lo hi H Q\/FD X.K x lo hi H Q):=JC.or JH
noncomputable def oG:U->Option Int->Option Int->R U:=λu lo hi=>match u with
 | .lst us=>.ok (.lst (ku us lo hi))
 | .scr us=>.ok (.lst (ku us lo hi))
 | .tup us=>.ok (.tup (ku us lo hi))
 |_=>.stk
noncomputable def Qw:U->Option Int->Option Int->R U:=λu lo hi=>match u with
 | .lst us=>.ok (.lst (ku us lo hi))
 | .scr us=>.ok (.lst (ku us lo hi))
 |_=>.stk
theorem Ct:FP K (JB K) .O Qw:=λA H x u lo hi z Q hx mu e q=>by
 unfold Qw at e;split at e
 ·cases e;unfold Pk at hx;obtain⟨a,xs,rfl,h1,l1,r1⟩:=hx;exact⟨a,xs,rfl,fS.of h1,λp hp=>q _ _ (dI hp _) ⟨p,rfl,hp,c9 mu (xl r1 lo hi) hp (YX (lr _ _ _) l1)⟩⟩
 ·cases e;unfold Pk at hx;obtain⟨a,xs,rfl,h1,l1,r1⟩:=hx;exact⟨a,xs,rfl,h1.sq,λp hp=>q _ _ (dI hp _) ⟨p,rfl,hp,c9 mu (xl r1 lo hi) hp (YX (lr _ _ _) l1)⟩⟩
 lia
theorem Ly (mu:∀a,A a->Mu (H a))(vm:FH K .O A H H' u v):Rp K H' A u v:=by
 obtain⟨a,rfl,na,t⟩:=vm;exact t.rp (λb h=>.inl h) λh=>by have:=mu a h;rw[na] at this;exact this
theorem i9:FP K (λx lo hi H Q=>JB K x lo hi H Q\/FD K x lo hi H Q) .S oG:=λA H x u lo hi z Q hx mu e q=>by
 unfold oG at e;split at e
 ·cases e;exact .inl (Ct A H x _ lo hi _ Q hx mu rfl λv H' sm vm=>q v H' sm (Ly mu vm))
 ·cases e;exact .inl (Ct A H x _ lo hi _ Q hx mu rfl λv H' sm vm=>q v H' sm (Ly mu vm))
 ·cases e;unfold Pk at hx;obtain⟨a,xs,rfl,h1,l1,r1⟩:=hx;refine .inr ⟨a,xs,rfl,h1,λr H' sm hr=>q _ H' sm (show Rp K H' A _ _ from ?_)⟩;unfold Rp;exact⟨r,_,rfl,hr,YX (lr _ _ _) l1,(xl r1 lo hi).same sm⟩
 lia
end L2
namespace L2
section
theorem Bn.one (h:Bn K H A [u] vs):∃v,vs=[v]/\Pk K H A u v:=by
 unfold Bn at h;obtain⟨x,r,rfl,p,q⟩:=h;unfold Bn at q;grind
theorem Bn.two {w:U}(h:Bn K H A [u,w] vs):∃v v',vs=[v,v']/\Pk K H A u v/\Pk K H A w v':=by
 unfold Bn at h;obtain⟨x,r,rfl,p,q⟩:=h;obtain⟨v,rfl,q'⟩:=Bn.one q;exact⟨x,v,rfl,p,q'⟩
noncomputable def gw:List U->R U:=λus=>match us with
 | [.lst xs]=>.ok (.int xs.length)
 | [.tup xs]=>.ok (.int xs.length)
 | [.scr xs]=>.ok (.int xs.length)
 | [.str x]=>if x.length<=XU then .ok (.int x.length) else .stk
 |_=>.stk
theorem dW:oy K (λxs H Q=>∃x n,xs=[x]/\Qa K x H n/\Q (.int n) H) .S gw:=λA H vs us z Q h mu e q=>by
 unfold gw at e;split at e
 ·rename_i xs;cases e;obtain⟨v,rfl,p⟩:=h.one;unfold Pk at p;obtain⟨a,ys,rfl,h1,l1,r1⟩:=p;exact⟨_,xs.length,rfl,.inl ⟨ys,fS.of h1,r1.length⟩,q _ H (aX.refl _) (show Rp K H A _ _ from eR)⟩
 ·rename_i xs;cases e;obtain⟨v,rfl,p⟩:=h.one;unfold Pk at p;obtain⟨a,ys,rfl,h1,l1,r1⟩:=p;exact⟨_,xs.length,rfl,.inr ⟨ys,i6.of h1,r1.length⟩,q _ H (aX.refl _) (show Rp K H A _ _ from eR)⟩
 ·rename_i xs;cases e;obtain⟨v,rfl,p⟩:=h.one;unfold Pk at p;obtain⟨a,ys,rfl,h1,l1,r1⟩:=p;exact⟨_,xs.length,rfl,.inl ⟨ys,h1.sq,r1.length⟩,q _ H (aX.refl _) (show Rp K H A _ _ from eR)⟩
 ·rename_i x;split at e
  ·rename_i hl;cases e;obtain⟨v,rfl,p⟩:=h.one;have:=p.str;subst this;exact⟨_,x.length,rfl,⟨hl,rfl⟩,q _ H (aX.refl _) (show Rp K H A _ _ from eR)⟩
  lia
 lia
noncomputable def y8:List U->R U:=λus=>match us with
 | [.lst xs]=>.ok (.lst xs)
 | [.tup xs]=>.ok (.lst xs)
 |_=>.stk
theorem FY:oy K (λxs H Q=>∃p ys,xs=[.ref p]/\(fS K H p ys\/i6 K H p ys)/\∀l,H l=none->Q (.ref l) (dF H l (.lst ys))) .O y8:=λA H vs us z Q h mu e q=>by
 unfold y8 at e;split at e
 ·rename_i xs;cases e;obtain⟨v,rfl,p⟩:=h.one;unfold Pk at p;obtain⟨a,ys,rfl,h1,l1,r1⟩:=p;exact⟨a,ys,rfl,.inl (fS.of h1),λl hl=>q _ _ (dI hl _) ⟨l,rfl,hl,c9 mu r1 hl l1⟩⟩
 ·rename_i xs;cases e;obtain⟨v,rfl,p⟩:=h.one;unfold Pk at p;obtain⟨a,ys,rfl,h1,l1,r1⟩:=p;exact⟨a,ys,rfl,.inr (i6.of h1),λl hl=>q _ _ (dI hl _) ⟨l,rfl,hl,c9 mu r1 hl l1⟩⟩
 lia
noncomputable def d9:List U->R U:=λus=>match us with
 | [.lst xs]=>.ok (.tup xs)
 | [.tup xs]=>.ok (.tup xs)
 |_=>.stk
theorem cK:oy K (λxs H Q=>∃p ys,xs=[.ref p]/\((fS K H p ys/\∀l,H l=none->Q (.ref l) (dF H l (.tup ys)))\/(i6 K H p ys/\Q (.ref p) H))) .S d9:=λA H vs us z Q h mu e q=>by
 unfold d9 at e;split at e
 ·rename_i xs;cases e;obtain⟨v,rfl,p⟩:=h.one;unfold Pk at p;obtain⟨a,ys,rfl,h1,l1,r1⟩:=p;exact⟨a,ys,rfl,.inl ⟨fS.of h1,λl hl=>q _ _ (dI hl _) (p9 r1 hl l1)⟩⟩
 ·rename_i xs;cases e;obtain⟨v,rfl,p⟩:=h.one;have p':=p;unfold Pk at p;obtain⟨a,ys,rfl,h1,l1,r1⟩:=p;refine⟨a,ys,rfl,.inr ⟨i6.of h1,q _ H (aX.refl _) (show Rp K H A _ _ from ?_)⟩⟩;grind[Rp,Pk]
 lia
noncomputable def VX:List U->R U:=λus=>match us with
 | [.int i]=>.ok (.int (if i<0 then -i else i))
 |_=>.stk
noncomputable def y9:List U->R U:=λus=>match us with
 | [.int i,.int j]=>.ok (.int (if j>i then j else i))
 |_=>.stk
theorem FZ:oy K (λxs H Q=>∃i j,xs=[.int i,.int j]/\Q (.int (if j>i then j else i)) H) .S y9:=λA H vs us z Q h mu e q=>by
 unfold y9 at e;split at e
 ·cases e;obtain⟨v,w,rfl,p,p'⟩:=h.two;exact⟨_,_,by rw[p.int,p'.int],q _ H (aX.refl _) (show Rp K H A _ _ from eR)⟩
 lia
noncomputable def vZ:List U->R U:=λus=>match us with
 | [.int i,.int j]=>.ok (.int (if j<i then j else i))
 |_=>.stk
theorem y_:oy K (λxs H Q=>∃i j,xs=[.int i,.int j]/\Q (.int (if j<i then j else i)) H) .S vZ:=λA H vs us z Q h mu e q=>by
 unfold vZ at e;split at e
 ·cases e;obtain⟨v,w,rfl,p,p'⟩:=h.two;exact⟨_,_,by rw[p.int,p'.int],q _ H (aX.refl _) (show Rp K H A _ _ from eR)⟩
 lia
noncomputable def J0:List U->R U:=λus=>match us with
 | [.int i]=>.ok (.int i)
 | [.bl k]=>.ok (.int (if k then 1 else 0))
 |_=>.stk
theorem J2:oy K (λxs H Q=>(∃i,xs=[.int i]/\Q (.int i) H)\/∃k,xs=[.bl k]/\Q (.int (if k then 1 else 0)) H) .S J0:=λA H vs us z Q h mu e q=>by
 unfold J0 at e;split at e
 ·cases e;obtain⟨v,rfl,p⟩:=h.one;exact .inl ⟨_,by rw[p.int],q _ H (aX.refl _) (show Rp K H A _ _ from eR)⟩
 ·cases e;obtain⟨v,rfl,p⟩:=h.one;exact .inr ⟨_,by rw[p.bl],q _ H (aX.refl _) (show Rp K H A _ _ from eR)⟩
 lia
noncomputable def ka:List U->Option (List Int)
 | []=>some []
 | .int i::us=>(ka us).map (i::·)
 |_::_=>none
noncomputable def lu:List U->Option (List Bool)
 | []=>some []
 | .bl i::us=>(lu us).map (i::·)
 |_::_=>none
theorem oH:∀{us:List U} {ns:List Int},ka us=some ns->us=ns.map .int
 | [],ns,h=>by grind[ka]
 |u::us,ns,h=>by
  cases u<;>unfold ka at h<;>try cases h
  rename_i i;cases e:ka us with
  |none=>rw[e] at h;cases h
  |some ms=>rw[e] at h;cases h;rw[oH e];rfl
theorem za:∀{us:List U} {ns:List Bool},lu us=some ns->us=ns.map .bl
 | [],ns,h=>by grind[lu]
 |u::us,ns,h=>by
  cases u<;>unfold lu at h<;>try cases h
  rename_i i;cases e:lu us with
  |none=>rw[e] at h;cases h
  |some ms=>rw[e] at h;cases h;rw[za e];rfl
theorem Ed (ns:List Bool):lu (ns.map .bl)=some ns:=by
 induction ns with
 |nil=>rfl
 |cons n ns ih=>grind[X5,lu]
theorem aU.toI {H:Hp}{A:Ye->Prop}:∀{ns:List Int} {vs:List V},aU K H A (ns.map .int) vs->vs=ns.map V.int
 | [],vs,h=>by grind[aaa,aU]
 |n::ns,vs,h=>by
  rw[X5] at h;unfold aU at h;obtain⟨x,r,rfl,p,q⟩:=h;unfold Rp at p;rw[p,aU.toI q];rfl
theorem aU.toB {H:Hp}{A:Ye->Prop}:∀{ns:List Bool} {vs:List V},aU K H A (ns.map .bl) vs->vs=ns.map V.bl
 | [],vs,h=>by grind[aaa,aU]
 |n::ns,vs,h=>by
  rw[X5] at h;unfold aU at h;obtain⟨x,r,rfl,p,q⟩:=h;unfold Rp at p;rw[p,aU.toB q];rfl
theorem tY {H:Hp}{A:Ye->Prop}:∀(ns:List Int),aU K H A (ns.map .int) (ns.map V.int)
 | []=>aU.nil
 |n::ns=>aU.cons eR (tY ns)
noncomputable def zc:List U->R U:=λus=>match us with
 | [.lst xs]=>match lu xs with
  |some bs=>.ok (.bl (bs.all id))
  |none=>.stk
 |_=>.stk
theorem Cu:oy K (λxs H Q=>∃(p:Ye) (bs:List Bool),xs=[.ref p]/\fS K H p (bs.map V.bl)/\Q (.bl (bs.all id)) H) .S zc:=λA H vs us z Q h mu e q=>by
 unfold zc at e;split at e
 ·rename_i xs;split at e
  ·rename_i bs hb;cases e;obtain⟨v,rfl,p⟩:=h.one;unfold Pk at p;obtain⟨a,ys,rfl,h1,l1,r1⟩:=p;rw[za hb] at r1;rw[r1.toB] at h1;exact⟨a,bs,rfl,fS.of h1,q _ H (aX.refl _) (show Rp K H A _ _ from iC)⟩
  lia
 lia
noncomputable def Tp (ks:List U):String:=match ks with
 | .tup _::_=>"script"
 |_=>"dict"
noncomputable def Ee:U->String
 | .non=>"NoneType"
 | .bl _=>"bool"
 | .int _=>"int"
 | .str _=>"str"
 | .tup _=>"tuple"
 | .lst _=>"list"
 | .dct ks _=>Tp ks
 | .scr _=>"script"
theorem Lz (h:Pk K H A u v)(hs:Ee u≠"script"):vq K H v (Ee u):=by
 cases u<;>unfold Pk at h
 case scr=>exact absurd rfl hs
 case non=>subst h;exact .non
 case bl=>subst h;exact .bl _
 case int=>subst h;exact .int _
 case str=>subst h;exact .str _
 case tup=>obtain⟨a,xs,rfl,h1,_⟩:=h;exact .tup h1
 case lst=>
  obtain⟨a,xs,rfl,h1,_⟩:=h;exact .lst h1
 case dct=>
  obtain⟨a,xs,rfl,h1,_⟩:=h;rcases h1 with⟨k,h1,e,_⟩|⟨k,n,h1,e,_⟩
  ·have:Tp (k.map λp=>kU p.1)="dict":=by
    cases k with
    |nil=>rfl
    |cons p k=>
     obtain⟨p1,p2⟩:=p;cases p1<;>rfl
   show vq K H _ (Tp _);rw[e,this];exact .dK h1
  ·refine absurd e λe=>?_;cases k with
   |nil=>lia
   |cons p k=>rw[e] at hs;exact hs rfl
variable {e:aaj}{pos p1:Pos}{b1:Bool}{m1:Md}{g1:Ev->R (U×Ev)}
noncomputable def qE (T:String)(g:Ev->R (U×Ev)):Ev->R (U×Ev):=λρ=>(g ρ).bind λx=>if Ee x.1="script" then .stk else .ok (.bl (fw (Ee x.1) T),x.2)
theorem mf {T:String}(hT:T∈["bool","int","str","list","tuple","dict"])(he:DE X G e b1 m1 g1)(zi:X.mg "isinstance"=none)(zt:X.mg x=none)(bt:YQ x=some (.type T))(hg:Gl X "isinstance":=by rfl)(ht:Gl X x:=by rfl)(hn:x≠"__name__":=by decide)(hd:(x==("__debug__":Str))=false:=by decide)(hs:X7 [e,.Name x p2] X.env=(false,abh e X.env)::X7 [.Name x p2] X.env:=by rfl)(cL:X7 [.Name x p2] X.env=(false,abh (.Name x p2) X.env)::X7 [] X.env:=by rfl)(jZ:(aan pos (X7 [.Name x p2] X.env)).any (·.1)=false:=by rfl) :
  DE X G (.Call (.Name "isinstance" p1) [e,.Name x p2] [] pos) b1 .S (qE T g1):=⟨(j5 (yO (m:=T) hT) hg zi gP (aG he.un (aG (su (v:=.ty T) ht zt bt rfl hn hd) cM cL) hs) (by decide) (by decide) hs jZ).to λσ H Q h=>by
 obtain⟨Z,A,ρ,q,f⟩:=h;obtain⟨⟨u,ρ1⟩,e1,f⟩:=f.bind;refine⟨Z,A,ρ,q,?_⟩;rw[e1];intro v H1 q1 x1 s1 vm;dsimp only at f;split at f
 ·exact f.elim
 ·rename_i hn;exact⟨v,_,rfl,Lz vm.pk hn,f _ H1 q1 x1 s1 (vV.ofS iC)⟩⟩
noncomputable def zd (i j:Int):Bool:=decide (-1000000<=i)&&decide (i<=1000000)&&decide (-1000000<=j)&&decide (j<=1000000)
noncomputable def F0 (g:Ev->R (List U×Ev)):Ev->R (U×Ev):=λρ=>(g ρ).bind λx=>match x.1 with
 | [.int j]=>if zd 0 j=true then .ok (.lst (aO 0 (j-0).toNat),x.2) else .stk
 |_=>.stk
noncomputable def F5 (g:Ev->R (List U×Ev)):Ev->R (U×Ev):=λρ=>(g ρ).bind λx=>match x.1 with
 | [.int j]=>if zd 0 j=true then .ok (.tup (aO 0 (j-0).toNat),x.2) else .stk
 |_=>.stk
theorem v3 (lo:Int)(n:Nat):aU K H A (aO lo n) ((YF n).map λi=>V.int (lo+(i:Nat))):=by
 unfold aO;have e1:(YF n).map (λi=>U.int (lo+(i:Nat)))=((YF n).map λi=>lo+(i:Nat)).map U.int:=by simp
 have e2:(YF n).map (λi=>V.int (lo+(i:Nat)))=((YF n).map λi=>lo+(i:Nat)).map V.int:=by simp
 grind[tY]
def bo (lo:Int)(n:Nat):(aO lo n).length=n:=by unfold aO;rw[XO,YZ]
variable {ga:Ev->R (List U×Ev)}{a:aaj}{p3 p4:Pos}
theorem J3 (hc:X.calm=true)(ha:DA X G [a] b1 false ga)(zl:X.mg "list"=none)(zr:X.mg "range"=none)(hg:Gl X "list":=by rfl)(Ll:Gl X "range":=by rfl)
  (hs:X7 [.Call (.Name "range" p3) [a] [] p4] X.env=(false,abh (.Call (.Name "range" p3) [a] [] p4) X.env)::X7 [] X.env:=by rfl) (cL:X7 [a] X.env=(false,abh a X.env)::X7 [] X.env:=by rfl)
  (jZ:(aan pos (X7 [] X.env)).any (·.1)=false:=by rfl) (IH:(aan p4 (X7 [] X.env)).any (·.1)=false:=by rfl):DE X G (.Call (.Name "list" p1) [.Call (.Name "range" p3) [a] [] p4] [] pos) b1 .O (F0 ga):=⟨(iV (vt hc) hg zl ow (aG (iV qB Ll zr yP ha.un (by decide) (by decide) cL IH) cM hs) (by decide) (by decide) hs jZ).to λσ H Q h=>by
 obtain⟨Z,A,ρ,q,f⟩:=h;obtain⟨⟨us,ρ1⟩,e1,f⟩:=f.bind;refine⟨Z,A,ρ,q,?_⟩;rw[e1];intro vs H1 q1 x1 s1 vm;dsimp only at f;split at f
 ·rename_i j;split at f
  ·rename_i hj;have r:=vm.rps;unfold aU at r;obtain⟨v,vr,rfl,r1,r2⟩:=r;unfold aU at r2;subst r2;unfold Rp at r1;subst r1;unfold zd at hj;simp only[YD,decide_eq_true_eq] at hj;refine⟨j,rfl,λp hp=>⟨p,0,j,rfl,aQ,(by lia),(by lia),λl hl=>?_⟩⟩;have sp:=dI hp (.rng 0 j);have sl:=dI hl (.lst ((YF (j-0).toNat).map λi=>V.int (0+(i:Nat))));exact f _ _ ((q1.same sp).same sl) (x1.trans (fQ.same (sp.trans sl))) (p7 s1 (sp.trans sl)) (FH.e (q1.same sp) sl ⟨l,rfl,hl,c9 (q1.same sp).mu (v3 0 _) hl (by rw[bo];have:XU=16777216:=rfl;lia)⟩)
  ·exact f.elim
 ·exact f.elim⟩
theorem J5 (hc:X.calm=true)(ha:DA X G [a] b1 false ga)(zl:X.mg "tuple"=none)(zr:X.mg "range"=none)(hg:Gl X "tuple":=by rfl)(Ll:Gl X "range":=by rfl)
  (hs:X7 [.Call (.Name "range" p3) [a] [] p4] X.env=(false,abh (.Call (.Name "range" p3) [a] [] p4) X.env)::X7 [] X.env:=by rfl) (cL:X7 [a] X.env=(false,abh a X.env)::X7 [] X.env:=by rfl)
  (jZ:(aan pos (X7 [] X.env)).any (·.1)=false:=by rfl) (IH:(aan p4 (X7 [] X.env)).any (·.1)=false:=by rfl):DE X G (.Call (.Name "tuple" p1) [.Call (.Name "range" p3) [a] [] p4] [] pos) b1 .S (F5 ga):=⟨(iV (tG hc) hg zl b_ (aG (iV qB Ll zr yP ha.un (by decide) (by decide) cL IH) cM hs) (by decide) (by decide) hs jZ).to λσ H Q h=>by
 obtain⟨Z,A,ρ,q,f⟩:=h;obtain⟨⟨us,ρ1⟩,e1,f⟩:=f.bind;refine⟨Z,A,ρ,q,?_⟩;rw[e1];intro vs H1 q1 x1 s1 vm;dsimp only at f;split at f
 ·rename_i j;split at f
  ·rename_i hj;have r:=vm.rps;unfold aU at r;obtain⟨v,vr,rfl,r1,r2⟩:=r;unfold aU at r2;subst r2;unfold Rp at r1;subst r1;unfold zd at hj;simp only[YD,decide_eq_true_eq] at hj;refine⟨j,rfl,λp hp=>⟨p,0,j,rfl,aQ,(by lia),(by lia),λl hl=>?_⟩⟩;have sp:=dI hp (.rng 0 j);have sl:=dI hl (.tup ((YF (j-0).toNat).map λi=>V.int (0+(i:Nat))));exact f _ _ ((q1.same sp).same sl) (x1.trans (fQ.same (sp.trans sl))) (p7 s1 (sp.trans sl)) (vV.ofS (p9 (v3 0 _) hl (by rw[bo];have:XU=16777216:=rfl;lia)))
  ·exact f.elim
 ·exact f.elim⟩
noncomputable def iK:U->List U->R (U×U):=λu us=>match u,us with
 | .lst xs,[y]=>if xs.length<XU then .ok (.non,.lst (xs++[y])) else .stk
 |_,_=>.stk
theorem qa {a:Ye}(o:HO):∀b u,b≠a->H b=some u->dF H a o b=some u:=λb u nb z=>by grind[aS]
def sF {a:Ye}(mu:∀a,A a->Mu (H a))(ha:A a)(r:aU K H A us xs)(l:us.length<=XU):mJ K (dF H a (.lst xs)) A (.lst us) a:=
 ⟨xs,aQ,l,r.re mu (λb o nb z=>qa _ b o (λy=>nb (y▸ha)) z) λb z=>.inl z⟩
theorem nA:FN K "list" Ci iK:=λA H a u vs us z w Q t ha r mu e q=>by
 unfold iK at e;split at e
 ·rename_i xs y;split at e
  ·rename_i hl;cases e;obtain⟨ys,h1,l1,r1⟩:=t;unfold aU at r;obtain⟨v,vr,rfl,p,r2⟩:=r;unfold aU at r2;subst r2;exact⟨a,ys,v,rfl,rfl,h1,by rw[←r1.length];exact hl,q _ _ (qa _) (sF mu ha (r1.append (aU.cons p aU.nil)) (by rw[XW];exact hl)) tH⟩
  lia
 lia
def ze:V->List V->Hp->VK->Prop:=λx vs H Q=>∃l b xs zs,x=.ref l/\vs=[.ref b]/\H l=some (.lst xs)/\H b=some (.lst zs)/\xs.length+zs.length<=XU/\Q .non (dF H l (.lst (xs++zs)))
theorem Bv:Jb X "list.extend" ze:=by
 intro pins s σ H x vs v us Q I rx rv h;obtain⟨l,b,xs,zs,rfl,rfl,hH,hB,hz,q⟩:=h;cases rx;obtain⟨u,rfl,ru⟩:=rv.one;cases ru;obtain⟨z,aA,n,r,hl,e⟩:=I.lstM hH;obtain⟨z2,its2,n2,r2,IG,e2⟩:=I.lstM hB;have hsz:aA.toArray.size+its2.toArray.size<=XU:=by rw[XZ,XZ];lia
 have AM:¬(!aA.toArray.isEmpty&&aaf (aA.toArray.size+its2.toArray.size))=true:=by
  rw[tq hsz,abA];exact XR
 refine acM ada ⟨_,e,rfl⟩ acR (acG _ _)
  (PySem.AutoSeq1.list_extend_list_list_0 l aA.toArray n b its2.toArray n2 AM (by rw[XZ];lia) (by lia)) ⟨e,e2,?_⟩
 refine⟨.non,_,I.lset (its':=aA++its2) hH e (by simp) (r.append r2) ?_,rfl,q⟩;rw[XW];lia
def LA:V->List V->Hp->VK->Prop:=λx vs H Q=>ze x vs H Q\/yQ x vs H Q
def xm:Jb X "list.extend" LA:=Bv.or Bl
noncomputable def fW:U->List U->R (U×U):=λu us=>match u,us with
 | .lst xs,[.lst ys]=>if xs.length+ys.length<=XU then .ok (.non,.lst (xs++ys)) else .stk
 | .lst xs,[.tup ys]=>if xs.length+ys.length<=XU then .ok (.non,.lst (xs++ys)) else .stk
 |_,_=>.stk
theorem nB:FN K "list" LA fW:=λA H a u vs us z w Q t ha r mu e q=>by
 unfold fW at e;split at e
 ·rename_i xs ys;split at e
  ·rename_i hl;cases e;obtain⟨zs,h1,l1,r1⟩:=t;unfold aU at r;obtain⟨v,vr,rfl,p,r2⟩:=r;unfold aU at r2;subst r2;unfold Rp at p;obtain⟨b,ws,rfl,nb,h2,l2,r3⟩:=p;exact .inl ⟨a,b,zs,ws,rfl,rfl,h1,h2,by rw[←r1.length,←r3.length];exact hl,q _ _ (qa _) (sF mu ha (r1.append r3) (by rw[XW];exact hl)) tH⟩
  lia
 ·rename_i xs ys;split at e
  ·rename_i hl;cases e;obtain⟨zs,h1,l1,r1⟩:=t;unfold aU at r;obtain⟨v,vr,rfl,p,r2⟩:=r;unfold aU at r2;subst r2;unfold Rp at p;obtain⟨b,ws,rfl,h2,l2,r3⟩:=p;exact .inr ⟨a,b,zs,ws,rfl,rfl,h1,h2,by rw[←r1.length,←r3.length];exact hl,q _ _ (qa _) (sF mu ha (r1.append r3) (by rw[XW];exact hl)) tH⟩
  lia
 lia
noncomputable def qb:U->List U->R (U×U):=λu us=>match u,us with
 | .lst xs,[.int i]=>if -9223372036854775808<=i/\i<9223372036854775808 then (match adC i xs.length with
  |some k=>match xs[k]? with
   |some y=>.ok (y,.lst (xs.eraseIdx k))
   |none=>.stk
  |none=>.stk) else .stk
 |_,_=>.stk
theorem aU.erase {H:Hp}{A:Ye->Prop}:∀{us:List U} {vs:List V} (n:Nat),aU K H A us vs->aU K H A (us.eraseIdx n) (vs.eraseIdx n)
 | [],vs,n,h=>by grind[aU,aU.nil]
 |u::us,vs,0,h=>by
  unfold aU at h;grind
 |u::us,vs,n+1,h=>by
  unfold aU at h;obtain⟨x,r,rfl,p,q⟩:=h;exact aU.cons p (aU.erase n q)
theorem Ef:FN K "list" Fo qb:=λA H a u vs us z w Q t ha r mu e q=>by
 unfold qb at e;split at e
 ·rename_i xs i;split at e
  ·rename_i hi;split at e
   ·rename_i k hk;split at e
    ·rename_i y hy;cases e;obtain⟨zs,h1,l1,r1⟩:=t;unfold aU at r;obtain⟨v,vr,rfl,p,r2⟩:=r;unfold aU at r2;subst r2;unfold Rp at p;subst p;obtain⟨v,h2,h3⟩:=r1.get hy;exact⟨a,zs,i,k,v,rfl,rfl,h1,by lia,by lia,by rw[←r1.length];exact hk,h2,q _ _ (qa _) (sF mu ha (r1.erase k) (YX (List.length_eraseIdx_le _ _) l1)) (h3.re mu (λb o nb z=>qa _ b o (λy=>nb (y▸ha)) z) λb z=>.inl z)⟩
    lia
   lia
  lia
 lia
end
end L2
namespace L2
section
variable {m:Md}{pos:Pos}
def nC:iH K (DZ λi j=>.bl (decide (i<j))) .S JZ:=FU
def nD:iH K (DZ λi j=>.bl (decide (j<i))) .S Je:=FU
def N2:iH K (DZ λi j=>.bl (decide (j<=i))) .S Tn:=FU
theorem fi {Vh:List ab7}:Bp X G m Vh (λ_=>.stk):=⟨λpins s σ H D I h=>by
 obtain⟨Z,A,ρ,q,f⟩:=h;exact f.elim⟩
noncomputable def VY:Ev->R (U×Ev):=λρ=>.ok (.dct [] [],ρ)
end
end L2
namespace Hc.Sx
open PySem.SetTable
noncomputable def iE:Nat->Nat
 |0=>0
 |n+1=>5*iE n+1
theorem Cv (n:Nat):5 ^ n=4*iE n+1:=by
 induction n with
 |zero=>rfl
 |succ n ih=>rw[aat,ih];show _=4*(5*iE n+1)+1;lia
theorem J6 (m n:Nat):iE (m+n)=5 ^ n*iE m+iE n:=by
 induction n with
 |zero=>simp[iE]
 |succ n ih=>
  show 5*iE (m+n)+1=5 ^ (n+1)*iE m+(5*iE n+1);rw[ih,aat,aaN (5 ^ n) 5,Nat.mul_add,ZV];lia
theorem J7 (n:Nat):iE n % 2=n % 2:=by
 induction n with
 |zero=>rfl
 |succ n ih=>unfold iE;lia
theorem J8 (d:Nat):iE (d+d)=iE d*(2*(2*iE d+1)):=by
 rw[J6,Cv];lia
def UT (k q:Nat):Nat.Coprime (2 ^ k) (2*q+1):=by
 refine Nat.Coprime.pow_left k ?_;unfold Nat.Coprime;simp
theorem Cw:∀(k d:Nat),2 ^ k ∣ iE d->2 ^ k ∣ d
 |0,d,_=>⟨d,by simp⟩
 |k+1,d,h=>by
  have e:d % 2=0:=by
   rw[←J7];obtain⟨c,hc⟩:=h;grind
  obtain⟨d',rfl⟩:∃d',d=d'+d':=⟨d / 2,(by lia)⟩;rw[J8,aat,aaN (2 ^ k) 2,ack (iE d') 2] at h;have h1:2 ^ k ∣ iE d'*(2*iE d'+1):=Nat.dvd_of_mul_dvd_mul_left (by decide) h;have h2:2 ^ k ∣ iE d':=ab8 (UT k _) h1;obtain⟨c,hc⟩:=Cw k d' h2;exact⟨c,by rw[aat,ZV,ack,←hc];lia⟩
noncomputable def vx (M x:Nat):Nat->Nat
 |0=>x
 |n+1=>(vx M x n*5+1) % M
theorem Cy (M x:Nat):∀n,vx M x n % M=(5 ^ n*x+iE n) % M
 |0=>by simp[vx,iE]
 |n+1=>by
  unfold vx iE;rw[Nat.mod_mod,aat,aaN (5 ^ n) 5,ZV];have:=Cy M x n;rw[Nat.add_mod,Nat.mul_mod,this,←Nat.mul_mod,←Nat.add_mod];lia
theorem xn (M x m:Nat):∀n,vx M x (m+n)=vx M (vx M x m) n
 |0=>rfl
 |n+1=>by
  show (vx M x (m+n)*5+1) % M=_;rw[xn M x m n];rfl
theorem F6 {M x:Nat}(h:x<M):∀n,vx M x n<M
 |0=>h
 |n+1=>abv _ (by lia)
theorem F7 {x:Nat}(hx:x<2 ^ k)(h:vx (2 ^ k) x d=x):2 ^ k ∣ d:=by
 have e:=Cy (2 ^ k) x d;rw[h,Cv,aba,Nat.one_mul] at e;have h2:2 ^ k ∣ iE d*(2*(2*x)+1):=by
  have:iE d*(2*(2*x)+1)=4*iE d*x+iE d:=by
   lia
  rw[this];have e2:(x+(4*iE d*x+iE d)) % 2 ^ k=x % 2 ^ k:=by lia
  have e3:((4*iE d*x+iE d)) % 2 ^ k=0:=by
   have:=(Nat.mod_eq_mod_iff (x:=x+(4*iE d*x+iE d)) (y:=x) (z:=2 ^ k)).mp e2;obtain⟨a,b,AO⟩:=this;have:4*iE d*x+iE d+2 ^ k*a=2 ^ k*b:=by rw[aaN _ a,aaN _ b];lia
   have h3:2 ^ k ∣ 4*iE d*x+iE d:=(Nat.dvd_add_right (Nat.dvd_mul_right (2 ^ k) a)).mp (by rw[Nat.add_comm,this];exact Nat.dvd_mul_right _ _);exact Nat.mod_eq_zero_of_dvd h3
  exact Nat.dvd_of_mod_eq_zero e3
 exact Cw k d (ab8 (UT k _) h2)
theorem J9 {x a b:Nat}(hx:x<2 ^ k)(ha:a<2 ^ k)(hb:b<2 ^ k)(h:vx (2 ^ k) x a=vx (2 ^ k) x b):a=b:=by
 have key:∀a b,a<=b->b<2 ^ k->vx (2 ^ k) x a=vx (2 ^ k) x b->a=b:=λa b AO hb h=>by
  obtain⟨d,rfl⟩:∃d,b=a+d:=⟨b-a,(by lia)⟩;rw[xn] at h;have:=F7 (F6 hx a) h.symm;have:d=0:=Nat.eq_zero_of_dvd_of_lt this (by lia);lia
 grind
theorem J_ {x y:Nat}(hx:x<2 ^ k)(hy:y<2 ^ k):∃n,n<2 ^ k/\vx (2 ^ k) x n=y:=by
 refine aaW λhn=>?_;have nd:((YF (2 ^ k)).map (vx (2 ^ k) x)).Nodup:=by
  unfold List.Nodup;rw[Z4];refine aa6 (λ{a b} ha hb AO e=>?_) acC;exact AO (J9 hx (Y0.mp ha) (Y0.mp hb) e)
 have:=aa8 (l₁:=y::(YF (2 ^ k)).map (vx (2 ^ k) x)) (l₂:=YF (2 ^ k))
  (aaB.mpr ⟨λh=>by
   grind,nd⟩)
  (λz hz=>by
   rcases Yb.mp hz with e|hz
   ·rw[e];exact Y0.mpr hy
   ·obtain⟨n,_,rfl⟩:=Yn.mp hz;grind[F6])
 rw[X1,XO,YZ] at this;lia
noncomputable def fX (mask:Nat):Nat->Nat×Nat->Nat×Nat
 |0,p=>p
 |n+1,p=>fX mask n (leap mask p.1 p.2)
theorem v5 (mask m n:Nat)(p:Nat×Nat):fX mask (m+n) p=fX mask n (fX mask m p):=by
 induction m generalizing p with
 |zero=>rw[aaM];rfl
 |succ m ih=>rw[Nat.succ_add];exact ih _
theorem v7 (mask:Nat):∀(n i q:Nat),(fX mask n (i,q)).2=q / 32 ^ n
 |0,i,q=>by simp[fX]
 |n+1,i,q=>by
  show (fX mask n (leap mask i q)).2=_;unfold leap;rw[v7,Nat.div_div_eq_div_mul,aat,aaN 32]
theorem zf (mask:Nat):∀(n i q:Nat),i<=mask->(fX mask n (i,q)).1<=mask
 |0,i,q,h=>h
 |n+1,i,q,h=>zf mask n _ _ (aaw (abv _ (abm _)))
theorem tZ (mask:Nat):∀(n i:Nat),fX mask n (i,0)=(vx (mask+1) i n,0)
 |0,i=>rfl
 |n+1,i=>by
  rw[Nat.add_comm n 1,v5];show fX mask n (leap mask i 0)=_;rw[show leap mask i 0=(vx (mask+1) i 1,0) by rfl,tZ,xn]
theorem v9 (hm:mask+1=2 ^ k){q y:Nat}(hi:i<=mask)(hq:q<2 ^ 64)(hy:y<=mask):∃n,n<mask+14/\(fX mask n (i,q)).1=y:=by
 have z:(fX mask 13 (i,q)).2=0:=by
  rw[v7];exact Nat.div_eq_of_lt (aau hq (by decide))
 have e:fX mask 13 (i,q)=((fX mask 13 (i,q)).1,0):=by rw[←z]
 obtain⟨n,h1,h2⟩:=J_ (k:=k) (x:=(fX mask 13 (i,q)).1) (y:=y) (by rw[←hm];exact Nat.lt_succ_of_le (zf mask 13 i q hi)) (by lia);refine⟨13+n,(by lia),?_⟩;rw[v5,e,tZ,hm];exact h2
end Hc.Sx
namespace Hc.Sx
open PySem.SetTable
def Qx (xs:Array Nat):Prop:=∀i j (hi:i<xs.size) (hj:j<xs.size),i<j->xs[i]<xs[j]
theorem t6 {xs:Array Nat}{j:Nat}(hr:Qx xs):∀(cZ lo hi:Nat),lo<=hi->hi<=xs.size->hi-lo<=cZ->(∀i (h:i<xs.size),i<lo->xs[i]<j)->(∀i (h:i<xs.size),hi<=i->j<=xs[i])->
  (∀i (h:i<xs.size),i<below.go xs j cZ lo hi->xs[i]<j)/\(∀i (h:i<xs.size),below.go xs j cZ lo hi<=i->j<=xs[i])/\below.go xs j cZ lo hi<=xs.size
 |0,lo,hi,h1,h2,h3,a,b=>by
  have:lo=hi:=(by lia)
  subst this;exact⟨a,b,h2⟩
 |cZ+1,lo,hi,h1,h2,h3,a,b=>by
  unfold below.go;by_cases c:lo<hi
  ·rw[hZ c];dsimp only;have hm:(lo+hi) / 2<xs.size:=(by lia)
   have hd:xs.getD ((lo+hi) / 2) j=xs[(lo+hi) / 2]:=by simp[acm,hm]
   rw[hd];by_cases c2:xs[(lo+hi) / 2]<j
   ·rw[hZ c2];refine t6 hr cZ _ hi (by lia) h2 (by lia) (λi h EU=>?_) b;rcases aaO i ((lo+hi) / 2) with z|z
    ·exact aau (hr _ _ h hm z) c2
    grind
   ·rw[hV c2];refine t6 hr cZ lo _ (by lia) (by lia) (by lia) a (λi h EU=>?_);rcases aaO ((lo+hi) / 2) i with z|z
    ·have:=hr _ _ hm h z;lia
    grind
  ·rw[hV c];have:lo=hi:=(by lia)
   subst this;exact⟨a,b,h2⟩
theorem oI {xs:Array Nat}(hr:Qx xs):(∀i (h:i<xs.size),i<below xs j->xs[i]<j)/\(∀i (h:i<xs.size),below xs j<=i->j<=xs[i])/\below xs j<=xs.size:=
 t6 hr _ _ _ (ZT _) (X6 _) (by lia) (λi _ h=>(by lia)) (λi h h'=>(by lia))
theorem F8 {xs:Array Nat}(hr:Qx xs)(h:xs[i]? = some j):below xs j=i:=by
 obtain⟨hi,e⟩:=Za.mp h;obtain⟨a,b,c⟩:=oI (j:=j) hr;rcases abw (below xs j) i with z|z|z
 ·have h1:=b (below xs j) (by lia) (X6 _);have h2:=hr _ _ (by lia) hi z;lia
 ·exact z
 ·have:=a i hi z;lia
variable {V:Type}
structure Cz (t:abC)(es:Array (Int×V))(C:Nat->Option (Int×V)):Prop where
 ris:Qx t.place
 sz:t.place.size=es.size
 dum:t.dummies=(List.toArray [])
 pow:∃k,t.mask+1=2 ^ k
 room:es.size<=t.mask
 top:∀(i j:Nat),t.place[i]? = some j->j<=t.mask
 con:∀(j:Nat) (e:Int×V),C j=some e↔∃i:Nat,t.place[i]? = some j/\es[i]? = some e
section
variable {es:Array (Int×V)}{C:Nat->Option (Int×V)}
theorem zg {xs:Array Nat}(h:xs=(List.toArray []))(j:Nat):has xs j=false:=by subst h;rfl
theorem Cz.live (T:Cz t es C){e:Int×V}(h:C j=some e):∃i,t.slot j=.live i/\es[i]? = some e/\t.place[i]? = some j:=by
 obtain⟨i,h1,h2⟩:=(T.con j e).mp h;refine⟨i,?_,h2,h1⟩;unfold SetTable.slot;dsimp only;rw[F8 T.ris h1,h1];simp
theorem Cz.empty (T:Cz t es C)(h:C j=none):t.slot j=.empty:=by
 unfold SetTable.slot;dsimp only;have n:(t.place[below t.place j]? == some j)=false:=by
  rw[aa3];intro c;have c:t.place[below t.place j]? = some j:=by lia
  have hi:=(Za.mp c).1;have MW:below t.place j<es.size:=by rw[←T.sz];exact hi
  have:es[below t.place j]? = some es[below t.place j]:=Yx MW;rw[(T.con j _).mpr ⟨_,c,this⟩] at h;cases h
 rw[n,zg T.dum];rfl
theorem Cz.free (T:Cz t es C):∃y,y<=t.mask/\C y=none:=by
 refine aaW λhn=>?_;have hs:=T.sz;have hr:=T.room;have:=aa8 (l₁:=YF (t.mask+1)) (l₂:=t.place.toList) acC (λy hy=>by
  have hy:=Y0.mp hy;cases e:C y with
  |none=>grind
  |some v=>
   obtain⟨i,h1,_⟩:=(T.con y v).mp e;have:=Array.mem_of_getElem? h1;simpa using this)
 grind
end
noncomputable def adv (mask:Nat)(p:Probe):Probe:=
 if p.more>0 then {p with j:=p.j+1,more:=p.more-1} else
 {p with j:=(leap mask p.i p.perturb).1,more:=runEnd mask (leap mask p.i p.perturb).1-(leap mask p.i p.perturb).1,i:=(leap mask p.i p.perturb).1,perturb:=(leap mask p.i p.perturb).2}
def F9 (t:abC)(p:Probe):t.advance p=adv t.mask p:=by rfl
noncomputable def advs (mask:Nat):Nat->Probe->Probe
 |0,p=>p
 |n+1,p=>advs mask n (adv mask p)
theorem i_ (mask m n:Nat)(p:Probe):advs mask (m+n) p=advs mask n (advs mask m p):=by
 induction m generalizing p with
 |zero=>rw[aaM];rfl
 |succ m ih=>rw[Nat.succ_add];exact ih _
def v_ (mask n:Nat)(p:Probe):advs mask (n+1) p=adv mask (advs mask n p):=by rw[i_];rfl
structure lB (mask:Nat)(p:Probe):Prop where
 i:p.i<=mask
 q:p.perturb<2 ^ 64
 m:p.more<=9
 d:p.dummy=none
theorem qc (mask i:Nat):runEnd mask i-i<=9:=by unfold runEnd;split<;>lia
theorem lB.adv {p:Probe}(h:lB mask p):lB mask (adv mask p):=by
 unfold Hc.Sx.adv;split
 ·exact⟨h.i,h.q,by have:=h.m;lia,h.d⟩
 ·refine⟨aaw (abv _ (abm _)),?_,qc _ _,h.d⟩;exact ab1 (Nat.div_le_self _ _) h.q
theorem lB.advs {mask:Nat}:∀(n:Nat) {p:Probe},lB mask p->lB mask (advs mask n p)
 |0,_,h=>h
 |n+1,_,h=>lB.advs n h.adv
theorem CA (h:Int):bits h<2 ^ 64:=by
 grind[bits,aaP,abn]
def lB.start (t:abC)(h:Int):lB t.mask (t.probeStart h):=
 ⟨aaw (abv _ (abm _)),CA h,qc _ _,rfl⟩
theorem t7 {mask:Nat}:∀(n:Nat) {p:Probe},p.more=n->(advs mask (n+1) p).j=(leap mask p.i p.perturb).1/\(advs mask (n+1) p).i=(leap mask p.i p.perturb).1/\(advs mask (n+1) p).perturb=(leap mask p.i p.perturb).2/\(advs mask (n+1) p).more<=9
 |0,p,e=>by
  show (adv mask p).j=_/\(adv mask p).i=_/\(adv mask p).perturb=_/\(adv mask p).more<=9;unfold adv;rw[hV (by lia)];exact⟨rfl,rfl,rfl,qc _ _⟩
 |n+1,p,e=>by
  have:=t7 (mask:=mask) n (p:=adv mask p) (by simp_all[adv,hZ]);have e1:(adv mask p).i=p.i/\(adv mask p).perturb=p.perturb:=by unfold adv;lia
  rw[e1.1,e1.2] at this;exact this
theorem qF {mask:Nat}:∀(n:Nat) {p:Probe},lB mask p->∃m,m<=10*(n+1)/\(advs mask m p).j=(fX mask (n+1) (p.i,p.perturb)).1
 |0,p,h=>by
  obtain⟨a,_⟩:=t7 (mask:=mask) p.more (p:=p) rfl;exact⟨p.more+1,by have:=h.m;lia,a⟩
 |n+1,p,h=>by
  obtain⟨a,b,c,d⟩:=t7 (mask:=mask) p.more (p:=p) rfl;obtain⟨m,h1,h2⟩:=qF n (lB.advs (p.more+1) h);refine⟨p.more+1+m,by have:=h.m;lia,?_⟩;rw[i_,h2,b,c];rfl
theorem wa (hm:mask+1=2 ^ k){p:Probe}(h:lB mask p){y:Nat}(hy:y<=mask):∃m,m<10*turns mask/\(advs mask m p).j=y:=by
 obtain⟨n,h1,h2⟩:=v9 hm (i:=(leap mask p.i p.perturb).1) (q:=(leap mask p.i p.perturb).2) (y:=y) (aaw (abv _ (abm _))) (ab1 (Nat.div_le_self _ _) h.q) hy;obtain⟨m,h3,h4⟩:=qF n h;refine⟨m,by unfold turns;lia,?_⟩;rw[h4];exact h2
section
variable {es:Array (Int×V)}{C:Nat->Option (Int×V)}{hashAt:Nat->Int}
theorem CB (T:Cz t es C)(hh:∀i e,es[i]? = some e->hashAt i=e.1)(h:Int):∀(m cZ:Nat) (p:Probe),lB t.mask p->m<cZ->C (advs t.mask m p).j=none->
    ∃m',m'<=m/\(∀a,a<m'->∃e,C (advs t.mask a p).j=some e/\e.1≠h)/\
      ((C (advs t.mask m' p).j=none/\probe.go t hashAt h cZ p=some (.empty (advs t.mask m' p).j none)) \/
       ∃e i,C (advs t.mask m' p).j=some e/\e.1=h/\es[i]? = some e/\t.place[i]? = some (advs t.mask m' p).j/\probe.go t hashAt h cZ p=some (.candidate (advs t.mask m' p).j i (advs t.mask (m'+1) p)))
  |m,0,p,_,hf,_=>by lia
  |m,cZ+1,p,hp,hf,he=>by
    unfold probe.go;cases c:C p.j with
    |none=>
      refine⟨0,ZT _,λa ha=>(by lia),.inl ⟨c,?_⟩⟩;rw[T.empty c];dsimp only;rw[hp.d];rfl
    |some e=>
      obtain⟨i,h1,h2,h3⟩:=T.live c;rw[h1];dsimp only;rw[hh i e h2];by_cases q:e.1=h
      · refine⟨0,ZT _,λa ha=>(by lia),.inr ⟨e,i,c,q,h2,h3,?_⟩⟩;rw[hZ (by lia),F9];rfl
      · rw[hV (by lia),F9];cases m with
        |zero=>rw[show advs t.mask 0 p=p from rfl,c] at he;cases he
        |succ m=>
          obtain⟨m',g1,g2,g3⟩:=CB T hh h m cZ (adv t.mask p) hp.adv (by lia) he;refine⟨m'+1,(by lia),λa ha=>?_,g3⟩;cases a with
          |zero=>exact⟨e,c,q⟩
          |succ a=>exact g2 a (by lia)
theorem Bw (T:Cz t es C)(hh:∀i e,es[i]? = some e->hashAt i=e.1)(h:Int){p:Probe}(hp:lB t.mask p) :
    ∃m',(∀a,a<m'->∃e,C (advs t.mask a p).j=some e/\e.1≠h)/\
      ((C (advs t.mask m' p).j=none/\t.probe hashAt h p=some (.empty (advs t.mask m' p).j none)) \/
       ∃e i,C (advs t.mask m' p).j=some e/\e.1=h/\es[i]? = some e/\t.place[i]? = some (advs t.mask m' p).j/\t.probe hashAt h p=some (.candidate (advs t.mask m' p).j i (advs t.mask (m'+1) p))):=by
  obtain⟨y,hy,hc⟩:=T.free;obtain⟨k,hk⟩:=T.pow;obtain⟨m,h1,h2⟩:=wa hk hp hy;obtain⟨m',_,g2,g3⟩:=CB T hh h m _ p hp h1 (by rw[h2];exact hc);exact⟨m',g2,g3⟩
end
end Hc.Sx
namespace Hc.Sx
open PySem.SetTable
theorem jU {α:Type}(xs:Array α)(p:Nat)(x:α):(insertAt xs p x).toList=xs.toList.take p++x::xs.toList.drop p:=by
 simp[insertAt,aaZ,List.extract_eq_drop_take,ZA]
theorem cB {α:Type}{xs:Array α}{p:Nat}{x:α}(h:p<=xs.size)(i:Nat):(insertAt xs p x)[i]? = if i<p then xs[i]? else if i=p then some x else xs[i-1]? := by
 rw[←YB,jU];have lt:(xs.toList.take p).length=p:=by rw[Ys,X0];lia
 by_cases c:i<p
 ·rw[hZ c,Y7 (by lia),abO c,YB]
 ·rw[hV c,Y3 (by lia),lt];by_cases c2:i=p
  ·rw[hZ c2,c2,ade];rfl
  ·rw[hV c2,show i-p=(i-p-1)+1 by lia,Zj,ab3,YB];congr 1;lia
theorem gR {α:Type}{xs:Array α}{p:Nat}{x:α}(h:p<=xs.size):(insertAt xs p x).size=xs.size+1:=by
 grind[X0,jU,XW,X1,Ys,YR]
variable {V:Type}
noncomputable def N3 (C:Nat->Option (Int×V))(j:Nat)(e:Int×V):Nat->Option (Int×V):=λy=>if y=j then some e else C y
def LB (mask:Nat)(st:Int->Probe)(C:Nat->Option (Int×V)):Prop:=∀(j:Nat) (e:Int×V),C j=some e->∃n,(advs mask n (st e.1)).j=j/\∀m,m<n->∃e',C (advs mask m (st e.1)).j=some e'
section
variable {es:Array (Int×V)}{C:Nat->Option (Int×V)}
theorem Cz.put (T:Cz t es C){e:Int×V}(hj:j<=t.mask)(hc:C j=none)(hr:es.size+1<=t.mask) :
  Cz (t.put j).1 (insertAt es (t.put j).2 e) (N3 C j e)/\(t.put j).1.mask=t.mask/\(t.put j).1.plain=t.plain/\(t.put j).1.led=t.led/\(t.put j).1.moves=t.moves/\(t.put j).1.finger=t.finger:=by
 obtain⟨a,b,c⟩:=oI (j:=j) T.ris;have nz:∀i,t.place[i]? ≠ some j:=λi h=>by
  have hi:=(Za.mp h).1;have MW:i<es.size:=by rw[←T.sz];exact hi
  rw[(T.con j es[i]).mpr ⟨i,h,Yx MW⟩] at hc;cases hc
 have ep:(t.put j).1={t with place:=insertAt t.place (below t.place j) j}:=by
  unfold SetTable.put;dsimp only;rw[zg T.dum];rfl
 have e2:(t.put j).2=below t.place j:=rfl;have c2:below t.place j<=es.size:=by rw[←T.sz];exact c
 rw[ep,e2];refine⟨⟨?_,?_,T.dum,T.pow,?_,?_,?_⟩,rfl,rfl,rfl,rfl,rfl⟩
 ·intro i i' hi EU lt;have g:=λx=>cB (x:=j) c x;dsimp only at hi EU ⊢;have e1:=g i;have B5:=g i';rw[Yx hi] at e1;rw[Yx EU] at B5;rw[gR c] at hi EU;have at_:∀x (hx:x<t.place.size),t.place[x]? = some t.place[x]:=λx hx=>Yx hx;have Wi:∀x (hx:x<t.place.size),t.place[x]≠j:=λx hx z=>nz x (by rw[at_ x hx,z]);by_cases q:i<below t.place j
  ·rw[hZ q,at_ i (by lia)] at e1;have e1:=Yl e1;rw[e1];by_cases q':i'<below t.place j
   ·rw[hZ q',at_ i' (by lia)] at B5;rw[Yl B5];exact T.ris _ _ _ _ lt
   grind
  ·rw[hV q] at e1;rw[hV (by lia),hV (by lia),at_ (i' - 1) (by lia)] at B5;rw[Yl B5];by_cases r:i=below t.place j
   ·grind
   ·rw[hV r,at_ (i-1) (by lia)] at e1;rw[Yl e1];exact T.ris _ _ _ _ (by lia)
 ·show (insertAt t.place _ j).size=_;rw[gR c,gR c2,T.sz]
 ·rw[gR c2];exact hr
 ·intro i y h;have h:(insertAt t.place (below t.place j) j)[i]? = some y:=h;rw[cB c] at h;split at h
  ·exact T.top i y h
  ·split at h
   ·cases h;exact hj
   ·exact T.top _ y h
 ·intro y v;show N3 C j e y=some v↔∃i,(insertAt t.place (below t.place j) j)[i]? = some y/\(insertAt es (below t.place j) e)[i]? = some v;unfold N3;constructor
  ·intro h;split at h
   ·rename_i q;cases h;subst q;refine⟨below t.place y,?_,?_⟩
    ·rw[cB c,hV (ZJ _),hZ rfl]
    ·rw[cB c2,hV (ZJ _),hZ rfl]
   ·obtain⟨i,h1,h2⟩:=(T.con y v).mp h;by_cases q:i<below t.place j
    ·exact⟨i,by simp_all[cB,hZ],by simp_all[cB,hZ]⟩
    ·exact⟨i+1,by rw[cB c,hV (by lia),hV (by lia)];exact h1,by rw[cB c2,hV (by lia),hV (by lia)];exact h2⟩
  ·rintro⟨i,h1,h2⟩;rw[cB c] at h1;rw[cB c2] at h2;by_cases q:i<below t.place j
   ·rw[hZ q] at h1 h2;rw[hV (λz=>nz i (by rw[h1,z]))];exact (T.con y v).mpr ⟨i,h1,h2⟩
   ·rw[hV q] at h1 h2;by_cases r:i=below t.place j
    ·lia
    ·rw[hV r] at h1 h2;rw[hV (λz=>nz (i-1) (by rw[h1,z]))];exact (T.con y v).mpr ⟨_,h1,h2⟩
theorem LB.up {st:Int->Probe}(P:LB mask st C){e:Int×V}(hb:∀m,m<n->∃e',C (advs mask m (st e.1)).j=some e')(hc:C (advs mask n (st e.1)).j=none):LB mask st (N3 C (advs mask n (st e.1)).j e):=by
 have II:∀y,(∃e',C y=some e')->∃e',N3 C (advs mask n (st e.1)).j e y=some e':=λy h00=>by
  obtain⟨e',h⟩:=h00;unfold N3;grind
 intro j v h;unfold N3 at h;split at h
 ·rename_i q;cases h;exact⟨n,q.symm,λm hm=>II _ (hb m hm)⟩
 ·obtain⟨n',h1,h2⟩:=P j v h;exact⟨n',h1,λm hm=>II _ (h2 m hm)⟩
theorem LB.met {st:Int->Probe}(P:LB mask st C){h:Int}(hc:C (advs mask n (st h)).j=none){e:Int×V}(he:C j=some e)(hh:e.1=h):∃m,m<n/\(advs mask m (st h)).j=j:=by
 obtain⟨m,h1,h2⟩:=P j e he;rw[hh] at h1 h2;rcases abw m n with z|z|z
 ·exact⟨m,z,h1⟩
 ·subst z;rw[h1,he] at hc;cases hc
 ·obtain⟨e',q⟩:=h2 n z;rw[q] at hc;cases hc
end
noncomputable def abc (mask:Nat)(h:Int):Probe:={j:=bits h % (mask+1),more:=runEnd mask (bits h % (mask+1))-bits h % (mask+1),i:=bits h % (mask+1),perturb:=bits h,dummy:=none}
theorem qd {mask:Nat}:∀(k:Nat) {p:Probe},k<=p.more->(advs mask k p).j=p.j+k/\(advs mask k p).more=p.more-k/\(advs mask k p).i=p.i/\(advs mask k p).perturb=p.perturb/\(advs mask k p).dummy=p.dummy
 |0,p,_=>⟨rfl,rfl,rfl,rfl,rfl⟩
 |k+1,p,h=>by
  obtain⟨a,b,c,d,e⟩:=qd (mask:=mask) k (p:=adv mask p) (by unfold adv;rw[hZ (by lia)];dsimp only;lia);have e1:(adv mask p).j=p.j+1/\(adv mask p).more=p.more-1/\(adv mask p).i=p.i/\(adv mask p).perturb=p.perturb/\(adv mask p).dummy=p.dummy:=by unfold adv;rw[hZ (by lia)];exact⟨rfl,rfl,rfl,rfl,rfl⟩
  refine⟨?_,?_,c.trans e1.2.2.1,d.trans e1.2.2.2.1,e.trans e1.2.2.2.2⟩
  ·show (advs mask k (adv mask p)).j=_;rw[a,e1.1];lia
  ·show (advs mask k (adv mask p)).more=_;rw[b,e1.2.1];lia
theorem wc {mask:Nat}{owner:Array (Option Nat)}(hs:owner.size=mask+1):∀(n cZ:Nat) (p:Probe),p.j=p.i->p.more=runEnd mask p.i-p.i->p.i<=mask->n<cZ->owner[(fX mask n (p.i,p.perturb)).1]? = some none->
  ∃m,layClean.free mask owner cZ p.i p.perturb=some (advs mask m p).j/\owner[(advs mask m p).j]? = some none/\∀a,a<m->∃i,owner[(advs mask a p).j]? = some (some i)
 |n,0,p,_,_,_,hf,_=>by lia
 |n,cZ+1,p,hj,hm,hi,hf,hn=>by
  have re:runEnd mask p.i<=mask/\p.i<=runEnd mask p.i:=by unfold runEnd;split<;>lia
  have at_:∀a,a<=p.more->∃o,owner[p.i+a]? = some o:=λa ha=>⟨owner[p.i+a]'(by lia),Yx (by lia)⟩;have gd:∀a o,owner[p.i+a]? = some o->owner.getD (p.i+a) (some 0)=o:=λa o h=>by
   simp[*]
  unfold layClean.free;cases hq:(YF (runEnd mask p.i+1-p.i)).find? (λk=>(owner.getD (p.i+k) (some 0)).isNone) with
  |some k=>
   obtain⟨h1,as,bs,h2,h3⟩:=List.find?_eq_some_iff_append.mp hq;have hk:k<runEnd mask p.i+1-p.i:=Y0.mp (by rw[h2];simp);have MX:k<=p.more:=(by lia)
   obtain⟨o,ho⟩:=at_ k MX;rw[gd k o ho] at h1;have on:o=none:=by simp_all
   subst on;refine⟨k,?_,?_,λa ha=>?_⟩
   ·dsimp only;rw[(qd k MX).1,hj]
   ·rw[(qd k MX).1,hj];exact ho
   ·rw[(qd a (by lia)).1,hj];obtain⟨o,ho⟩:=at_ a (by lia);have am:a∈as:=by
     have la:as.length=k:=by
      have e:(YF (runEnd mask p.i+1-p.i))[as.length]? = some k:=by rw[h2,Y3 (X6 _),ade];rfl
      have lt:as.length<runEnd mask p.i+1-p.i:=by
       have:=(X3.mp e).1;simpa using this
      rw[abb lt] at e;exact Yl e
     have e:(YF (runEnd mask p.i+1-p.i))[a]? = some a:=abb (by lia);rw[h2,Y7 (by lia)] at e;exact YA e
    have:=h3 a am;rw[gd a o ho] at this;cases o with
    |none=>lia
    |some x=>exact⟨x,ho⟩
  |none=>
   have all:=List.find?_eq_none.mp hq;have Vi:∀a,a<=p.more->∃i,owner[p.i+a]? = some (some i):=λa ha=>by
    obtain⟨o,ho⟩:=at_ a ha;have:=all a (Y0.mpr (by lia));rw[gd a o ho] at this;cases o with
    |none=>simp at this
    |some x=>exact⟨x,ho⟩
   cases n with
   |zero=>
    obtain⟨i,h⟩:=Vi 0 (ZT _);rw[show fX mask 0 (p.i,p.perturb)=(p.i,p.perturb) from rfl,←adf p.i,h] at hn;cases hn
   |succ n=>
    obtain⟨a1,a2,a3,a4,a5⟩:=qd (mask:=mask) p.more (p:=p) (X6 _);have e1:advs mask (p.more+1) p={advs mask p.more p with j:=(leap mask p.i p.perturb).1,more:=runEnd mask (leap mask p.i p.perturb).1-(leap mask p.i p.perturb).1,i:=(leap mask p.i p.perturb).1,perturb:=(leap mask p.i p.perturb).2}:=by
     simp_all[v_,adv,hV]
    obtain⟨m,g1,g2,g3⟩:=wc hs n cZ (advs mask (p.more+1) p) (by rw[e1]) (by rw[e1]) (by rw[e1];exact aaw (abv _ (abm _))) (by lia) (by rw[e1];exact hn);refine⟨p.more+1+m,?_,by rw[i_];exact g2,λa ha=>?_⟩
    ·rw[i_];rw[e1] at g1 ⊢;exact g1
    ·rcases aaO a (p.more+1) with z|z
     ·grind[qd]
     ·have:=g3 (a-(p.more+1)) (by lia);rw[←i_,show p.more+1+(a-(p.more+1))=a by lia] at this;exact this
end Hc.Sx
namespace Hc.Sx
open PySem.SetTable
structure LC (mask:Nat)(owner:Array (Option Nat))(k:Nat)(Hf:Nat->Int):Prop where
 sz:owner.size=mask+1
 ix:∀(j i:Nat),owner[j]? = some (some i)->i<k
 ex:∀i:Nat,i<k->∃j:Nat,owner[j]? = some (some i)
 un:∀(j j' i:Nat),owner[j]? = some (some i)->owner[j']? = some (some i)->j=j'
 pt:∀(j i:Nat),owner[j]? = some (some i)->∃n,(advs mask n (abc mask (Hf i))).j=j/\∀m,m<n->∃i':Nat,owner[(advs mask m (abc mask (Hf i))).j]? = some (some i')
section
variable {owner:Array (Option Nat)}{Hf:Nat->Int}
theorem LC.free (O:LC mask owner k Hf)(hk:k<=mask):∃y,y<=mask/\owner[y]? = some none:=by
 refine aaW λhn=>?_;have full:∀y,y<mask+1->∃i,owner[y]? = some (some i):=λy hy=>by
  have h1:y<owner.size:=by rw[O.sz];exact hy
  cases e:owner[y] with
  |none=>exact absurd ⟨y,(by lia),by rw[Yx h1,e]⟩ hn
  |some i=>exact⟨i,by rw[Yx h1,e]⟩
 have g:∀y,∃i,y<mask+1->owner[y]? = some (some i):=λy=>by
  grind
 let f:=λy=>Classical.choose (g y)
 have hf:∀y,y<mask+1->owner[y]? = some (some (f y)):=λy=>Classical.choose_spec (g y);have:=aa8 (l₁:=(YF (mask+1)).map f) (l₂:=YF k) (by
  unfold List.Nodup;rw[Z4];refine aa6 (λ{a b} ha hb AO e=>?_) acC;have h1:=hf a (Y0.mp ha);have h2:=hf b (Y0.mp hb);rw[e] at h1;exact AO (O.un _ _ _ h1 h2)) (λx hx=>by
  obtain⟨y,hy,rfl⟩:=Yn.mp hx;exact Y0.mpr (O.ix y _ (hf y (Y0.mp hy))))
 rw[XO,YZ,YZ] at this;lia
theorem LC.step (O:LC mask owner k Hf)(hp:∃p,mask+1=2 ^ p)(hk:k<=mask):∃j,layClean.free mask owner (turns mask) (bits (Hf k) % (mask+1)) (bits (Hf k))=some j/\LC mask (owner.setIfInBounds j (some k)) (k+1) Hf:=by
 obtain⟨y,hy,ho⟩:=O.free hk;obtain⟨p,hp⟩:=hp;have hi:bits (Hf k) % (mask+1)<=mask:=aaw (abv _ (abm _));obtain⟨n,h1,h2⟩:=v9 hp (i:=bits (Hf k) % (mask+1)) (q:=bits (Hf k)) hi (CA _) hy;obtain⟨m,g1,g2,g3⟩:=wc O.sz n (turns mask) (abc mask (Hf k)) rfl rfl hi (by unfold turns;lia) (by
  show owner[(fX mask n (bits (Hf k) % (mask+1),bits (Hf k))).1]? = _;rw[h2];exact ho)
 refine⟨_,g1,?_⟩;have hj:(advs mask m (abc mask (Hf k))).j<owner.size:=(Za.mp g2).1;generalize ej:(advs mask m (abc mask (Hf k))).j=j at *;have gt:∀x,(owner.setIfInBounds j (some k))[x]? = if x=j then some (some k) else owner[x]? := λx=>by
  rw[Array.getElem?_setIfInBounds];by_cases c:j=x
  ·rw[hZ c,hZ c.symm,hZ hj]
  ·rw[hV c,hV (λz=>c z.symm)]
 have II:∀x:Nat,(∃i':Nat,owner[x]? = some (some i'))->∃i':Nat,(owner.setIfInBounds j (some k))[x]? = some (some i'):=λx h00=>by
  obtain⟨i',h⟩:=h00;rw[gt];split
  ·exact⟨k,rfl⟩
  ·exact⟨i',h⟩
 refine⟨by rw[Array.size_setIfInBounds];exact O.sz,λx i h=>?_,λi hi=>?_,λx x' i h h'=>?_,λx i h=>?_⟩
 ·rw[gt] at h;split at h
  ·cases h;lia
  ·have:=O.ix x i h;lia
 ·by_cases c:i=k
  ·exact⟨j,by rw[gt,hZ rfl,c]⟩
  ·obtain⟨x,h⟩:=O.ex i (by lia);refine⟨x,?_⟩;rw[gt,hV (λz=>by rw[z,g2] at h;cases h)];exact h
 ·rw[gt] at h h';by_cases c:x=j
  ·by_cases c':x'=j
   ·rw[c,c']
   ·rw[hZ c] at h;rw[hV c'] at h';cases h;have:=O.ix _ _ h';lia
  ·by_cases c':x'=j
   ·rw[hV c] at h;rw[hZ c'] at h';cases h';have:=O.ix _ _ h;lia
   ·rw[hV c] at h;rw[hV c'] at h';exact O.un _ _ _ h h'
 ·rw[gt] at h;split at h
  ·rename_i c;cases h;exact⟨m,by rw[ej,c],λa ha=>II _ (g3 a ha)⟩
  ·obtain⟨n,h1,h2⟩:=O.pt x i h;exact⟨n,h1,λa ha=>II _ (h2 a ha)⟩
end
noncomputable def Ka (mask:Nat)(b9:Option (Array (Option Nat)×Nat))(h:Int):Option (Array (Option Nat)×Nat):=do
  let (owner,k) ←b9
  let j ←layClean.free mask owner (turns mask) (bits h % (mask+1)) (bits h)
  pure (owner.setIfInBounds j (some k),k+1)
theorem CC {mask:Nat}{Hf:Nat->Int}(hp:∃p,mask+1=2 ^ p):∀(hs:List Int) (k:Nat) (owner:Array (Option Nat)),LC mask owner k Hf->(∀i,i<hs.length->hs[i]? = some (Hf (k+i)))->k+hs.length<=mask->
  ∃owner',hs.foldl (Ka mask) (some (owner,k))=some (owner',k+hs.length)/\LC mask owner' (k+hs.length) Hf
 | [],k,owner,O,_,_=>⟨owner,rfl,O⟩
 |h::hs,k,owner,O,he,hl=>by
  have e0:h=Hf k:=by have:=he 0 (by simp);simpa using this
  rw[X1] at hl;obtain⟨j,g1,g2⟩:=O.step hp (by lia);obtain⟨owner',f1,f2⟩:=CC hp hs (k+1) _ g2 (λi hi=>by
   have:=he (i+1) (by rw[X1];lia);rw[Zj] at this;rw[this];congr 2;lia) (by lia)
  refine⟨owner',?_,?_⟩
  ·rw[List.foldl_cons,show Ka mask (some (owner,k)) h=some (owner.setIfInBounds j (some k),k+1) by unfold Ka;rw[e0];simp[g1],f1,X1];congr 2;lia
  ·rw[X1,show k+(hs.length+1)=k+1+hs.length by lia];exact f2
theorem Kb (mask:Nat)(Hf:Nat->Int):LC mask (Array.replicate (mask+1) none) 0 Hf:=by
 have no:∀(j i:Nat),(Array.replicate (mask+1) (none:Option Nat))[j]? ≠ some (some i):=λj i h=>by
  rw[Array.getElem?_replicate] at h;split at h<;>cases h
 exact⟨by simp,λj i h=>absurd h (no j i),λi h=>absurd h (acS _),λj _ i h=>absurd h (no j i),λj i h=>absurd h (no j i)⟩
theorem jV {α β:Type}{f:α->Option β}:∀{l:List α},(∀x∈l,∃y,f x=some y)->∀n:Nat,(l.filterMap f)[n]? = (l[n]?).bind f
 | [],_,n=>by simp
 |x::l,h,n=>by
  obtain⟨y,hy⟩:=h x X2;rw[adE hy];cases n with
  |zero=>simp[hy]
  |succ n=>simpa using jV (λz hz=>h z (X4 _ hz)) n
theorem mU {α β:Type}{f:α->Option β}:∀{l:List α},(∀x∈l,∃y,f x=some y)->(l.filterMap f).length=l.length
 | [],_=>rfl
 |x::l,h=>by
  obtain⟨y,hy⟩:=h x X2;rw[adE hy,X1,X1,mU λz hz=>h z (X4 _ hz)]
variable {V:Type}
theorem oJ {finger moves:Nat}{led plain:Bool}{es:Array (Int×V)}(hp:∃p,mask+1=2 ^ p)(hl:es.size<=mask):∃(t:abC) (order:Array Nat) (C:Nat->Option (Int×V)),laid mask finger moves led plain (es.map (·.1))=some (t,order)/\
  Cz t (order.filterMap (es[·]?)) C/\LB mask (abc mask) C/\(order.filterMap (es[·]?)).size=es.size/\t.mask=mask/\t.finger=finger/\t.moves=moves/\t.led=led/\t.plain=plain/\
  (order.filterMap (es[·]?)).toList.Perm es.toList:=by
 obtain⟨owner,f1,O⟩:=CC (Hf:=λi=>(es[i]?.map (·.1)).getD 0) hp (es.map (·.1)).toList 0 _ (Kb mask _) (λi hi=>by
  have MW:i<es.size:=by simpa using hi
  simp[MW]) (by simpa using hl)
 rw[aaM,X0,Array.size_map] at f1 O;have lc:layClean mask (es.map (·.1))=some owner:=by
  unfold layClean;rw[←Array.foldl_toList];show ((es.map (·.1)).toList.foldl (Ka mask) (some (Array.replicate (mask+1) none,0))).map (·.1)=some owner;rw[f1];rfl
 let live:=(YF (mask+1)).filterMap λj=>(owner.getD j none).map (j,·)
 have gd:∀j i,owner.getD j none=some i↔owner[j]? = some (some i):=λj i=>by
  by_cases h:j<owner.size
  ·simp[acm,h]
  ·simp[acm,h]
 have ml:∀j i,(j,i)∈live↔owner[j]? = some (some i):=λj i=>by
  show (j,i)∈List.filterMap _ _↔_;rw[abX];constructor
  ·simp_all
  ·intro h;refine⟨j,Y0.mpr ?_,by rw[(gd j i).mpr h];rfl⟩;have:=(Za.mp h).1;rw[O.sz] at this;exact this
 have pw:live.Pairwise (λa b=>a.1<b.1/\a.2≠b.2):=by
  show List.Pairwise _ (List.filterMap _ _);rw[List.pairwise_filterMap];refine List.pairwise_lt_range.imp λ{a b} AO x hx y hy=>?_;cases e:owner.getD a none with
  |none=>rw[e] at hx;cases hx
  |some i=>cases e':owner.getD b none with
   |none=>rw[e'] at hy;cases hy
   |some i'=>
    rw[e] at hx;rw[e'] at hy;cases hx;cases hy;refine⟨AO,λz=>?_⟩;dsimp only at z;subst z;have:=O.un _ _ _ ((gd _ _).mp e) ((gd _ _).mp e');lia
 have Vj:(live.map (·.2)).Perm (YF es.size):=by
  have nd:(live.map (·.2)).Nodup:=by
   unfold List.Nodup;rw[Z4];exact pw.imp λh=>h.2
  exact (ac3 nd acC).mpr λi=>by
   rw[Yn,Y0];constructor
   ·rintro⟨⟨j,i'⟩,h,rfl⟩;exact O.ix j i' ((ml j i').mp h)
   ·intro h;obtain⟨j,e⟩:=O.ex i h;exact⟨(j,i),(ml j i).mpr e,rfl⟩
 have len:live.length=es.size:=by
  have:=Vj.length_eq
  rwa [XO,YZ] at this
 have Wj:∀x∈live,∃y,es[x.2]? = some y:=λx hx=>by
  have:=O.ix x.1 x.2 ((ml x.1 x.2).mp hx);simp[*]
 have RE:∀x∈live.map (·.2),∃y,es[x]? = some y:=λx hx=>by
  obtain⟨z,hz,rfl⟩:=Yn.mp hx;exact Wj z hz
 have Uo:((live.map (·.2)).toArray.filterMap (es[·]?)).toList=(live.map (·.2)).filterMap (es[·]?):=by simp
 have Vk:∀n:Nat,((live.map (·.2)).toArray.filterMap (es[·]?))[n]? = (live[n]?).bind λx=>es[x.2]? := λn=>by
  rw[←YB,Uo,jV RE,Yq];cases live[n]? <;> rfl
 have Up:∀n:Nat,(live.map (·.1)).toArray[n]? = (live[n]?).map (·.1):=λn=>by
  simp
 let C:Nat->Option (Int×V):=λj=>(owner.getD j none).bind (es[·]?)
 have hC:∀j e,C j=some e↔∃i,owner[j]? = some (some i)/\es[i]? = some e:=λj e=>by
  show (owner.getD j none).bind _=some e↔_;cases q:owner.getD j none with
  |none=>
   grind
  |some i=>
   constructor
   ·intro h;exact⟨i,(gd j i).mp q,h⟩
   ·rintro⟨i',h,h2⟩;rw[(gd j i').mpr h] at q;cases q;exact h2
 have Ji:((live.map (·.2)).toArray.filterMap (es[·]?)).size=es.size:=by
  rw[←X0,Uo,mU RE,XO,len]
 refine⟨{mask,place:=(live.map (·.1)).toArray,dummies:=(List.toArray []),finger,led,moves,plain},(live.map (·.2)).toArray,C,?_,⟨?_,?_,rfl,hp,?_,?_,?_⟩,?_,Ji,rfl,rfl,rfl,rfl,rfl,?_⟩
 ·unfold laid;rw[lc];rfl
 ·intro i j hi hj lt;have g:=pw;rw[aaX] at g;have EU:i<live.length:=by simpa using hi
  have Wl:j<live.length:=by simpa using hj
  have:=(g i j EU Wl lt).1;simpa using this
 ·show ((live.map (·.1)).toArray).size=_;rw[Ji];simp[len]
 ·rw[Ji];exact hl
 ·intro i j h;have h:(live.map (·.1)).toArray[i]? = some j:=h;rw[Up] at h;cases e:live[i]? with
  |none=>rw[e] at h;cases h
  |some x=>
   rw[e] at h;cases h;have:=(Za.mp ((ml x.1 x.2).mp (YA e))).1;rw[O.sz] at this;exact aaw this
 ·intro j e;show C j=some e↔∃i:Nat,(live.map (·.1)).toArray[i]? = some j/\_;rw[hC];constructor
  ·rintro⟨i,h1,h2⟩;obtain⟨n,hn⟩:=aaQ.mp ((ml j i).mpr h1);exact⟨n,by rw[Up,hn];rfl,by rw[Vk,hn];exact h2⟩
  ·rintro⟨n,h1,h2⟩;rw[Up] at h1;rw[Vk] at h2;cases q:live[n]? with
   |none=>rw[q] at h1;cases h1
   |some x=>
    rw[q] at h1 h2;cases h1;exact⟨x.2,(ml x.1 x.2).mp (YA q),h2⟩
 ·intro j e h;obtain⟨i,h1,h2⟩:=(hC j e).mp h;obtain⟨n,g1,g2⟩:=O.pt j i h1;have hf:(es[i]?.map (·.1)).getD 0=e.1:=by rw[h2];rfl
  rw[hf] at g1 g2;refine⟨n,g1,λm hm=>?_⟩;obtain⟨i',h3⟩:=g2 m hm;have:=O.ix _ _ h3;exact⟨es[i'],(hC _ _).mpr ⟨i',h3,Yx this⟩⟩
 ·rw[Uo];refine (Vj.filterMap _).trans ?_;have e:(YF es.size).filterMap (es[·]?)=es.toList:=by
   refine acn λn=>?_;rw[jV (λx hx=>⟨es[x]'(Y0.mp hx),Yx (Y0.mp hx)⟩)];by_cases h:n<es.size
   ·rw[abb h];simp
   ·rw[ZD.mpr (by simpa using h),ZD.mpr (by simpa using h)];rfl
  rw[e]
end Hc.Sx
namespace Hc.Sx
open PySem.SetTable
theorem zh:∀(cZ size n:Nat),(∃p,size=2 ^ p)->8<=size->(size<=8\/size<=2*n)->n<size*2 ^ cZ->(∃p,sizeAbove.go n cZ size=2 ^ p)/\n<sizeAbove.go n cZ size/\8<=sizeAbove.go n cZ size/\(sizeAbove.go n cZ size<=8\/sizeAbove.go n cZ size<=2*n)
 |0,size,n,hp,h8,hb,hn=>by
  unfold sizeAbove.go;exact⟨hp,by simpa using hn,h8,hb⟩
 |cZ+1,size,n,⟨p,hp⟩,h8,hb,hn=>by
  unfold sizeAbove.go;by_cases c:size<=n
  ·rw[hZ c];exact zh cZ (size*2) n ⟨p+1,by rw[hp,aat]⟩ (by lia) (.inr (by lia)) (by rw[aat,aaN (2 ^ cZ) 2,←ZV] at hn;exact hn)
  ·rw[hV c];exact⟨⟨p,hp⟩,(by lia),h8,hb⟩
def F_ (h:n<2 ^ 60):(∃p,sizeAbove n=2 ^ p)/\n<sizeAbove n/\8<=sizeAbove n/\(sizeAbove n<=8\/sizeAbove n<=2*n):=
 zh 64 8 n ⟨3,rfl⟩ (X6 _) (.inl (X6 _)) (aau h (by decide))
structure qG {prog:aaT}{w:Y6}{K:Type}[DecidableEq K](knd:acu prog w K):Prop where
 cls:∀{A:YG} {E:XY->Ya->Prop} {s:Ya} {k:K} {a:Ye} {Q:Bool->Ya->Prop},knd.is s.heap k a->Q false s->Yg (Yw prog w) A (ofAClassStatement 8 (.ref a)) Q E s
 byv:∀{A:YG} {E:XY->Ya->Prop} {s:Ya} {k:K} {a:Ye} {Q:Bool->Ya->Prop},knd.is s.heap k a->Q true s->Yg (Yw prog w) A (hashByValue 8 (.ref a)) Q E s
 kept:∀{h h':Z9} {k:K} {a d:Ye} {o:Obj} {es:Array (Int×XY)} {ep:Nat} {t:abC},knd.is h k a->h.get? d=some o->o.data=.set es ep t->aa7 d h h'->knd.is h' k a
section
variable {w:Y6}{K:Type}[DecidableEq K]{knd:acu prog w K}
noncomputable def R3 (knd:acu prog w K)(x:K×Ye):Int×XY:=(knd.hash x.1,.ref x.2)
structure HS (knd:acu prog w K)(h:Z9)(xs:List (K×Ye))(es:Array (Int×XY))(t:abC)(C:Nat->Option (Int×XY)):Prop where
 tab:Cz t es C
 pth:LB t.mask (abc t.mask) C
 pl:t.plain=true
 lo:7<=t.mask
 hi:t.mask<=8191
 few:es.size*5<t.mask*3
 per:es.toList.Perm (xs.map (R3 knd))
 keys:∀x∈xs,knd.is h x.1 x.2
 nd:(xs.map (·.1)).Nodup
def nE (knd:acu prog w K)(byText:Bool)(h:Z9)(a:Ye)(xs:List (K×Ye)):Prop:=
 ∃o es ep t C,h.get? a=some o/\o.ExactSet/\o.data=.set es ep t/\HS knd h xs es t C/\(byText=true\/t.led=true)
variable {A:YG}
def HS.fits {xs:List (K×Ye)}{C:Nat->Option (Int×XY)}(S:HS knd h xs es t C):t.fits es.size=true:=by
 unfold SetTable.fits SetTable.fill;rw[S.tab.sz,S.tab.dum];simp;exact S.tab.room
theorem HS.stays {xs:List (K×Ye)}{C:Nat->Option (Int×XY)}(S:HS knd h xs es t C):t.gaveWay=false:=by
 unfold SetTable.gaveWay;obtain⟨p,hp⟩:=S.tab.pow;have:=S.lo;cases p with
 |zero=>lia
 |succ p=>lia
theorem HS.entry {xs:List (K×Ye)}{C:Nat->Option (Int×XY)}(S:HS knd h xs es t C){e:Int×XY}(he:e∈es.toList):∃k b,(k,b)∈xs/\e=(knd.hash k,.ref b)/\knd.is h k b:=by
 obtain⟨⟨k,b⟩,hx,rfl⟩:=Yn.mp (S.per.mem_iff.mp he);exact⟨k,b,hx,rfl,S.keys _ hx⟩
theorem HS.at {xs:List (K×Ye)}{C:Nat->Option (Int×XY)}(S:HS knd h xs es t C){e:Int×XY}(hc:C j=some e):∃k b,(k,b)∈xs/\e=(knd.hash k,.ref b)/\knd.is h k b:=by
 obtain⟨i,_,h2⟩:=(S.tab.con j e).mp hc;exact S.entry (by have:=Array.mem_of_getElem? h2;simpa using this)
theorem HS.has {xs:List (K×Ye)}{C:Nat->Option (Int×XY)}(S:HS knd h xs es t C){k:K}{b:Ye}(hx:(k,b)∈xs):∃j,C j=some (knd.hash k,.ref b):=by
 have:R3 knd (k,b)∈es.toList:=S.per.mem_iff.mpr (Yn.mpr ⟨_,hx,rfl⟩);obtain⟨i,hi⟩:=aaQ.mp this;rw[YB] at hi;have h2:i<t.place.size:=by rw[S.tab.sz];exact (Za.mp hi).1
 exact⟨t.place[i],(S.tab.con _ _).mpr ⟨i,Yx h2,hi⟩⟩
theorem Eg (sk:qG knd){k:K}{b:Ye}(hk:knd.is s.heap k b){Q:Bool->Ya->Prop}(l:List XY)(hl:∀y∈l,∃k' b',y=.ref b'/\knd.is s.heap k' b')(h:Q false s):Yg (Yw prog w) A (searchCouldBeSeen (.ref b) l) Q E s:=by
 unfold searchCouldBeSeen;refine XM ?_;refine wpAny_forIn_list _ (λrest r s'=>r.1=none/\s'=s/\∀y∈rest,∃k' b',y=.ref b'/\knd.is s.heap k' b') _ ?_ ?_ _ _ ⟨rfl,rfl,hl⟩
 ·rintro y rest r s' ⟨hr,rfl,hy⟩;obtain⟨k',b',rfl,MX⟩:=hy y X2;have next:∀z∈rest,∃k' b',z=Value.ref b'/\knd.is s'.heap k' b':=λz hz=>hy z (X4 _ hz)
  dsimp only;split
  ·exact XS ⟨rfl,rfl,next⟩
  ·refine XM (knd.quiet hk ?_);simp only[aaq,Yj,if_false];refine XM (knd.quiet MX ?_);simp only[aaq,Yj,if_false];refine XM (sk.cls hk ?_);simp only[Yj,if_false];refine XM (sk.cls MX ?_);simp only[Yj,if_false];exact XS ⟨rfl,rfl,next⟩
 ·rintro⟨r1,r2⟩ s' ⟨hr,rfl,_⟩;grind[XS]
end
end Hc.Sx
namespace Hc.Sx
open PySem.SetTable
section
variable {w:Y6}{K:Type}[DecidableEq K]{knd:acu prog w K}{A:YG}
variable {b:Ye}{o:Obj}{C:Nat->Option (Int×XY)}{xs:List (K×Ye)}{k:K}
noncomputable abbrev CD (t:abC)(h:Int)(n:Nat):Nat:=(advs t.mask n (abc t.mask h)).j
theorem qH (sk:qG knd)(hr:knd.room A)(hk:knd.is s.heap k b)(ho:s.heap.get? a=some o)(hd:o.data=.set es ep t)(S:HS knd s.heap xs es t C){Q:SetFound->Ya->Prop}{N:Nat}(hN:C (CD t (knd.hash k) N)=none)
  (yv:k∈xs.map (·.1)->Q (.there none) s)
  (vc:k∉xs.map (·.1)->∀n,(∀m,m<n->∃e,C (CD t (knd.hash k) m)=some e)->C (CD t (knd.hash k) n)=none->Q (.free (CD t (knd.hash k) n) false) s) :
  ∀(cZ n:Nat) (stand:Option Probe),stand.getD (t.probeStart (knd.hash k))=advs t.mask n (abc t.mask (knd.hash k))->N<n+cZ->(∀m,m<n->∃k' b',C (CD t (knd.hash k) m)=some (knd.hash k',.ref b')/\(k',b')∈xs/\k'≠k)->
   Yg (Yw prog w) A (setSearchFrom a (.ref b) (knd.hash k) true cZ stand) Q E s
 |0,n,stand,hs,hf,hb=>by
  grind
 |cZ+1,n,stand,hs,hf,hb=>by
  unfold setSearchFrom;refine XM (Zo ho hd S.fits ?_);dsimp only;rw[S.stays];simp only[Yj,if_false];obtain⟨m',g1,g2⟩:=Bw S.tab (hashAt:=λi=>(es[i]?.map (·.1)).getD 0) (λi e h=>by grind) (knd.hash k) (lB.advs n (lB.start t (knd.hash k)));have pa:∀x,(advs t.mask x (advs t.mask n (t.probeStart (knd.hash k)))).j=CD t (knd.hash k) (n+x):=λx=>by rw[←i_];rfl
  have Sl:∀m,m<n+m'->∃k' b',C (CD t (knd.hash k) m)=some (knd.hash k',.ref b')/\(k',b')∈xs/\k'≠k:=λm hm=>by
   rcases aaO m n with z|z
   ·exact hb m z
   ·obtain⟨e,h1,h2⟩:=g1 (m-n) (by lia);rw[pa,show n+(m-n)=m by lia] at h1;obtain⟨k',b',hx,rfl,_⟩:=S.at h1;grind
  have pe:t.probe (λi=>(es[i]?.map (·.1)).getD 0) (knd.hash k) (stand.getD (t.probeStart (knd.hash k)))=t.probe (λi=>(es[i]?.map (·.1)).getD 0) (knd.hash k) (advs t.mask n (t.probeStart (knd.hash k))):=by rw[hs];rfl
  rcases g2 with⟨c1,c2⟩|⟨e,i,c1,c2,c3,c4,c5⟩
  ·
   have Uq:=pe.trans c2;rw[pa] at c1 Uq;have nx:k∉xs.map (·.1):=λhm=>by
    obtain⟨⟨k0,b0⟩,hx,rfl⟩:=Yn.mp hm;obtain⟨j,hj⟩:=S.has hx;obtain⟨m,hm,hmj⟩:=S.pth.met c1 hj rfl;obtain⟨k',b',h1,h2,h3⟩:=Sl m hm;have h1:C j=some (knd.hash k',.ref b'):=by lia
    rw[hj] at h1;have eb:b0=b':=by
     lia
    subst eb;exact h3 (knd.inj (S.keys _ h2) (S.keys _ hx))
   have fin:=vc nx (n+m') (λm hm=>let ⟨k',b',h1,_⟩:=Sl m hm;⟨_,h1⟩) c1;split
   ·rename_i met hq;have e:=(hq.symm.trans Uq);cases e;exact XS fin
   ·rename_i hq;exact absurd Uq (by intro z;exact hq _ z)
  ·
   have O5:=pe.trans c5;rw[pa] at c1 c4 O5;rw[←i_] at O5;obtain⟨k',b',hx,rfl,MX⟩:=S.at c1;have lN:n+m'<N:=by
    rcases abw N (n+m') with z|z|z
    ·grind
    ·lia
    ·exact z
   have body:∀R:Sem SetFound,R=(do
     let some (_,y):=es[i]? | abI "internal:set-entry"
     let equal ←adk [y] (eqBool y (.ref b))
     let (IJ,_,t') ←setState a
     if true&&equal then return .there none
     let some same:=t'.sameMemory t.moves t.mask|abI "set.changed-during-lookup:is-the-new-block-at-the-old-address"
     let DK ←match (if same then t'.slot (CD t (knd.hash k) (n+m')) else .empty) with
      | .live i'=>match IJ[i']? with
       |some (_,y')=>do pure (if ←isSame y' y then some i' else none)
       |none=>pure none
      |_=>pure none
     match DK with
     |none=>rule "set.search.anew";setSearchFrom a (.ref b) (knd.hash k) true cZ none
     |some i'=>if equal then return .there (some i') else setSearchFrom a (.ref b) (knd.hash k) true cZ (some (advs t.mask (n+(m'+1)) (t.probeStart (knd.hash k)))))->Yg (Yw prog w) A R Q E s:=λR hR=>by
    subst hR;rw[c3];dsimp only;refine XM (Y4 (knd.eqBool hr MX hk ?_));refine XM (Zo ho hd S.fits ?_);dsimp only;by_cases q:k'=k
    ·rw[hJ q];simp only[Bool.and_self,if_true];subst q;exact XS (yv (Yn.mpr ⟨_,hx,rfl⟩))
    ·rw[hU q];simp only[abA,Yj,if_false];have sm:t.sameMemory t.moves t.mask=some true:=by simp[SetTable.sameMemory]
     rw[sm];dsimp only;obtain⟨i2,l1,l2,l3⟩:=S.tab.live c1;rw[l1];simp only[if_true];rw[l2];dsimp only;refine XM (wpAny_isSame_ref_self ?_);simp only[if_true];refine XM (XS ?_);dsimp only;refine qH sk hr hk ho hd S hN yv vc cZ (n+(m'+1)) _ rfl (by lia) λm hm=>?_;rcases aaO m (n+m') with z|z
     ·exact Sl m z
     grind
   split
   ·rename_i met hq;have e:=(hq.symm.trans O5);cases e;dsimp only;split
    ·refine XM (Eg sk hk _ (λy hy=>?_) ?_)
     ·obtain⟨e,he,rfl⟩:=Yn.mp hy;have he:e∈es.toList:=by
       grind
      obtain⟨k2,b2,_,rfl,h2⟩:=S.entry he;grind
     ·simp only[Yj,if_false];exact body _ rfl
    ·exact body _ rfl
   ·rename_i hq;exact absurd O5 (by intro z;exact hq _ z)
theorem Eh (sk:qG knd)(hr:knd.room A)(hk:knd.is s.heap k b)(ho:s.heap.get? a=some o)(hd:o.data=.set es ep t)(S:HS knd s.heap xs es t C){Q:SetFound->Ya->Prop}
  (yv:k∈xs.map (·.1)->Q (.there none) s)
  (vc:k∉xs.map (·.1)->∀n,(∀m,m<n->∃e,C (CD t (knd.hash k) m)=some e)->C (CD t (knd.hash k) n)=none->Q (.free (CD t (knd.hash k) n) false) s) :
  Yg (Yw prog w) A (setSearch a (.ref b) (knd.hash k) true) Q E s:=by
 obtain⟨y,hy,hc⟩:=S.tab.free;obtain⟨p,hp⟩:=S.tab.pow;obtain⟨N,h1,h2⟩:=wa hp (lB.start t (knd.hash k)) hy;unfold setSearch;refine qH sk hr hk ho hd S (N:=N) (by show C (advs t.mask N (t.probeStart (knd.hash k))).j=none;rw[h2];exact hc) yv vc 100000 0 none rfl ?_ λm hm=>by lia
 have:=S.hi;unfold turns at h1;lia
end
end Hc.Sx
namespace Hc.Sx
open PySem.SetTable
theorem mV {α:Type}(xs:Array α)(p:Nat)(x:α):(insertAt xs p x).toList.Perm (xs.toList++[x]):=by
 rw[jU];have h:(x::xs.toList.drop p).Perm (xs.toList.drop p++[x]):=(List.perm_append_singleton x _).symm;grind[Zh,trans,Yi,YJ]
section
variable {w:Y6}{K:Type}[DecidableEq K]{knd:acu prog w K}{A:YG}
variable {b:Ye}{o:Obj}{C:Nat->Option (Int×XY)}{xs:List (K×Ye)}{k:K}{byText:Bool}
noncomputable def mW (xs:List (K×Ye))(k:K)(b:Ye):List (K×Ye):=if k∈xs.map (·.1) then xs else xs++[(k,b)]
theorem stored (ho:h.get? a=some o)(hd:o.data=.set es ep t)(IJ:Array (Int×XY))(t':abC) :
  (h.update a (adF IJ t')).get? a=some {o with data:=.set IJ (ep+1) t'}:=by
 have:=Zv (adF IJ t') ho (by rw[putSet_of IJ t' hd];rfl);grind[putSet_of]
theorem Ga {h:Z9}(sk:qG knd)(ho:s.heap.get? a=some o)(DH:o.ExactSet)(hd:o.data=.set es ep t)(tab:Cz t es C)(pl:t.plain=true)(per:es.toList.Perm (xs.map (R3 knd)))(keys:∀x∈xs,knd.is s.heap x.1 x.2)(nd:(xs.map (·.1)).Nodup)(led:byText=true\/t.led=true)(hn:es.size=n)(Xy:1<=n)(Vl:n<=2047){Q:Unit->Ya->Prop}(q:∀h',aa7 a s.heap h'->nE knd byText h' a xs->Q () {s with heap:=h'}) :
  Yg (Yw prog w) A (setRelay a (grown n)) Q E s:=by
 have hw:grown n=n*4:=by unfold grown;lia
 have ab:=F_ (n:=grown n) (by lia);have sz:XU=16777216:=rfl;generalize eS:sizeAbove (grown n)=sA at ab;obtain⟨⟨p,hp⟩,a1,a2,a3⟩:=ab;have m1:sA-1+1=2 ^ p:=(by lia)
 have m8:sA<=8192:=by
  have Xz:p<14:=by
   refine aaW λz=>?_;have XA:(2:Nat) ^ 14<=2 ^ p:=Nat.pow_le_pow_right (by decide) (by lia);lia
  have XB:(2:Nat) ^ p<=2 ^ 13:=Nat.pow_le_pow_right (by decide) (by lia);lia
 have Wm:t.fits es.size=true:=by
  unfold SetTable.fits SetTable.fill;rw[tab.sz,tab.dum];simp;exact tab.room
 obtain⟨t',order,C',h1,T',P',hsz,e1,e2,e3,e4,e5,hall⟩:=oJ (mask:=sA-1) (finger:=t.finger) (moves:=t.movedTo (sA-1)) (led:=t.led) (plain:=t.plain) (es:=es) ⟨p,m1⟩ (by lia);unfold setRelay;refine XM (Zo ho hd Wm ?_);dsimp only;rw[eS,hV (by lia)];have hr:t.relaid (es.map (·.1)) (grown n)=some (t',order):=by grind[SetTable.relaid]
 have Ji:(order.filterMap (es[·]?)).size<=XU:=by lia
 have Sn:¬(((order.filterMap (es[·]?)).size != es.size)=true):=by lia
 refine XM (abo (a:=(order.filterMap (es[·]?),t')) (by rw[hr];exact hV Sn) ?_);refine wpAny_storeSet_of ho hd ?_ Ji;have O6:=Z5 s.heap a (adF (order.filterMap (es[·]?)) t');refine q _ O6 ⟨_,_,_,t',C',stored ho hd _ _,DH,rfl,⟨T',by lia,by lia,by lia,by lia,by lia,?_,λx hx=>sk.kept (keys x hx) ho hd O6,nd⟩,led.imp id λz=>by lia⟩;exact hall.trans per
end
end Hc.Sx
namespace Hc.Sx
open PySem.SetTable
section
variable {w:Y6}{K:Type}[DecidableEq K]{knd:acu prog w K}{A:YG}
variable {b:Ye}{xs:List (K×Ye)}{k:K}{byText:Bool}
def Bx (b:Ye)(es:Array (Int×XY)):byScan (.ref b) es=false:=by rfl
theorem N4 (sk:qG knd)(hr:knd.room A)(hk:knd.is s.heap k b)(hS:nE knd byText s.heap a xs)(hl:xs.length+1<=2047){Q:Bool->Ya->Prop}
  (q:∀h' r,aa7 a s.heap h'->nE knd byText h' a (mW xs k b)->Q r {s with heap:=h'}):Yg (Yw prog w) A (setAddHashed a (.ref b) (knd.hash k)) Q E s:=by
 obtain⟨o,es,ep,t,C,ho,DH,hd,S,led⟩:=hS;have So:es.size=xs.length:=by have:=S.per.length_eq;grind
 unfold setAddHashed setAddHashedIn;refine Y4 (XM (Zo ho hd S.fits ?_));dsimp only;rw[Bx];simp only[Yj,if_false];refine XM (Eh sk hr hk ho hd S (λrJ=>?_) λRF n hb hc=>?_)
 ·dsimp only;refine XS ?_;have e:s={s with heap:=s.heap}:=by rfl
  rw[e];exact q s.heap false (Heap.SameBut.refl a s.heap) (by unfold mW;rw[hZ rJ];exact⟨o,es,ep,t,C,ho,DH,hd,S,led⟩)
 ·dsimp only;refine XM (Zo ho hd S.fits ?_);dsimp only;have few:=S.few;have lo:=S.lo;have jm:CD t (knd.hash k) n<=t.mask:=by
   obtain⟨p,hp⟩:=S.tab.pow;have:∀n,(advs t.mask n (abc t.mask (knd.hash k))).j+(advs t.mask n (abc t.mask (knd.hash k))).more<=t.mask:=by
    intro n
    induction n with
    |zero=>
     show bits (knd.hash k) % (t.mask+1)+(runEnd t.mask (bits (knd.hash k) % (t.mask+1))-bits (knd.hash k) % (t.mask+1))<=t.mask;have:bits (knd.hash k) % (t.mask+1)<t.mask+1:=abv _ (abm _);unfold runEnd;split<;>lia
    |succ n ih=>
     rw[v_];unfold adv;split
     ·lia
     ·dsimp only;have:(leap t.mask (advs t.mask n (abc t.mask (knd.hash k))).i (advs t.mask n (abc t.mask (knd.hash k))).perturb).1<t.mask+1:=abv _ (abm _);unfold runEnd;split<;>lia
   grind
  obtain⟨T1,p1,p2,p3,p4,p5⟩:=S.tab.put (e:=(knd.hash k,Value.ref b)) jm hc (by lia);have P1:=LB.up S.pth (e:=(knd.hash k,Value.ref b)) hb hc;generalize et:(t.put (CD t (knd.hash k) n)).1=t1 at *;generalize ei:(t.put (CD t (knd.hash k) n)).2=ip at *;have Ji:(insertAt es ip (knd.hash k,Value.ref b)).size=es.size+1:=by
   have:=(mV es ip (knd.hash k,Value.ref b)).length_eq;simpa using this
  rw[hZ (by rw[p2];exact S.pl)];refine XM (sk.byv hk ?_);simp only[if_true];have sl:XU=16777216:=rfl;refine XM (wpAny_storeSet_of ho hd ?_ (by rw[Ji];lia));have O6:=Z5 s.heap a (adF (insertAt es ip (knd.hash k,Value.ref b)) t1);have RG:=stored ho hd (insertAt es ip (knd.hash k,Value.ref b)) t1;have Vm:mW xs k b=xs++[(k,b)]:=by unfold mW;rw[hV RF]
  have RH:(insertAt es ip (knd.hash k,Value.ref b)).toList.Perm ((xs++[(k,b)]).map (R3 knd)):=by
   rw[Yv];exact (mV _ _ _).trans (Zr _ S.per)
  have MY:∀x∈xs++[(k,b)],knd.is (s.heap.update a (adF (insertAt es ip (knd.hash k,Value.ref b)) t1)) x.1 x.2:=λx hx=>by
   rcases Yk.mp hx with z|z
   ·exact sk.kept (S.keys x z) ho hd O6
   ·rw[Yf.mp z];exact sk.kept hk ho hd O6
  have Vn:((xs++[(k,b)]).map (·.1)).Nodup:=by
   rw[Yv,aco];exact⟨S.nd,by simp,λx hx y hy e=>by
    grind⟩
  have RI:byText=true\/t1.led=true:=led.imp id λz=>by lia
  have RJ:t1.fill=es.size+1:=by
   unfold SetTable.fill;rw[T1.sz,T1.dum,Ji];rfl
  cases tf:t1.tooFull with
  |false=>
   simp only[abd,abA,Yj,if_false];refine XS (q _ true O6 ?_);rw[Vm];refine⟨_,_,_,t1,_,RG,DH,rfl,⟨T1,by rw[p1];exact P1,by rw[p2];exact S.pl,by rw[p1];exact lo,by rw[p1];exact S.hi,?_,RH,MY,Vn⟩,RI⟩;grind[SetTable.tooFull]
  |true=>
   simp only[abd,Bool.and_self,if_true];refine XM (Ga (h:=s.heap) (s:={s with heap:=s.heap.update a (adF (insertAt es ip (knd.hash k,Value.ref b)) t1)}) sk RG DH rfl T1 (by rw[p2];exact S.pl) RH MY Vn RI Ji (by lia) (by lia) λh' Ur H'=>?_);refine XS (q h' true (O6.trans Ur) ?_);lia
theorem Gb {led:Bool}(hl:byText=true\/led=true)(hg:h.get? a=some {cls:=.type "set",dict:=none,data:=.set (List.toArray []) 0 (.fresh 0 0 led)}):nE knd byText h a []:=by
 refine⟨_,(List.toArray []),0,.fresh 0 0 led,λ_=>none,hg,⟨rfl,rfl,rfl⟩,rfl,⟨⟨λi j hi=>absurd hi (acS _),rfl,rfl,⟨3,rfl⟩,ZT _,λi j h=>?_,λj e=>⟨λh=>(by cases h),fun⟨i,h,_⟩=>?_⟩⟩,λj e h=>(by cases h),rfl,X6 _,(show (7:Nat)<=8191 by decide),(show 0*5<7*3 by decide),ZE _,λx hx=>(by cases hx),List.nodup_nil⟩,hl⟩
 ·have h:((List.toArray []):Array Nat)[i]? = some j:=h;simp at h
 ·have h:((List.toArray []):Array Nat)[i]? = some j:=h;simp at h
end
end Hc.Sx
namespace Hc.Sx
open PySem.SetTable
section
variable {w:Y6}{K:Type}[DecidableEq K]{knd:acu prog w K}{A:YG}
variable {b:Ye}{xs:List (K×Ye)}{k:K}{byText:Bool}
theorem nE.keep (H:nE knd byText h a xs)(e:∀o,h.get? a=some o->h'.get? a=some o)(hk:∀x∈xs,knd.is h' x.1 x.2):nE knd byText h' a xs:=by
 obtain⟨o,es,ep,t,C,ho,DH,hd,S,led⟩:=H;exact⟨o,es,ep,t,C,e o ho,DH,hd,⟨S.tab,S.pth,S.pl,S.lo,S.hi,S.few,S.per,hk,S.nd⟩,led⟩
theorem nE.setAt (H:nE knd byText h a xs):∃o es ep t,h.get? a=some o/\o.data=.set es ep t:=by
 obtain⟨o,es,ep,t,C,ho,DH,hd,S,led⟩:=H;exact⟨o,es,ep,t,ho,hd⟩
noncomputable def eP (val:Nat->K×Ye):Nat->List (K×Ye)
 |0=>[]
 |i+1=>mW (eP val i) (val i).1 (val i).2
theorem zj (val:Nat->K×Ye){i:Nat}:∀{n:Nat},i<=n->(eP val i).length<=(eP val n).length
 |0,h=>by lia
 |n+1,h=>by
  by_cases e:i=n+1
  ·rw[e];exact X6 _
  ·refine YX (zj val (n:=n) (by lia)) ?_;show (eP val n).length<=(mW _ _ _).length;unfold mW;split
   ·exact X6 _
   ·rw[XW];lia
theorem mj (val:Nat->K×Ye):∀(i:Nat) (x:K×Ye),x∈eP val i->∃j,j<i/\x=val j
 |0,x,h=>by cases h
 |i+1,x,h=>by
  unfold eP mW at h;split at h
  ·obtain⟨j,h1,h2⟩:=mj val i x h;exact⟨j,(by lia),h2⟩
  ·rcases Yk.mp h with z|z
   ·obtain⟨j,h1,h2⟩:=mj val i x z;exact⟨j,(by lia),h2⟩
   ·exact⟨i,(by lia),Yf.mp z⟩
variable {R:Result->Ya->Prop}{I:Ye}{wr:List Ye}{G:Array GenState->Array GenState->Prop}{P:Nat->XY->Prop}{St:Nat->Ya->Prop}
theorem Ei (sk:qG knd)(hr:knd.room A.in1)(W:WalksS prog w A.in1 I fp wr G n P St)(S:Ye)(Vo:S∉fp)(val:Nat->K×Ye)(Us:∀i v,P i v->v=.ref (val i).2)(hn:(eP val n).length+1<=2047)
  (mv:∀i (s s':Ya),i<=n->St i s->Moved wr G s s'->(∀j,j<n->knd.is s.heap (val j).1 (val j).2)->∀j,j<n->knd.is s'.heap (val j).1 (val j).2) :
  ∀(d i:Nat) (s:Ya),n-i=d->i<=n->St i s->(∀j,j<n->knd.is s.heap (val j).1 (val j).2)->nE knd byText s.heap S (eP val i)->
   (∀s',Moved (S::wr) G s s'->(∀j,j<n->knd.is s'.heap (val j).1 (val j).2)->nE knd byText s'.heap S (eP val n)->R (.ok (.ret .none)) s')->
   acg (Yw prog w) A (.builtin "set.update.loop" ⟨[.ref S,.ref I],[]⟩) R s:=by
 have nS:S∉wr:=λh=>Vo (W.sub _ h);have up:∀b∈wr,b∈S::wr:=λb hb=>X4 _ hb;have DK:∀i (s s':Ya),i<=n->St i s->Moved wr G s s'->(∀j,j<n->knd.is s.heap (val j).1 (val j).2)->nE knd byText s.heap S (eP val i)->nE knd byText s'.heap S (eP val i):=λi s s' hi st m hk H=>
  H.keep (λo e=>m.heap S o nS e) λx hx=>by
   obtain⟨j,h1,rfl⟩:=mj val i x hx;exact mv i s s' hi st m hk j (by lia)
 intro d
 induction d with
 |zero=>
  intro i s hd hi st hk H q;obtain rfl:i=n:=(by lia)
  refine Zl F.entry_set_update_loop ?_;rw[Y_ ab4 _];show Yg _ A.in1 (ab9 (Value.ref I) >>= _) _ _ s;refine XM (W.done s _ _ st λs' m=>?_);exact XS (q s' (m.mono up) (mv i s s' hi st m hk) (DK i s s' hi st m hk H))
 |succ d ih=>
  intro i s hd hi st hk H q;have lt:i<n:=(by lia)
  refine Zl F.entry_set_update_loop ?_;rw[Y_ ab4 _];show Yg _ A.in1 (ab9 (Value.ref I) >>= _) _ _ s;refine XM (W.item i s _ _ lt st λv s1 hP B4 m=>?_);obtain rfl:=Us i v hP;have H1:=DK i s s1 hi st m hk H;have EY:=mv i s s1 hi st m hk;show Yg _ A.in1 (adk [Value.ref (val i).2] (setAdd S (Value.ref (val i).2)) >>= _) _ _ s1;refine XM (Y4 ?_);unfold setAdd;refine Y4 (XM (knd.pyHash hr (EY i lt) ?_));refine N4 (s:={s1 with toks:=s1.toks+knd.draws (val i).1}) sk hr (EY i lt) H1 (by have:=zj val hi;lia) λh' r sb H2=>?_;obtain⟨oS,eS,epS,tS,gS,dS⟩:=H1.setAt;have Vp:∀j,j<n->knd.is h' (val j).1 (val j).2:=λj hj=>sk.kept (EY j hj) gS dS sb;refine XS ⟨aa_ ab4 _,ih (i+1) _ (by lia) lt (W.frame _ s1 _ _ B4 (Zm _ _) λb hb o e=>?_) Vp H2 λs2 m2 Wn H3=>?_⟩
  ·rw[sb.2 b (λz:b=S=>Vo (by lia))];exact e
  ·refine q s2 (Moved.trans W.gtrans ((m.mono up).then_heap (Zm _ _) λb o hb e=>?_) m2) Wn H3;rw[sb.2 b (λz:b=S=>hb (by grind))];exact e
end
end Hc.Sx
namespace Hc.Sx
open PySem.SetTable
noncomputable abbrev AW (w:Y6):Bool:=w.params.followText "set-order"
noncomputable abbrev rQ (w:Y6):Obj:={cls:=.type "set",dict:=none,data:=.set (List.toArray []) 0 (.fresh 0 0 (!AW w))}
section
variable {w:Y6}{A:YG}
theorem Gd (x:XY)(q:Q (.ref s.heap.objs.size) {s with heap:=s.heap.push (rQ w)}):acg (Yw prog w) A (.call (.builtin "set.__new__") ⟨[.type "set",x],[]⟩) (wants Q E) s:=by
 refine codeAny_of_tree ?_;show Yg _ A.in1 (do checkBuiltinCall "set.__new__" ⟨[Value.type "set",x],[]⟩;again (.builtin "set.__new__" ⟨[Value.type "set",x],[]⟩)) _ _ s;refine XM (abo (PySem.F.newCall_set_1 x) (XS ⟨aa_ PySem.F.plain_set_new _,Zl PySem.F.entry_set_new ?_⟩));rw[Y_ PySem.F.plain_set_new _];unfold Builtin.«set.__new__» Builtin.Frozenset.newClass;have sb:=sub_set_self;obtain⟨hp,g,d,tk,os⟩:=s;dsimp only;wp_walk;refine aal (XS ?_);dsimp only;simp only[newObj];exact XM (wpAny_alloc (XS (XS q)))
theorem Ge {t:Ye}(R:Ya->Prop)(fill:Yg (Yw prog w) A.in1.in1 (Builtin.«set.__init__» ⟨[.ref s.heap.objs.size,.ref t],[]⟩) (λfin s'=>∃r,fin=.done (.ret r)/\r=.none/\R s') E {s with heap:=s.heap.push (rQ w)})(q:∀s',R s'->Q (.ref s.heap.objs.size) s'):Yg (Yw prog w) A (call (.type "set") [.ref t]) Q E s:=by
 obtain⟨c0,tl0,mro0⟩:=PySem.F.called_set.mro;have XC:=PySem.F.called_set.made;have XD:=PySem.F.called_set.sub;have XF:=PySem.F.called_set.notType;have XG:=PySem.F.called_set.canCreate;have XH:=PySem.F.typeCall_set_1 (Value.ref t);refine adA (codeAny_of_tree ?_);show Yg _ _ (callAny (Value.type "set") _) _ _ _;refine XS ⟨Code.quiet_builtin _ (by decide+kernel),Zl PySem.F.entry_type_call ?_⟩;rw[Around.under_plain (weight_type_call_type "set" [Value.ref t] []) rfl]
 repeat (any_goals first|assumption|wp_step)
 refine aaL (Gd (Value.ref t) (E:=E) (Q:=λx s1=>x=.ref s.heap.objs.size/\s1={s with heap:=s.heap.push (rQ w)}) ⟨rfl,rfl⟩) λr s1 hr=>?_;cases r with
 |error e=>exact hr
 |ok fl=>
  cases fl with
  |ret ob=>
   obtain⟨rfl,rfl⟩:=hr;have gS:(s.heap.push (rQ w)).get? s.heap.objs.size=some (rQ w):=X8 _ rfl;have tS:Shared.TypeIs {s with heap:=s.heap.push (rQ w)} (.ref s.heap.objs.size) "set":=⟨_,gS,rfl⟩;have il:=PySem.F.called_set.init.lookup;have ib:=PySem.F.called_set.init.bind (Value.ref s.heap.objs.size)
   repeat (any_goals first|assumption|wp_step)
   refine aaL (acH (R:=wants (λr s2=>r=.none/\R s2) E) PySem.F.called_set.init.plain PySem.F.entry_set_init (check_set_init_1 tS ?_)) λr2 s2 iB=>?_
   ·exact Zc fill (λfin s' ⟨r,e,h1,h2⟩=>by subst e;exact⟨h1,h2⟩) (λe s' h=>h)
   ·cases r2 with
    |error e=>exact iB
    |ok f2=>
     cases f2 with
     |ret r=>
      obtain⟨rfl,h2⟩:=iB
      repeat (any_goals first|assumption|wp_step)
      exact q _ h2
     |_=>exact iB.elim
  |_=>exact hr.elim
variable {K:Type}[DecidableEq K]{knd:acu prog w K}
theorem zk {l:Ye}{aA:Array XY}(sk:qG knd)(mono:∀{h h':Z9} {k:K} {a:Ye},knd.is h k a->(∀b aA,h.IsTuple b aA->h'.IsTuple b aA)->knd.is h' k a)(hr:knd.room A.in1.in1.in1)(hh:A.handled=none)(hl:s.heap.IsList l aA)(val:Nat->K×Ye)(hv:∀(i:Nat) (v:XY),aA[i]? = some v->v=.ref (val i).2)(hk:∀j,j<aA.size->knd.is s.heap (val j).1 (val j).2)(hb:(eP val aA.size).length+1<=2047)(q:∀(h':Z9) (tk:Nat),nE knd (AW w) h' s.heap.objs.size (eP val aA.size)->(∀b o,s.heap.get? b=some o->h'.get? b=some o)->Q (.ref s.heap.objs.size) {s with heap:=h',toks:=tk}) :
  Yg (Yw prog w) A (call (.type "set") [.ref l]) Q E s:=by
 refine Ge (λs'=>∃h' tk,s'={s with heap:=h',toks:=tk}/\nE knd (AW w) h' s.heap.objs.size (eP val aA.size)/\∀b o,s.heap.get? b=some o->h'.get? b=some o) ?_ λs' ⟨h',tk,e,h1,h2⟩=>by subst e;exact q h' tk h1 h2
 obtain⟨ot,gt,ct,nt,dt⟩:=hl;obtain⟨oc,od,oda,os⟩:=ot;simp only at ct dt;subst ct;subst dt;have Wo:(s.heap.push (rQ w)).get? l=some {cls:=.type "list",dict:=od,data:=.seq aA nt,slots:=os}:=XQ _ gt;have gS:(s.heap.push (rQ w)).get? s.heap.objs.size=some (rQ w):=X8 _ rfl;have n1:=PySem.F.sub_list_set;have n2:=PySem.F.sub_list_frozenset;have n3:(Value.type "list"==Value.type "dict")=false:=by decide
 have Sq:(s.heap.push (rQ w)).IsList l aA:=⟨_,Wo,rfl,nt,rfl⟩;unfold Builtin.«set.__init__» noKeywords Builtin.Frozenset.updateFrom;generalize ePI:pyIter=PI;wp_walk;subst ePI;refine acd Sq ?_;refine XM (adm ?_);have lt:l<s.heap.objs.size:=X_ gt;have h3:A.in1.in1.in1.handled=none:=by simp[hh]
 have Wq:l≠(s.heap.push (rQ w)).objs.size:=by rw[aas];exact Ym (aci lt)
 have ni:s.heap.objs.size∉[(s.heap.push (rQ w)).objs.size,l]:=by
  rw[aas];simp only[Yb,aaK,or_false,not_or];exact⟨Ym (Nat.lt_succ_self _),Y2 lt⟩
 have Vq:∀(h:Z9) (o:Obj) b aA,h.IsTuple b aA->(h.push o).IsTuple b aA:=λh o b aA x=>x.push o;refine Ei (byText:=AW w) sk hr ((Walks.list h3 _ l Wq aA).toS) s.heap.objs.size ni val hv hb (λi u u' _ st m ks j hj=>?_) (aA.size-0) 0 _ (by lia) (ZT _) ⟨⟨_,X8 _ rfl,rfl,rfl⟩,Sq.push _⟩ (λj hj=>mono (hk j hj) λb i2 x=>Vq _ _ _ _ (Vq _ _ _ _ x)) ?z0 ?zR
 ·refine mono (ks j hj) λb i2 ⟨o,e,c,n,d⟩=>⟨o,m.heap b o (λhm=>?_) e,c,n,d⟩;rw[Yf] at hm;subst hm;obtain⟨o2,e2,c2,_⟩:=st.1;rw[e] at e2;cases e2;rw[c] at c2;exact absurd c2 (by decide)
 case z0=>exact Gb (by cases AW w<;>simp) (XQ _ gS)
 case zR=>
  intro s' hm _ AY;obtain⟨h',g',d',RC,o'⟩:=s';have eg:g'=s.gens:=hm.gens;have ed:d'=s.drawn:=hm.drawn;have Wr:o'=s.os:=hm.os;subst eg;subst ed;subst Wr;show Yg _ _ _ _ _ _;refine XS ?_;show Yg _ _ (ret Value.none) _ _ _;refine XS ⟨_,rfl,rfl,h',RC,rfl,AY,λb o e=>?_⟩;have Vr:=X_ e;refine hm.heap b o ?_ (XQ _ (XQ _ e));rw[aas];simp only[Yb,aaK,or_false,not_or];exact⟨Ym Vr,Ym (aci Vr)⟩
end
end Hc.Sx
namespace L2
section
variable {e:aaj}{pos pN p1:Pos}{b1:Bool}{ga:Ev->R (List U×Ev)}
def N5:YQ "set"=some (.type "set"):=by decide+kernel
end
@[irreducible] noncomputable def N6 (X:Cx)(G:Gm)(es:List aaj)(b p:Bool)(g:Ev->R (List U×Ev)):Prop:=DA X G es b p g
section
variable {e:aaj}{es:List aaj}{b1 b2 p:Bool}{m1:Md}{g1:Ev->R (U×Ev)}{ga:Ev->R (List U×Ev)}
theorem Xv (h:N6 X G es b1 p ga):DA X G es b1 p ga:=by grind[N6]
def R4:N6 X G [] false p ak:=by unfold N6;exact ah
def Qy (ha:DE X G e b1 m1 g1)(hr:N6 X G es b2 p ga)(hm:m1=.P->(p=true/\b2=false):=by first|exact λ_=>⟨rfl,rfl⟩|exact λh=>nomatch h)
  (hs:X7 (e::es) X.env=(false,abh e X.env)::X7 es X.env:=by rfl):N6 X G (e::es) (b1||b2) p (ae g1 ga):=by
 unfold N6 at hr ⊢;exact aa ha hr hm hs
end
end L2
namespace Hc.Zp
def eU (l:Bool)(h:Z9)(a:Ye)(xs:Array XY):Prop:=if l=true then h.IsList a xs else h.IsTuple a xs
def dX (l:Bool)(h:Z9)(it a:Ye)(i:Nat):Prop:=if l=true then h.IsListIter it a i else h.IsTupleIter it a i
noncomputable def Ej (l:Bool):String:=if l=true then "list_iterator" else "tuple_iterator"
theorem eU.at {l:Bool}{xs:Array XY}(x:eU l h a xs)(e:∀o,h.get? a=some o->h'.get? a=some o):eU l h' a xs:=by
 cases l with
 |true=>exact Heap.IsList.at x e
 |false=>exact Heap.IsTuple.at x e
theorem dX.at {l:Bool}(x:dX l h it a i)(e:∀o,h.get? it=some o->h'.get? it=some o):dX l h' it a i:=by
 cases l with
 |true=>exact Heap.IsListIter.at x e
 |false=>exact Heap.IsTupleIter.at x e
theorem dX.obj {l:Bool}(x:dX l h it a i):∃o,h.get? it=some o/\o.data=.fields (List.toArray [.ref a,.int i 0])/\o.cls=.type (Ej l):=by
 cases l with
 |true=>obtain⟨o,e,c,d⟩:=x;exact⟨o,e,d,c⟩
 |false=>obtain⟨o,e,c,d⟩:=x;exact⟨o,e,d,c⟩
section
variable {w:Y6}{A:YG}
theorem By {xs:Array XY}{x:XY}(hi:s.heap.IsTupleIter it a i)(ha:s.heap.IsTuple a xs)(hx:xs[i]? = some x)(q:∀h',h'.IsTupleIter it a (i+1)->aa7 it s.heap h'->Q x {s with heap:=h'}):Yg (Yw prog w) A (Yy (.ref it)) Q E s:=by
 obtain⟨o,ho,hc,hd⟩:=id hi;obtain⟨oa,hoa,_,na,hda⟩:=ha;unfold Yy;refine XM (Y5 (name:=X9 "__next__") hi.typeIs aaH (Zd aaH hi.typeIs acT ?_ (acK _)));show Yg _ _ (field (Value.ref it) 0 >>= _) _ _ s;refine XM (Zf ho hd (x:=.ref a) rfl ?_);show Yg _ _ (if (Value.ref a==Value.none)=true then _ else _) _ _ s;rw[hV (show ¬((Value.ref a==Value.none)=true) from XR)];show Yg _ _ (field (Value.ref it) 1 >>= _) _ _ s;refine XM (Zf ho hd (x:=.int i 0) rfl ?_);show Yg _ _ (seqItems? (Value.ref a) >>= _) _ _ s;refine XM (Z7 hoa hda ?_);simp only[Ze,hx];refine XM (acv ho hd (by simp) (XS ⟨x,rfl,XS (q _ ⟨_,Zv _ ho (acy (aaR hd _)),(adG ..).trans hc,?_⟩ (Z5 ..))⟩));rw[aaR hd];simp[acx]
theorem Ek {xs:Array XY}(hh:A.handled=none)(hi:s.heap.IsTupleIter it a i)(ha:s.heap.IsTuple a xs)(hx:xs[i]? = none)(q:∀h' e,Heap.ExtBut it s.heap h'->(∃o,h'.get? e=some o/\o.cls=.type "StopIteration")->E (.ref e) {s with heap:=h'}):Yg (Yw prog w) A (Yy (.ref it)) Q E s:=by
 obtain⟨o,ho,hc,hd⟩:=id hi;obtain⟨oa,hoa,_,na,hda⟩:=ha;unfold Yy;refine XM (Y5 (name:=X9 "__next__") hi.typeIs aaH (Zd aaH hi.typeIs acT ?_ (acK _)));show Yg _ _ (field (Value.ref it) 0 >>= _) _ _ s;refine XM (Zf ho hd (x:=.ref a) rfl ?_);show Yg _ _ (if (Value.ref a==Value.none)=true then _ else _) _ _ s;rw[hV (show ¬((Value.ref a==Value.none)=true) from XR)];show Yg _ _ (field (Value.ref it) 1 >>= _) _ _ s;refine XM (Zf ho hd (x:=.int i 0) rfl ?_);show Yg _ _ (seqItems? (Value.ref a) >>= _) _ _ s;refine XM (Z7 hoa hda ?_);simp only[Ze,hx];refine XM (aa5 (XM (acv ho hd (by simp) ?_)));show Yg _ _ (newExc (Value.type "StopIteration") [] >>= _) _ _ _;refine XM ?_;simp only[newExc,newTuple];refine XM (YY ?_ (by size_fits));refine XM (m:=adn _ _) (abo (a:=Value.none) (by rfl) ?_);refine YY ?_ (by size_fits);simp only[raiseNew];refine XM (wpAny_handled ?_)
 first|rw[show A.in1.handled=none from hh]|rw[hh]
 exact XM (XS (wpAny_throw (q _ _ (((Z5 ..).extBut.push _).push _) ⟨_,X8 _ rfl,rfl⟩)))
theorem iY {l:Bool}{xs:Array XY}{x:XY}(hi:dX l s.heap it a i)(ha:eU l s.heap a xs)(hx:xs[i]? = some x)(q:∀h',dX l h' it a (i+1)->aa7 it s.heap h'->Q x {s with heap:=h'}):Yg (Yw prog w) A (Yy (.ref it)) Q E s:=by
 cases l with
 |true=>exact wpAny_nextOf_list_item hi ha hx q
 |false=>exact By hi ha hx q
theorem oK {l:Bool}{xs:Array XY}(hh:A.handled=none)(hi:dX l s.heap it a i)(ha:eU l s.heap a xs)(hx:xs[i]? = none)(q:∀h' e,Heap.ExtBut it s.heap h'->(∃o,h'.get? e=some o/\o.cls=.type "StopIteration")->E (.ref e) {s with heap:=h'}):Yg (Yw prog w) A (Yy (.ref it)) Q E s:=by
 cases l with
 |true=>exact wpAny_nextOf_list_end hh hi ha hx q
 |false=>exact Ek hh hi ha hx q
theorem CF {l:Bool}{xs:Array XY}(ha:eU l s.heap a xs)(q:Q (.ref s.heap.objs.size) {s with heap:=s.heap.push {cls:=.type (Ej l),data:=.fields (List.toArray [.ref a,.int 0 0])}}):Yg (Yw prog w) A (pyIter (.ref a)) Q E s:=by
 cases l with
 |true=>exact acd ha q
 |false=>exact wpAny_pyIter_tuple ha q
def El {z TI TO:Ye}{xs:Array XY}{x y p q:XY}(D:abE z TI TO i1 i2 a1 a2)(hz:IsZip s.heap z TI TO .none)(B6:aag s.heap TI (.ref i1) (.ref i2))(IK:aag s.heap TO p q)(h1:dX l1 s.heap i1 a1 k)(h2:dX l2 s.heap i2 a2 k)(g1:eU l1 s.heap a1 xs)(g2:eU l2 s.heap a2 ys)(hx:xs[k]? = some x)(hy:ys[k]? = some y)(hQ:∀h',IsZip h' z TI TO (acx s.heap.objs.size)->aag h' TO x y->dX l1 h' i1 a1 (k+1)->dX l2 h' i2 a2 (k+1)->aag h' s.heap.objs.size x y->(∀c o,c≠z->c≠TO->c≠i1->c≠i2->s.heap.get? c=some o->h'.get? c=some o)->Q (.ref s.heap.objs.size) {s with heap:=h'}) :
  Yg (Yw prog w) A (Builtin.«zip.__next__» ⟨[.ref z],[]⟩) (λfin s'=>∃v,fin=.done (.ret v)/\Q v s') E s:=by
 show Yg _ _ (field (Value.ref z) 2 >>= _) _ _ _;refine XM (Zf hz rfl (x:=.bool false) rfl ?_);show Yg _ _ (field (Value.ref z) 3 >>= _) _ _ _;refine XM (Zf hz rfl (x:=.ref TI) rfl (XM (Z7 B6 rfl ?_)));show Yg _ _ (YH (Value.ref z) >>= _) _ _ _;refine XM ?_;unfold YH;refine XM (Zf hz rfl (x:=.none) rfl (XS ?_));simp only[if_true];refine XM (aa5 (XM (Zf hz rfl (x:=.ref TO) rfl (XM (aah hz (by simp) λw1 z1 b1=>?_)))))
 replace z1:IsZip w1 z TI TO .ellipsis:=z1
 refine XM ?_;simp only[List.zipIdx_cons,List.zipIdx_nil,aa4,ado];refine XM (XM (wpAny_onRaise ?_));show Yg _ _ (Yy (Value.ref i1) >>= _) _ _ _;refine XM (iY (h1.at λo e=>b1.extBut _ _ D.i1z e) (g1.at λo e=>b1.extBut _ _ D.l1z e) hx λw2 n2 b2=>XS ?_);have t2:aag w2 TO p q:=b2.extBut _ _ D.TOi1 (b1.extBut _ _ D.TOz IK);refine XM (Z7 t2 rfl (XM (acI t2 λw3 t3 b3=>?_)))
 replace t3:aag w3 TO x q:=t3
 refine XM (wpAny_letGo (XS ?_));refine XM (XM (wpAny_onRaise ?_));show Yg _ _ (Yy (Value.ref i2) >>= _) _ _ _;refine XM (iY (h2.at λo e=>b3.extBut _ _ D.TOi2.symm (b2.extBut _ _ D.i12.symm (b1.extBut _ _ D.i2z e))) (g2.at λo e=>b3.extBut _ _ D.l2TO (b2.extBut _ _ D.l2i1 (b1.extBut _ _ D.l2z e))) hy λw4 n4 b4=>XS ?_);have t4:aag w4 TO x q:=b4.extBut _ _ D.TOi2 t3;refine XM (Z7 t4 rfl (XM (acI t4 λw5 t5 b5=>?_)))
 replace t5:aag w5 TO x y:=t5
 refine XM (wpAny_letGo (XS (XS ?_)));refine XM (Z7 t5 rfl (XM (wpAny_newTuple ?_)));have sz:w5.objs.size=s.heap.objs.size:=by rw[b5.1,b4.1,b3.1,b2.1,b1.1]
 have z5:IsZip w5 z TI TO .ellipsis:=b5.extBut _ _ D.TOz.symm (b4.extBut _ _ D.i2z.symm (b3.extBut _ _ D.TOz.symm (b2.extBut _ _ D.i1z.symm z1)));have kp:∀c o,c≠z->c≠TO->c≠i1->c≠i2->s.heap.get? c=some o->w5.get? c=some o:=λc o c1 c2 c3 c4 e=>b5.extBut _ _ c2 (b4.extBut _ _ c4 (b3.extBut _ _ c2 (b2.extBut _ _ c3 (b1.extBut _ _ c1 e))));have n5:dX l1 w5 i1 a1 (k+1):=n2.at λo e=>b5.extBut _ _ D.TOi1.symm (b4.extBut _ _ D.i12 (b3.extBut _ _ D.TOi1.symm e));have m5:dX l2 w5 i2 a2 (k+1):=n4.at λo e=>b5.extBut _ _ D.TOi2.symm e;have lz:z<w5.objs.size:=X_ z5;show Yg _ _ (abB (Value.ref z) (Value.ref w5.objs.size) >>= _) _ _ _;refine XM ?_;unfold abB;have z6:IsZip (w5.push {cls:=.type "tuple",data:=.seq (List.toArray [x,y])}) z TI TO .ellipsis:=XQ _ z5;refine XM (aah z6 (by simp) λw7 z7 b7=>?_)
 replace z7:IsZip w7 z TI TO (acx w5.objs.size):=z7
 refine aah z7 (by simp) λw8 z8 b8=>?_
 replace z8:IsZip w8 z TI TO (acx w5.objs.size):=z8
 have up:∀c o,c≠z->w5.get? c=some o->w8.get? c=some o:=λc o c1 e=>b8.extBut _ _ c1 (b7.extBut _ _ c1 (XQ _ e));have t8:aag w8 w5.objs.size x y:=b8.extBut _ _ (Y2 lz) (b7.extBut _ _ (Y2 lz) (X8 _ rfl));rw[sz] at z8 t8;refine XS ⟨_,rfl,?_⟩;show Q (.ref w5.objs.size) _;rw[sz];exact hQ w8 z8 (up _ _ D.TOz t5) (n5.at λo e=>up _ o D.i1z e) (m5.at λo e=>up _ o D.i2z e) t8 λc o c1 c2 c3 c4 e=>up c o c1 (kp c o c1 c2 c3 c4 e)
theorem Gf {z TI TO:Ye}{xs:Array XY}{p q:XY}{Q:Fin->Ya->Prop}(hh:A.handled=none)(D:abE z TI TO i1 i2 a1 a2)(hz:IsZip s.heap z TI TO .none)(B6:aag s.heap TI (.ref i1) (.ref i2))(IK:aag s.heap TO p q)(h1:dX l1 s.heap i1 a1 k)(h2:dX l2 s.heap i2 a2 k)(g1:eU l1 s.heap a1 xs)(g2:eU l2 s.heap a2 ys)(AQ:xs[k]? = none\/ys[k]? = none)(hE:∀h' e,(∀c o,c≠z->c≠TO->c≠i1->c≠i2->s.heap.get? c=some o->h'.get? c=some o)->(∃o,h'.get? e=some o/\o.cls=.type "StopIteration")->E (.ref e) {s with heap:=h'}) :
  Yg (Yw prog w) A (Builtin.«zip.__next__» ⟨[.ref z],[]⟩) Q E s:=by
 show Yg _ _ (field (Value.ref z) 2 >>= _) _ _ _;refine XM (Zf hz rfl (x:=.bool false) rfl ?_);show Yg _ _ (field (Value.ref z) 3 >>= _) _ _ _;refine XM (Zf hz rfl (x:=.ref TI) rfl (XM (Z7 B6 rfl ?_)));show Yg _ _ (YH (Value.ref z) >>= _) _ _ _;refine XM ?_;unfold YH;refine XM (Zf hz rfl (x:=.none) rfl (XS ?_));simp only[if_true];refine XM (aa5 (XM (Zf hz rfl (x:=.ref TO) rfl (XM (aah hz (by simp) λw1 z1 b1=>?_)))))
 replace z1:IsZip w1 z TI TO .ellipsis:=z1
 refine XM ?_;simp only[List.zipIdx_cons,List.zipIdx_nil,aa4,ado];refine XM (XM (wpAny_onRaise ?_));show Yg _ _ (Yy (Value.ref i1) >>= _) _ _ _;cases hx:xs[k]? with
 |none=>
  refine XM (oK hh (h1.at λo e=>b1.extBut _ _ D.i1z e) (g1.at λo e=>b1.extBut _ _ D.l1z e) hx λw2 e b2 he=>?_);obtain⟨oe,hoe,hce⟩:=he;have z2:IsZip w2 z TI TO .ellipsis:=b2 _ _ D.i1z.symm z1;have nz:e≠z:=λx=>by subst x;rw[z2] at hoe;cases hoe;simp at hce
  exact aah z2 (by simp) λw3 _ b3=>hE w3 e (λc o c1 _ c3 _ x=>b3.extBut _ _ c1 (b2 _ _ c3 (b1.extBut _ _ c1 x))) ⟨oe,b3.extBut _ _ nz hoe,hce⟩
 |some x=>
  have hy:ys[k]? = none:=by rcases AQ with h|h;rw[hx] at h;cases h;exact h
  refine XM (iY (h1.at λo e=>b1.extBut _ _ D.i1z e) (g1.at λo e=>b1.extBut _ _ D.l1z e) hx λw2 n2 b2=>XS ?_);have t2:aag w2 TO p q:=b2.extBut _ _ D.TOi1 (b1.extBut _ _ D.TOz IK);refine XM (Z7 t2 rfl (XM (acI t2 λw3 t3 b3=>?_)));refine XM (wpAny_letGo (XS ?_));refine XM (XM (wpAny_onRaise ?_));show Yg _ _ (Yy (Value.ref i2) >>= _) _ _ _;refine XM (oK hh (h2.at λo e=>b3.extBut _ _ D.TOi2.symm (b2.extBut _ _ D.i12.symm (b1.extBut _ _ D.i2z e))) (g2.at λo e=>b3.extBut _ _ D.l2TO (b2.extBut _ _ D.l2i1 (b1.extBut _ _ D.l2z e))) hy λw4 e b4 he=>?_);obtain⟨oe,hoe,hce⟩:=he;have z4:IsZip w4 z TI TO .ellipsis:=b4 _ _ D.i2z.symm (b3.extBut _ _ D.TOz.symm (b2.extBut _ _ D.i1z.symm z1));have nz:e≠z:=λx=>by subst x;rw[z4] at hoe;cases hoe;simp at hce
  exact aah z4 (by simp) λw5 _ b5=>hE w5 e (λc o c1 c2 c3 c4 x=>b5.extBut _ _ c1 (b4 _ _ c4 (b3.extBut _ _ c2 (b2.extBut _ _ c3 (b1.extBut _ _ c1 x))))) ⟨oe,b5.extBut _ _ nz hoe,hce⟩
def wd {z TI TO:Ye}{xs:Array XY}{x y p q:XY}{Q:Option XY->Ya->Prop}(D:abE z TI TO i1 i2 a1 a2)(hz:IsZip s.heap z TI TO .none)(B6:aag s.heap TI (.ref i1) (.ref i2))(IK:aag s.heap TO p q)(h1:dX l1 s.heap i1 a1 k)(h2:dX l2 s.heap i2 a2 k)(g1:eU l1 s.heap a1 xs)(g2:eU l2 s.heap a2 ys)(hx:xs[k]? = some x)(hy:ys[k]? = some y)(hQ:∀h',IsZip h' z TI TO (acx s.heap.objs.size)->aag h' TO x y->dX l1 h' i1 a1 (k+1)->dX l2 h' i2 a2 (k+1)->aag h' s.heap.objs.size x y->(∀c o,c≠z->c≠TO->c≠i1->c≠i2->s.heap.get? c=some o->h'.get? c=some o)->Q (some (.ref s.heap.objs.size)) {s with heap:=h'}) :
  Yg (Yw prog w) A (ab9 (.ref z)) Q E s:=by
 have hT:s.TypeIs (.ref z) "zip":=⟨_,hz,rfl⟩;unfold ab9;exact XM (aar (Y5 (name:=X9 "__next__") hT aaD (Zd aaD hT acD (El D hz B6 IK h1 h2 g1 g2 hx hy λh' c1 c2 c3 c4 c5 c6=>XS (hQ h' c1 c2 c3 c4 c5 c6)) (acp _))))
def we {z TI TO:Ye}{xs:Array XY}{p q:XY}{Q:Option XY->Ya->Prop}(hh:A.handled=none)(D:abE z TI TO i1 i2 a1 a2)(hz:IsZip s.heap z TI TO .none)(B6:aag s.heap TI (.ref i1) (.ref i2))(IK:aag s.heap TO p q)(h1:dX l1 s.heap i1 a1 k)(h2:dX l2 s.heap i2 a2 k)(g1:eU l1 s.heap a1 xs)(g2:eU l2 s.heap a2 ys)(AQ:xs[k]? = none\/ys[k]? = none)(hQ:∀h',(∀c o,c≠z->c≠TO->c≠i1->c≠i2->s.heap.get? c=some o->h'.get? c=some o)->Q none {s with heap:=h'}):Yg (Yw prog w) A (ab9 (.ref z)) Q E s:=by
 have hT:s.TypeIs (.ref z) "zip":=⟨_,hz,rfl⟩;unfold ab9;refine XM (aar (Y5 (name:=X9 "__next__") hT aaD (Zd aaD hT acD (Gf hh D hz B6 IK h1 h2 g1 g2 AQ λh' e hk ⟨o,ho,hc⟩=>?_) (acp _))));exact XM (acE (T:="StopIteration") (b:=true) ⟨o,ho,hc⟩ isSubtype_stop (XS (hQ _ hk)))
end
noncomputable abbrev R5 (l1:Bool)(h:Z9)(a1:Ye):Z9:=h.push {cls:=.type (Ej l1),data:=.fields (List.toArray [.ref a1,.int 0 0])}
noncomputable abbrev R6 (l1 l2:Bool)(h:Z9)(a1 a2:Ye):Z9:=(R5 l1 h a1).push {cls:=.type (Ej l2),data:=.fields (List.toArray [.ref a2,.int 0 0])}
noncomputable abbrev R7 (l1 l2:Bool)(h:Z9)(a1 a2:Ye):Z9:=(R6 l1 l2 h a1 a2).push {cls:=.type "tuple",data:=.seq (List.toArray [.ref h.objs.size,.ref (R5 l1 h a1).objs.size])}
noncomputable abbrev R8 (l1 l2:Bool)(h:Z9)(a1 a2:Ye):Z9:=(R7 l1 l2 h a1 a2).push {cls:=.type "tuple",data:=.seq (List.toArray [.none,.none])}
noncomputable abbrev Pp (l1 l2:Bool)(h:Z9)(a1 a2:Ye):Z9:=(R8 l1 l2 h a1 a2).push {cls:=.type "zip",data:=.fields (List.toArray [.none,.bool false,.bool false,.ref (R6 l1 l2 h a1 a2).objs.size,.ref (R7 l1 l2 h a1 a2).objs.size])}
theorem Gg (l1 l2:Bool)(a1 a2:Ye)(xs ys:Array XY):Meets (Builtin.«zip.__new__» ⟨[.type "zip",.ref a1,.ref a2],[]⟩) (λ_ R s=>eU l1 s.heap a1 xs/\eU l2 s.heap a2 ys/\R (.ok (.ret (.ref (R8 l1 l2 s.heap a1 a2).objs.size))) {s with heap:=Pp l1 l2 s.heap a1 a2}):=
 .of_wp λprog w A R s h=>by
  obtain⟨hp,g,d,tk,os⟩:=s;obtain⟨g1,g2,h⟩:=h;have sb:=sub_zip;have q1:eU l1 (Shared.heap ⟨hp,g,d,tk,os⟩) a1 xs:=g1;have q2:eU l2 (Shared.heap ⟨hp.push {cls:=.type (Ej l1),data:=.fields (List.toArray [.ref a1,.int 0 0])},g,d,tk,os⟩) a2 ys:=g2.at λo e=>XQ _ e;wp_walk using CF q1,CF q2;exact⟨_,rfl,h⟩
section
variable {w:Y6}{A:YG}
theorem wg {xs:Array XY}(g1:eU l1 s.heap a1 xs)(g2:eU l2 s.heap a2 ys)(h:∀h',IsZip h' (s.heap.objs.size+4) (s.heap.objs.size+2) (s.heap.objs.size+3) .none->aag h' (s.heap.objs.size+2) (.ref s.heap.objs.size) (.ref (s.heap.objs.size+1))->aag h' (s.heap.objs.size+3) .none .none->
   dX l1 h' s.heap.objs.size a1 0->dX l2 h' (s.heap.objs.size+1) a2 0->(∀c o,s.heap.get? c=some o->h'.get? c=some o)->Q (.ref (s.heap.objs.size+4)) {s with heap:=h'}):Yg (Yw prog w) A (call (.type "zip") [.ref a1,.ref a2]) Q E s:=by
 refine callType_new F.called_zip (by decide) (F.typeCall_zip_2 _ _) (F.newCall_zip_2 _ _) (λobj=>F.args_object_init_3 obj _ _) F.entry_zip_new (Gg l1 l2 a1 a2 xs ys) ⟨g1,g2,?_⟩;have z1:(R5 l1 s.heap a1).objs.size=s.heap.objs.size+1:=aas ..;have z2:(R6 l1 l2 s.heap a1 a2).objs.size=s.heap.objs.size+2:=by rw[aas,z1]
 have z3:(R7 l1 l2 s.heap a1 a2).objs.size=s.heap.objs.size+3:=by rw[aas,z2]
 have z4:(R8 l1 l2 s.heap a1 a2).objs.size=s.heap.objs.size+4:=by rw[aas,z3]
 have e5:(Pp l1 l2 s.heap a1 a2).get? (R8 l1 l2 s.heap a1 a2).objs.size=some _:=X8 _ rfl;have e4:(Pp l1 l2 s.heap a1 a2).get? (R7 l1 l2 s.heap a1 a2).objs.size=some _:=XQ _ (X8 _ rfl);have e3:(Pp l1 l2 s.heap a1 a2).get? (R6 l1 l2 s.heap a1 a2).objs.size=some _:=XQ _ (XQ _ (X8 _ rfl));have e2:(Pp l1 l2 s.heap a1 a2).get? (R5 l1 s.heap a1).objs.size=some _:=XQ _ (XQ _ (XQ _ (X8 _ rfl)));have e1:(Pp l1 l2 s.heap a1 a2).get? s.heap.objs.size=some _:=XQ _ (XQ _ (XQ _ (XQ _ (X8 _ rfl))));show _/\_;rw[z2,z3,z4] at e5;rw[z1,z2] at e3;rw[z3] at e4;rw[z1] at e2;rw[z4];have mk:∀(l:Bool) (hp:Z9) (it a:Ye) (_:hp.get? it=some {cls:=.type (Ej l),data:=.fields (List.toArray [.ref a,.int 0 0])}),dX l hp it a 0:=λl hp it a e=>by
  cases l with
  |true=>exact⟨_,e,rfl,rfl⟩
  |false=>exact⟨_,e,rfl,rfl⟩
 exact⟨⟨_,e5,rfl⟩,h _ e5 e3 e4 (mk l1 _ _ _ e1) (mk l2 _ _ _ e2) λc o x=>XQ _ (XQ _ (XQ _ (XQ _ (XQ _ x))))⟩
end
end Hc.Zp
namespace L2
open Hc.Zp
section
variable {T:Ye}{o:HO}
theorem aP.turnNew {t':Nat}(I:aP X pins σ H s)(hf:∀b∈fp,rL X pins H b)(k:∀b o,b∉fp->s.heap.get? b=some o->h'.get? b=some o)(hT:s.heap.objs.size<=T)(new:cD X.prog X.w (dF H T o) h' T o) :
  aP X pins σ (dF H T o) {s with heap:=h',toks:=t'}:=by
 have hn:H T=none:=I.hok.fresh hT;have nf:∀b u,H b=some u->b∉fp:=λb u e z=>by rw[(hf b z).1] at e;cases e
 have nT:∀b u,H b=some u->b≠T:=λb u e z=>by lia
 refine I.step (g':=s.gens) (d':=s.drawn) (ch:=fp) (λb hb=>?_) (λb o _ _ hc e _=>k b o hc e) (λb o _ _ hc e _=>⟨o.slots,k b o hc e⟩) (λb o _ e n=>?_) (λb o hc e=>⟨o,k b o hc e⟩)
  (λb xs e=>?_) (λb o u e=>?_) (λb ps e=>⟨(List.toArray []),?_⟩) (λm hm=>?_) (λb u e=>?_) I.bare
 ·obtain⟨f0,f1,f2,f3,f4,f5⟩:=hf b hb;exact⟨f3,f1,f4,f5⟩
 ·rw[aS (Ym (YE (X_ e) hT))];exact n
 ·grind[aS]
 ·grind[aS]
 ·grind[aS]
 ·obtain⟨o,es,ep,ho,r⟩:=hm;exact⟨o,es,ep,k _ o (λz=>(hf _ z).2.1 rfl) ho,r⟩
 ·by_cases c:b=T
  ·grind[aQ]
  ·rw[aS c] at e;refine (I.hok b u e).stay (λc v hc q=>k c v ?_ q) (λc q=>by grind[aS]) λc xs q=>by grind[aS]
   grind
theorem aP.turneds {t':Nat}(I:aP X pins σ H s)(hf:∀b∈fp,rL X pins H b)(k:∀b o,b∉fp->s.heap.get? b=some o->h'.get? b=some o):aP X pins σ H {s with heap:=h',toks:=t'}:=by
 have nf:∀b u,H b=some u->b∉fp:=λb u e z=>by rw[(hf b z).1] at e;cases e
 refine I.step (g':=s.gens) (d':=s.drawn) (ch:=fp) (λb hb=>?_) (λb o _ _ hc e _=>k b o hc e) (λb o _ _ hc e _=>⟨o.slots,k b o hc e⟩) (λb o _ e n=>n) (λb o hc e=>⟨o,k b o hc e⟩)
  (λb xs e=>e) (λb o u e=>e) (λb ps e=>⟨(List.toArray []),by rw[e];simp⟩) (λm hm=>?_) (λb u e=>?_) I.bare
 ·obtain⟨f0,f1,f2,f3,f4,f5⟩:=hf b hb;exact⟨f3,f1,f4,f5⟩
 ·obtain⟨o,es,ep,ho,r⟩:=hm;exact⟨o,es,ep,k _ o (λz=>(hf _ z).2.1 rfl) ho,r⟩
 ·refine (I.hok b u e).stay (λc v hc q=>k c v ?_ q) (λ_ q=>q) λ_ _ q=>q;rcases hc with z|z
  ·rw[z];exact nf b u e
  ·exact nf c _ z
def Bz (l:Bool)(K:XX)(H:Hp)(a:Ye)(xs:List V):Prop:=if l=true then fS K H a xs else i6 K H a xs
theorem aP.sq {l:Bool}(I:aP X pins σ H s)(q:Bz l X.K H a xs):∃aA,bw xs aA/\eU l s.heap a aA.toArray:=by
 cases l with
 |true=>obtain⟨aA,rv,p,_⟩:=I.list q;exact⟨aA,rv,p.isList⟩
 |false=>obtain⟨aA,rv,p,_⟩:=I.tuple q;exact⟨aA,rv,p⟩
theorem aP.sq_inj {l:Bool}{ys:List V}(I:aP X pins σ H s)(q:Bz l X.K H a xs)(q':Bz l X.K H a ys):xs=ys:=by
 cases l with
 |true=>exact I.list_inj q q'
 |false=>exact I.tuple_inj q q'
end
noncomputable def UU (K:XX)(l1 l2:Bool)(a1 a2:Ye):It:=
  ⟨λi H=>∃xs ys x y,Bz l1 K H a1 xs/\Bz l2 K H a2 ys/\xs[i]? = some x/\ys[i]? = some y,
   λi H v H'=>∃T x y,v=.ref T/\H T=none/\H'=dF H T (.tup [x,y])/\(∀xs,Bz l1 K H a1 xs->xs[i]? = some x)/\(∀ys,Bz l2 K H a2 ys->ys[i]? = some y),
   λi H=>∃xs ys,Bz l1 K H a1 xs/\Bz l2 K H a2 ys/\(xs.length<=i\/ys.length<=i)⟩
theorem Gh {w:Y6}{IL:List aaj}{kt:Nat}{tp:Pos}{z TI TO:Ye}(D:abE z TI TO i1 i2 a1 a2) :
  DU P w K (.Tuple IL kt tp) (UU K l1 l2 a1 a2) [z,TI,TO,i1,i2] z (λi h=>IsZip h z TI TO .none/\aag h TI (.ref i1) (.ref i2)/\(∃p q,aag h TO p q)/\dX l1 h i1 a1 i/\dX l2 h i2 a2 i) where
 mem:=by simp
 obj:=λi h ⟨hz,hI,⟨p,q,hO⟩,h1,h2⟩ b hb=>by
  obtain⟨o1,e1,d1,_⟩:=h1.obj;obtain⟨o2,e2,d2,_⟩:=h2.obj;simp only[Yb,aak,or_false] at hb;rcases hb with rfl|rfl|rfl|rfl|rfl
  ·exact⟨_,hz,λv e=>by cases e⟩
  ·exact⟨_,hI,λv e=>by cases e⟩
  ·exact⟨_,hO,λv e=>by cases e⟩
  ·exact⟨o1,e1,λv e=>by rw[d1] at e;cases e⟩
  ·exact⟨o2,e2,λv e=>by rw[d2] at e;cases e⟩
 keep:=λi h h' ⟨hz,hI,⟨p,q,hO⟩,h1,h2⟩ k=>⟨k z (by simp) _ hz,k TI (by simp) _ hI,⟨p,q,k TO (by simp) _ hO⟩,h1.at λo e=>k i1 (by simp) o e,h2.at λo e=>k i2 (by simp) o e⟩
 item:=by
  intro X hP hw hK hc i pins s σ H E I hf st hg;subst hP hw hK;obtain⟨hz,hI,⟨p,q,hO⟩,h1,h2⟩:=st;obtain⟨xs,ys,x,y,q1,q2,hx,hy⟩:=hg;obtain⟨is1,v1,g1⟩:=I.sq q1;obtain⟨is2,v2,g2⟩:=I.sq q2;obtain⟨u1,kn,r1⟩:=v1.get hx;obtain⟨u2,hu2,r2⟩:=v2.get hy;obtain⟨o1,e1,_,_⟩:=h1.obj;obtain⟨o2,e2,_,_⟩:=h2.obj;have lz:=X_ hz;have lI:=X_ hI;have lO:=X_ hO;have Ut:=X_ e1;have Uu:=X_ e2;refine wd D hz hI hO h1 h2 g1 g2 (x:=u1) (y:=u2) (by simpa using kn) (by simpa using hu2) λh' c1 c2 c3 c4 c5 kp=>⟨_,rfl,?_⟩;refine wpAny_letOwnedTupleGo_zip c1 λPz z2 sb=>?_;have O5:aag Pz s.heap.objs.size u1 u2:=sb.extBut _ _ (Y2 lz) c5;have Ws:∀b o,b∉[z,TI,TO,i1,i2]->s.heap.get? b=some o->Pz.get? b=some o:=λb o hb e=>by
   simp only[Yb,aak,or_false,not_or] at hb;exact sb.extBut _ _ hb.1 (kp b o hb.1 hb.2.2.1 hb.2.2.2.1 hb.2.2.2.2 e)
  have I2:aP X pins σ (dF H s.heap.objs.size (.tup [x,y])) {s with heap:=Pz}:=I.turnNew (t':=s.toks) hf Ws (X6 _) ⟨by rw[aaA];simp,[u1,u2],.cons r1 (.cons r2 .nil),⟨_,O5,rfl,_,rfl⟩,_,O5⟩;have fr:H s.heap.objs.size=none:=I.hok.fresh (X6 _);refine⟨.ref s.heap.objs.size,_,I2,rfl,⟨_,x,y,rfl,fr,rfl,λzs hq=>by rw[I.sq_inj hq q1];exact hx,λzs hq=>by rw[I.sq_inj hq q2];exact hy⟩,⟨z2,?_,⟨u1,u2,?_⟩,?_,?_⟩,λb hb=>?_⟩
  ·exact sb.extBut _ _ D.TIz (kp _ _ D.TIz D.TITO D.TIi1 D.TIi2 hI)
  ·exact sb.extBut _ _ D.TOz c2
  ·exact c3.at λo e=>sb.extBut _ _ D.i1z e
  ·exact c4.at λo e=>sb.extBut _ _ D.i2z e
  ·have hn:b≠s.heap.objs.size:=by
    simp only[Yb,aak,or_false] at hb;rcases hb with rfl|rfl|rfl|rfl|rfl
    ·exact Ym lz
    ·exact Ym lI
    ·exact Ym lO
    ·exact Ym Ut
    ·exact Ym Uu
   rw[aS hn];exact (hf b hb).1
 done:=by
  intro X hP hw hK hc i pins s σ H E I hf st hg;subst hP hw hK;obtain⟨hz,hI,⟨p,q,hO⟩,h1,h2⟩:=st;obtain⟨xs,ys,q1,q2,he⟩:=hg;obtain⟨is1,v1,g1⟩:=I.sq q1;obtain⟨is2,v2,g2⟩:=I.sq q2;have n1:=v1.length;have n2:=v2.length;refine we (I.ok.hd hc) D hz hI hO h1 h2 g1 g2 (by
   rcases he with he|he
   ·exact .inl (by simp;lia)
   ·exact .inr (by simp;lia)) λh' kp=>⟨rfl,I.turneds (t':=s.toks) hf λb o hb e=>?_⟩
  simp only[Yb,aak,or_false,not_or] at hb;exact kp b o hb.1 hb.2.2.1 hb.2.2.2.1 hb.2.2.2.2 e
 self:=λ_ _ _ _ _ st h=>wpAny_pyIter_zip st.1 h
section
variable {IL:List aaj}{kt:Nat}{tp p pos:Pos}{a b:aaj}
def Gi:YQ "zip"=some (.type "zip"):=by decide+kernel
def Tq (K:XX)(ta:TA):TI:=λσ H R=>ta σ H λvs H1=>∃l1 l2 a1 a2 xs ys,vs=[.ref a1,.ref a2]/\Bz l1 K H1 a1 xs/\Bz l2 K H1 a2 ys/\R (UU K l1 l2 a1 a2) H1
theorem N7 {ta:TA}(hg:Gl X "zip")(hm:X.mg "zip"=none)(ha:PA X [a,b] ta)(hs:X7 [a,b] X.env=[(false,abh a X.env),(false,abh b X.env)]:=by rfl)(cL:X7 [b] X.env=[(false,abh b X.env)]:=by rfl) :
  PI X (.Tuple IL kt tp) (.Call (.Name "zip" p) [a,b] [] pos) (Tq X.K ta):=by
 intro pins s σ H R I h;refine Call_ (nj I hg hm Gi (ZR (fj (ha pos pins s σ H _ I h) λus s1 ⟨vs,H1,I1,r1,q1⟩=>?_) (by lia) (by rw[cL];rfl)));obtain⟨l1,l2,a1,a2,xs,ys,rfl,g1,g2,q⟩:=q1;cases r1 with
 |cons r rr=>
  cases rr with
  |cons r' rr=>
   cases rr;cases r;cases r';obtain⟨is1,v1,m1⟩:=I1.sq g1;obtain⟨is2,v2,m2⟩:=I1.sq g2;have lt:∀(l:Bool) (c:Ye) (zs:Array XY),eU l s1.heap c zs->c<s1.heap.objs.size:=λl c zs hq=>by
    cases l with
    |true=>obtain⟨_,e,_⟩:=hq;exact X_ e
    |false=>obtain⟨_,e,_⟩:=hq;exact X_ e
   refine wg m1 m2 λh' z1 z2 z3 z4 z5 kp=>wpAny_pyIter_zip z1 ?_;refine⟨_,[s1.heap.objs.size+4,s1.heap.objs.size+2,s1.heap.objs.size+3,s1.heap.objs.size,s1.heap.objs.size+1],_,_,H1,rfl,I1.kept (t':=s1.toks) λb o e=>kp b o e,Gh (zipApart_new (lt l1 a1 _ m1) (lt l2 a2 _ m2)),⟨z1,z2,⟨_,_,z3⟩,z4,z5⟩,λb hb=>?_,q⟩;have hb:s1.heap.objs.size<=b:=by
    grind
   exact I1.fpOk hb (I1.hok.fresh hb)
end
noncomputable def Em:U->Option (List U)
 | .lst us=>some us
 | .tup us=>some us
 |_=>none
noncomputable def En (ga:Ev->R (List U×Ev)):Ev->R (List U×Ev):=λρ=>(ga ρ).bind λx=>match x.1 with
 | [u,w]=>match Em u,Em w with
  |some us,some ws=>.ok (abp (λa b=>.tup [a,b]) us ws,x.2)
  |_,_=>.stk
 |_=>.stk
section
variable {IL:List aaj}{kt:Nat}{tp p1 pos:Pos}{a b:aaj}{b1:Bool}{ga:Ev->R (List U×Ev)}
theorem xo (e:Em u=some us)(h:Rp K H A u v):∃l a xs,v=.ref a/\us.length<=XU/\aU K H A us xs/\Bz l K H a xs/\∀H',fQ A H H'->(∀b,A b->Mu (H b))->Bz l K H' a xs:=by
 unfold Em at e;split at e;rotate_right
 ·cases e
 rotate_left
 ·cases e;unfold Rp at h;obtain⟨a,xs,rfl,q,l,z⟩:=h;exact⟨false,a,xs,rfl,l,z,i6.of q,λH' x mu=>i6.of (x a _ (λy=>by have:=mu a y;rw[q] at this;exact this) q)⟩
 ·cases e;unfold Rp at h;obtain⟨a,xs,rfl,na,q,l,z⟩:=h;exact⟨true,a,xs,rfl,l,z,fS.of q,λH' x mu=>fS.of (x a _ na q)⟩
theorem N8 (ha:DA X G [a,b] b1 false ga)(hm:X.mg "zip"=none)(hg:Gl X "zip":=by rfl)(hs:X7 [a,b] X.env=[(false,abh a X.env),(false,abh b X.env)]:=by rfl)(cL:X7 [b] X.env=[(false,abh b X.env)]:=by rfl) :
  DI X G (.Tuple IL kt tp) (.Call (.Name "zip" p1) [a,b] [] pos) b1 false (En ga):=⟨(N7 hg hm ha.un hs cL).to λσ H RR h00=>by
 obtain⟨Z,A,ρ,q,f⟩:=h00;unfold En at f;cases e1:ga ρ with
 |stk=>rw[e1] at f;exact f.elim
 |exc=>rw[e1] at f;exact f.elim
 |ok y=>
  obtain⟨us,ρ1⟩:=y;rw[e1] at f;dsimp only[L2.R.bind] at f;refine⟨Z,A,ρ,q,?_⟩;rw[e1];intro vs H1 q1 x1 s1 vm;split at f
  ·rename_i Wh ρ' e2;split at e2
   ·rename_i u w';split at e2
    ·rename_i as bs ea eb;cases e2;have r:=vm.rps;unfold aU at r;obtain⟨v,vr,rfl,r1,r2⟩:=r;unfold aU at r2;obtain⟨v',vr',rfl,r3,r4⟩:=r2;unfold aU at r4;subst r4;obtain⟨l1,a1,xs,rfl,n1,z1,k1,B4⟩:=xo ea r1;obtain⟨l2,a2,ys,rfl,n2,z2,k2,mF⟩:=xo eb r3;refine⟨l1,l2,a1,a2,xs,ys,rfl,k1,k2,f _ H1 q1 x1 s1 ⟨?_,λH2 A' hx B7=>?_⟩⟩
     ·rw[abJ];exact YX (Nat.min_le_left _ _) n1
     ·rw[hV XR] at hx;have Uv:=B4 H2 hx q1.mu;have Uw:=mF H2 hx q1.mu;have w1:=z1.re q1.mu hx B7;have w2:=z2.re q1.mu hx B7;refine⟨λi u hu=>?_,⟨xs,ys,Uv,Uw,?_⟩⟩
      ·rw[acz] at hu;cases hA:as[i]? with
       |none=>rw[hA] at hu;cases hu
       |some ua=>cases hB:bs[i]? with
        |none=>rw[hA,hB] at hu;cases hu
        |some ub=>
         rw[hA,hB] at hu;cases hu;obtain⟨x,AZ,px⟩:=w1.get hA;obtain⟨y,hy1,py⟩:=w2.get hB;refine⟨⟨xs,ys,x,y,Uv,Uw,AZ,hy1⟩,λx' H' yl=>?_⟩;obtain⟨T,x2,y2,rfl,hT,rfl,g1,g2⟩:=yl;have ex:x2=x:=by have:=g1 xs Uv;rw[AZ] at this;cases this;rfl
         have ey:y2=y:=by have:=g2 ys Uw;rw[hy1] at this;cases this;rfl
         subst ex ey;have sm:=dI hT (.tup [x2,y2]);refine⟨sm,?_⟩;unfold Rp;exact⟨T,_,rfl,aQ,by have:XU=16777216:=rfl;rw[this];simp,aU.cons (px.same sm) (aU.cons (py.same sm) aU.nil)⟩
      ·rw[abJ,←z1.length,←z2.length];rcases adb as.length bs.length with z|z
       ·exact .inl (by rw[ZF z];exact X6 _)
       ·exact .inr (by rw[Nat.min_eq_right z];exact X6 _)
    ·cases e2
   ·cases e2
  ·exact f.elim⟩
end
end L2
namespace L2
section
variable {A:YG}
theorem BA {x:V}{u:XY}{n:String}{tp:Ye}(I:aP X pins σ H s)(rx:bX x u)(ty:vq X.K H x n)(IM:s.heap.get? tp=some {cls:=.type "tuple",data:=.seq aA.toArray k})(e:adp X.K (.type n) aA=some b)(h:∀tk,Q (.bool b) {s with toks:=tk}) :
  Yg (Yw X.prog X.w) A (call (.builtin "isinstance") [u,.ref tp]) Q E s:=by
 cases ty with
 |non=>cases (show u=Value.none from rx);exact aab PySem.W.kitx_none I.kIn True.intro IM e (λz=>nomatch z) h
 |bl y=>cases (show u=Value.bool y from rx);exact aab PySem.W.kitx_bool I.kIn True.intro IM e (λz=>nomatch z) h
 |int i=>obtain⟨t,q⟩:=(show ∃t,u=Value.int i t from rx);cases q;exact aab PySem.W.kitx_int I.kIn True.intro IM e (λz=>nomatch z) h
 |str y=>obtain⟨t,q⟩:=(show ∃t,u=Value.str y t from rx);cases q;exact aab PySem.W.kitx_str I.kIn True.intro IM e (λz=>nomatch z) h
 | @lst a xs ea=>
  cases (show u=Value.ref a from rx);obtain⟨_,_,n,_,h1⟩:=(show cD X.prog X.w H s.heap a (.lst xs) from I.hok a _ ea);exact aab ace I.kIn ⟨_,h1,rfl⟩ IM e (λz=>nomatch z) h
 | @frz a ob xs ea=>
  cases (show u=Value.ref a from rx);obtain⟨_,_,_,n,_,h1⟩:=(show cD X.prog X.w H s.heap a (.frz ob (.lst xs)) from I.hok a _ ea);exact aab ace I.kIn ⟨_,h1,rfl⟩ IM e (λz=>nomatch z) h
 | @tup a xs ea=>
  cases (show u=Value.ref a from rx);obtain⟨_,_,_,p,_⟩:=(show cD X.prog X.w H s.heap a (.tup xs) from I.hok a _ ea);obtain⟨o,h1,h2,_⟩:=p;exact aab PySem.W.kitx_tuple I.kIn ⟨o,h1,h2⟩ IM e (λz=>nomatch z) h
 | @dK a ir ea=>
  cases (show u=Value.ref a from rx);obtain⟨_,_,vs,_,p⟩:=(show cD X.prog X.w H s.heap a (.dK ir) from I.hok a _ ea);obtain⟨o,es,ep,h1,h2,_⟩:=p;exact aab acf I.kIn ⟨o,h1,h2.1⟩ IM e (λz=>nomatch z) h
 | @dT a ir ea=>
  cases (show u=Value.ref a from rx);obtain⟨_,_,xs,_,o,es,ep,h1,h2,_⟩:=(show cD X.prog X.w H s.heap a (.dT ir) from I.hok a _ ea);exact aab acf I.kIn ⟨o,h1,h2.1⟩ IM e (λz=>nomatch z) h
theorem xp {m1 m2:String}(h1:m1∈["bool","int","str","list","tuple","dict"])(h2:m2∈["bool","int","str","list","tuple","dict"]) :
  eO X (.builtin "isinstance") (λxs H Q=>∃x n p,xs=[x,.ref p]/\H p=some (.tup [.ty m1,.ty m2])/\vq X.K H x n/\Q (.bl (fw n m1||fw n m2)) H):=by
 intro pins s σ H xs us Q I r h;obtain⟨x,n,p,rfl,hp,ty,q⟩:=h;obtain⟨u,w',rfl,rx,rt⟩:=vL r;cases rt;obtain⟨_,aA,vs,_,k,hg⟩:=(show cD X.prog X.w H s.heap p (.tup [.ty m1,.ty m2]) from I.hok p _ hp);obtain⟨a,b,rfl,ra,rb⟩:=vL vs;cases ra;cases rb;refine BA I rx ty hg (b:=fw n m1||fw n m2) ?_ λtk=>⟨.bl _,H,I.tok tk,rfl,q⟩;unfold adp adp adp;rw[Fx X.K ty.mem h1,Fx X.K ty.mem h2];cases fw n m1<;>cases fw n m2<;>rfl
end
section
variable {e:aaj}{pos p1 p3 p4:Pos}{b1:Bool}{m1 m:Md}{g1:Ev->R (U×Ev)}{v:Option aaj}{w:Option aaj}
noncomputable def BC (T1 T2:String)(g:Ev->R (U×Ev)):Ev->R (U×Ev):=λρ=>(g ρ).bind λx=>if Ee x.1="script" then .stk else .ok (.bl (fw (Ee x.1) T1||fw (Ee x.1) T2),x.2)
theorem vq.re {x:V}{n:String}(h:vq K H x n)(k:∀a o,H a=some o->H' a=some o):vq K H' x n:=by
 cases h with
 |non=>exact .non
 |bl=>exact .bl _
 |int=>exact .int _
 |str=>exact .str _
 |lst e=>exact .lst (k _ _ e)
 |frz e=>exact .frz (k _ _ e)
 |tup e=>exact .tup (k _ _ e)
 |dK e=>exact .dK (k _ _ e)
 |dT e=>exact .dT (k _ _ e)
theorem Gj {T1 T2:String}{x1 x2:Str}{c:Nat}(Jf:T1∈["bool","int","str","list","tuple","dict"])(AX:T2∈["bool","int","str","list","tuple","dict"])(he:DE X G e b1 m1 g1)(zi:X.mg "isinstance"=none)(Wt:X.mg x1=none)(Wu:YQ x1=some (.type T1))(Wv:X.mg x2=none)(Ww:YQ x2=some (.type T2))(hg:Gl X "isinstance":=by rfl)(Sq:Gl X x1:=by rfl)(Wx:Gl X x2:=by rfl)
  (Um:x1≠"__name__":=by decide) (Wy:(x1==("__debug__":Str))=false:=by decide) (MT:x2≠"__name__":=by decide) (EZ:(x2==("__debug__":Str))=false:=by decide)
  (hs:X7 [e,.Tuple [.Name x1 p2,.Name x2 p3] c p4] X.env=(false,abh e X.env)::X7 [.Tuple [.Name x1 p2,.Name x2 p3] c p4] X.env:=by rfl)
  (cL:X7 [.Tuple [.Name x1 p2,.Name x2 p3] c p4] X.env=(false,abh (.Tuple [.Name x1 p2,.Name x2 p3] c p4) X.env)::X7 [] X.env:=by rfl)
  (yw:X7 [.Name x1 p2,.Name x2 p3] X.env=(false,abh (.Name x1 p2) X.env)::X7 [.Name x2 p3] X.env:=by rfl)
  (PB:X7 [.Name x2 p3] X.env=(false,abh (.Name x2 p3) X.env)::X7 [] X.env:=by rfl)
  (jZ:(aan pos (X7 [.Tuple [.Name x1 p2,.Name x2 p3] c p4] X.env)).any (·.1)=false:=by rfl) :
  DE X G (.Call (.Name "isinstance" p1) [e,.Tuple [.Name x1 p2,.Name x2 p3] c p4] [] pos) b1 .S (BC T1 T2 g1):=
 ⟨(j5 (xp (m1:=T1) (m2:=T2) Jf AX) hg zi gP (aG he.un (aG (Fc (aG (su (v:=.ty T1) Sq Wt Wu rfl Um Wy) (aG (su (v:=.ty T2) Wx Wv Ww rfl MT EZ) cM PB) yw)) cM cL) hs) (by decide) (by decide) hs jZ).to λσ H Q h=>by
 obtain⟨Z,A,ρ,q,f⟩:=h;obtain⟨⟨u,ρ1⟩,e1,f⟩:=f.bind;refine⟨Z,A,ρ,q,?_⟩;rw[e1];intro v H1 q1 x1 s1 vm;dsimp only at f;split at f
 ·exact f.elim
 ·rename_i hn;exact⟨by show 2<=XU;decide,λp hp=>⟨v,Ee u,p,rfl,aQ,(Lz vm.pk hn).re λa o z=>by rw[aS (bG z hp)];exact z,f _ _ (q1.same (dI hp _)) (x1.trans (fQ.same (dI hp _))) (p7 s1 (dI hp _)) (vV.ofS iC)⟩⟩⟩
theorem Gk {g:Ev->SR}(h:∀ρ,∃c u,g ρ=.exc c u)(hW:∀H,¬G.W H:=by exact λ_ h=>h):DS X G m (.Raise v w pos) g:=⟨λpins s σ H D I h00=>by
 obtain⟨Z,A,ρ,q,f⟩:=h00;obtain⟨c,u,e⟩:=h ρ;rw[e] at f;exact absurd (f H q.bas) (hW H)⟩
end
end L2
section
set_option maxHeartbeats 400000
namespace L2
open PySem PySem.Spec PyProof.Rows PySem.W
structure vy (K:Frag)(C:Ye):Prop where
 cls:(clsIn K C).isSome=true
 ga:findIn K (.ref C) "__getattribute__"=some (some (.builtin "BaseException.__getattribute__"))
 gn:findIn K (.ref C) "__getattr__"=some none
 cl:findIn K (.ref C) "__class__"=some (some (.builtin "object.__class__"))
 gt:specialIn K (.builtin "object.__class__") "__get__"=some (some (.builtin "getset_descriptor.__get__"))
 tk:takesIn K (.builtin "object.__class__")=some true
 ob:mroIn K C (.type "object")=some true
 be:mroIn K C (.type "BaseException")=some true
def oM (x C:Ye)(h:Z9):Prop:=∃ox,h.get? x=some ox/\ox.cls=.ref C
theorem oM.ty {x:Ye}(I:oM x C h)(M:Model):Looks M h (typeOf (.ref x)) (.ref C):=by
 obtain⟨ox,pP,e⟩:=I;exact e▸(Looks.ld pP).andThen .now
section
variable {w:Y6}{A:YG}{K:Frag}{x:Ye}
def Gn (Z:vy K C)(X:K.In h):Looks M h (Builtin.ObjectAttr.find (.ref x) (.ref C) "__class__") (.bind (.builtin "getset_descriptor.__get__") (.builtin "object.__class__")):=by
 have m1:=looks_findIn (M:=M) X Z.cl;have m2:Looks M h (Builtin.ObjectAttr.getOf (some (.builtin "object.__class__"))) (some (.builtin "getset_descriptor.__get__")):=looks_specialIn X Z.gt;have m3:Looks M h (Builtin.ObjectAttr.dataDescriptor? (some (.builtin "object.__class__")) (some (.builtin "getset_descriptor.__get__"))) (some (.builtin "getset_descriptor.__get__",.builtin "object.__class__")):=(looks_takesIn (M:=M) X Z.tk).andThen .now;exact m1.andThen (m2.andThen (m3.andThen (Looks.tag .now)))
open Builtin Builtin.ObjectAttr Builtin.Getset_descriptor in
theorem Kc {tp:XY}{R:Result->Ya->Prop}(Z:vy K C)(X:K.In s.heap)(I:oM x C s.heap)(h:R (.ok (.ret (.ref C))) s):acg (Yw prog w) A (.call (.builtin "getset_descriptor.__get__") ⟨[.builtin "object.__class__",.ref x,tp],[]⟩) R s:=by
 have m0:=I.ty (Yw prog w);have m1:=looks_mroIn (M:=Yw prog w) X Z.ob;obtain⟨hp,gs,dn,tt,oo⟩:=s;have Wz:(⟨hp,gs,dn,tt,oo⟩:Ya).TypeIs (.builtin "object.__class__") "getset_descriptor":=KF.type_class;refine acH KF.slot_gs.plain KF.entry_gs ?_;refine KF.slot_gs.check _ _ _ _ _ _ _ _ Wz (KF.args_gs _ _ _) ?_;unfold Builtin.«getset_descriptor.__get__» descrGet;rw[dga_obj];refine XM ?_;refine XS ?_;unfold descrGetter descrCheckInstance;unfold descrNameAndClass isInstance;simp only[KF.owner_class]
 repeat lk
 refine⟨Code.quiet_builtin _ (by decide+kernel),?_⟩;refine Zl KF.entry_class ?_;unfold Builtin.«object.__class__»;unfold shownTypeOf
 repeat lk
 exact h
theorem Eo {tk:Tok}{Q:Fin->Ya->Prop}(Z:vy K C)(X:K.In s.heap)(I:oM x C s.heap)(h:Q (.done (.ret (.ref C))) s) :
  Yg (Yw prog w) A (Builtin.«object.__getattribute__» ⟨[.ref x,.str "__class__" tk],[]⟩) Q E s:=by
 have CG:=Kc (prog:=prog) (w:=w) (A:=A) (tp:=.ref C) (R:=λr s'=>r=.ok (.ret (.ref C))/\s'=s) Z X I ⟨rfl,rfl⟩;have L0:=I.ty (Yw prog w);obtain⟨hh,g,d,t,os⟩:=s;have L1:=Gn (M:=Yw prog w) (x:=x) Z X;unfold Builtin.«object.__getattribute__»;refine XM (m:=slotArgs "__getattribute__" 1 ⟨[.ref x,.str "__class__" tk],[]⟩) (abo (a:=(.ref x,[.str "__class__" tk])) rfl ?_);refine XM (abo (a:=("__class__":Str)) rfl ?_);refine XM (L0.at (XM (L1.at ?_)));show Yg _ _ (do ret (←adk [Value.builtin "object.__class__"] (call (.builtin "getset_descriptor.__get__") [.builtin "object.__class__",.ref x,.ref C]))) _ _ _;refine XM (Y4 (adA (aaL CG λr s' hr=>?_)));obtain⟨rfl,rfl⟩:=hr;exact XS h
theorem Ep {MZ:XY}{Q:Unit->Ya->Prop}(Z:vy K C)(X:K.In s.heap)(I:oM x C s.heap)(hq:Q () s):Yg M A (checkBuiltinCall "BaseException.__getattribute__" ⟨[.ref x,MZ],[]⟩) Q E s:=by
 have hk:builtinKind "BaseException.__getattribute__"=some .slot:=by rfl
 have O7:splitId "BaseException.__getattribute__"=some ("BaseException","__getattribute__"):=by rfl
 have ha:=F.args_bexc_ga (.ref x) MZ;have LI:Looks M s.heap (isInstance (.ref x) (.type "BaseException")) true:=(I.ty M).andThen (looks_mroIn (M:=M) X Z.be);obtain⟨hh,g,d,t,os⟩:=s;simp only[checkBuiltinCall,hk,O7];refine XM (LI.at ?_)
 repeat (first|assumption|wp_step)
theorem Er {Q:Option XY->Ya->Prop}(Z:vy K C)(X:K.In s.heap)(I:oM x C s.heap)(h:Q (some (.ref C)) {s with toks:=s.toks+1}):Yg (Yw prog w) A (getAttr? (.ref x) "__class__") Q E s:=by
 obtain⟨hh,g,d,t,os⟩:=s;have L0:=I.ty (Yw prog w);have L1:=looks_findIn (M:=Yw prog w) X Z.ga;have L2:=looks_findIn (M:=Yw prog w) X Z.gn;unfold getAttr? getAttrBy? getAttrBy;refine XM (wpAny_mkText (XM (aar (Y4 (XM (L0.at (XM (L1.at ?_))))))));have AZ:(onTheHeap (Value.ref C)&&Value.builtin "BaseException.__getattribute__"==Value.builtin "object.__getattribute__")=false:=by
  have Sr:(Value.builtin "BaseException.__getattribute__"==Value.builtin "object.__getattribute__")=false:=by decide+kernel
  rw[Sr];rfl
 dsimp only;rw[hV (by rw[AZ];exact XR)];unfold getAttrByItsOwn hookBefore;refine XM (L2.at ?_);refine XM (aar (Y4 ?_));show Yg _ _ (boundAndCalled (.builtin "BaseException.__getattribute__") (.ref x) (.str "__class__" t)) _ _ _;unfold boundAndCalled;have FX:=F.attr_ValueError;refine XM (abo (FX.ga.bind (.ref x)) ?_);refine adA (acH FX.ga.plain F.entry_bexc_ga (Ep Z X I (Eo (s:=⟨hh,g,d,t+1,os⟩) Z X I ?_)));exact handed_on rfl (XS h)
theorem Gp (Z:vy K C):KitX K (.ref x) (.ref C) (oM x C) where
 ty:=λM h X I=>I.ty M
 it:=λM h X _=>by
  obtain⟨cdD,hcD⟩:=abN.mp Z.cls;unfold clsIn at hcD;split at hcD
  ·rename_i c' d' WA RK ho;intro A' Q' E' s' k q;unfold isType loadHead;exact XM (wpAny_loadPart (k _ _ (X _ _ ho)) (XS q))
  ·cases hcD
 ne:=λh tp dd aA n sl X IM=>by
  obtain⟨cdD,hcD⟩:=abN.mp Z.cls;refine aa3.mpr λq=>?_;have e:C=tp:=Value.ref.inj (beq_iff_eq.mp q);subst e;unfold clsIn at hcD;split at hcD
  ·rename_i c' d' WA RK ho;have z:=(X _ _ ho).symm.trans IM;cases z
  ·cases hcD
 ca:=λX I k=>Er Z X I k
end
end L2
end
section
set_option maxHeartbeats 400000
namespace L2
open PySem PySem.Spec PyProof.Rows PySem.W
structure R9 (P:aaT)(w:Y6)(outer:List Env)(H:Hp)(s:Ya)(B:Z9)(H1:Hp)(r:Z9)(L:Ye):Prop where
 un:Un (sR outer) [] H H1 s.heap r
 hok:mR P w H1 r
 kB:∀b o,r.get? b=some o->b∉sR outer->b≠L->B.get? b=some o
 nL:s.heap.get? L=none
 hL:H1 L=none
 fr:∀b∈sR outer,H b=none/\∃o,s.heap.get? b=some o/\∀vs,o.data≠.fields vs
def CH (P:aaT)(w:Y6)(C:Ye):CXT:=λouter H s E e s'=>∃(ea t L:Ye) (B r:Z9) (H1:Hp),e=.ref ea/\s'.os=s.os/\adj s'.gens/\R9 P w outer H s B H1 r L/\Heap.FlyingW B outer ea (.ref C) (.ref t) s'.heap/\r.UpToSlots s'.heap/\r.get? ea=none/\E (.ref C) none H1
theorem mR.keptT {w:Y6}(x:mR P w H h)(k:∀b u o,H b=some o->h.get? b=some u->h'.get? b=some u):mR P w H h':=λa o e=>
 (x a o e).stay (λb u hb q=>by
  grind) (λ_ q=>q) λ_ _ q=>q
section
variable {w:Y6}{outer:List Env}{B r:Z9}{L:Ye}
theorem R9.there (F:R9 P w outer H s B H1 r L)(k:B.StaysIn h)(u:r.UpToSlots h):Un (sR outer) [] H H1 s.heap h/\mR P w H1 h:=by
 have Lf:∀b o,s.heap.get? b=some o->b≠L:=λb o e z=>by rw[z,F.nL] at e;cases e
 have Vs:∀b o,s.heap.get? b=some o->b∈sR outer->∃sl,h.get? b=some {o with slots:=sl}:=λb o e hb=>by
  obtain⟨hn,o',e',nf⟩:=F.fr b hb;rw[e] at e';cases e';obtain⟨sl,q⟩:=F.un.slot b o e hn hb (by simp);obtain⟨RK,q'⟩:=u b _ q (λvs z=>nf vs z);grind
 refine⟨⟨λb o e n hb hx=>k b o (F.kB b o (F.un.keep b o e n hb hx) hb (Lf b o e)),λb o e n hb hx=>Vs b o e hb,F.un.free,λb o e hx=>?_,F.un.tups,F.un.frzs,F.un.tbls⟩,F.hok.keptT λb v o e q=>?_⟩
 ·by_cases hb:b∈sR outer
  ·grind
  ·obtain⟨o',q⟩:=F.un.there b o e hx;exact⟨o',k b o' (F.kB b o' q hb (Lf b o e))⟩
 ·refine k b v (F.kB b v q (λhb=>?_) λz=>by rw[z,F.hL] at e;cases e);obtain⟨hn,o',e',_⟩:=F.fr b hb;rw[F.un.free b o' e' hn (by simp)] at e;cases e
end
section
variable {B r:Z9}{L:Ye}
theorem aP.fly {t':Nat}{d':Drawn}(I:aP X pins σ H s)(F:R9 X.prog X.w X.stack H s B H1 r L)(k:B.StaysIn h)(u:r.UpToSlots h)(hg:adj g'):aP X pins σ H1 {s with heap:=h,gens:=g',drawn:=d',toks:=t'}:=by
 obtain⟨a,b⟩:=F.there k u;exact I.call (h':=h) (g':=g') (d':=d') (t':=t') (ch:=[]) a b hg λ_ z=>absurd z (by simp)
end
end L2
end
section
set_option maxHeartbeats 400000
namespace L2
open PySem PySem.Spec PyProof.Rows PySem.W
abbrev zm:List XY:=[.type "ValueError",.type "Exception",.type "BaseException",.type "object"]
theorem Kd {K:Frag}{Vt:List XY}{M3:String}(X:K.In h)(q:excIn K C Vt M3=true) :
  ∃bm N nm qn bs hdct sn sub ab col dd k0 k1 k2 k3 k5 mN,h.get? C=some (excClassObj nm qn C N bs bm hdct sn sub ab col dd k0 k1 k2 k3 k5 M3)/\h.Ns N mN/\mN "__init__"=none/\OwnTail h Vt bm:=by
 unfold excIn at q;split at q
 ·rename_i d1 cd sl ho;split at q
  ·rename_i C' bm k0 k1 k2 k3 n k5 hm hs;simp only[YD,beq_iff_eq,adH] at q;obtain⟨⟨⟨⟨⟨e1,e2⟩,hdel⟩,ht⟩,hok⟩,hni⟩:=q;subst e1;subst e2;obtain⟨nm,bs,mro,ns,qn,hd,sn,sub,ab,col,del⟩:=cd;dsimp only at hm hdel hok hni;subst hm;subst hdel;have WB:sl=(List.toArray [k0,k1,k2,k3,some (.builtin n),k5]):=by
    obtain⟨l⟩:=sl;simp only at hs;rw[hs]
   subst WB;exact⟨bm,ns,nm,qn,bs,hd,sn,sub,ab,col,d1,k0,k1,k2,k3,k5,_,X _ _ ho,.of_isNs (isNs_of_in X hok),nsMap_none_of_in X hok hni,tail_of_in X ht⟩
  ·cases q
 ·cases q
section
variable {w:Y6}{K:Frag}{base:Z9}{bQ:XY}{A:YG}{outer:List Env}{s0:Ya}{H0:Hp}{E:XK}
theorem Es {e:Ye}{vs:List XY}(I:aP (jC (CH P w C) P w K mg base N qual scope f bQ A outer s0 H0 E) pins σ H s)(hm:Heap.MadeExcOf s.heap h' e (.ref C) vs)(hE:E (.ref C) none H)(nL:s0.heap.get? s0.heap.objs.size=none:=by exact Heap.get?_none_of_le (X6 _)):(jC (CH P w C) P w K mg base N qual scope f bQ A outer s0 H0 E).xe (.ref e) {s with heap:=h'}:=by
 let env:=aae qual scope s0.heap.objs.size f bQ
 have g_:s.heap.FunFrames base (env::outer):=I.stack;have rJ:∀en∈(env::outer),∀a,en.frame=some a->a∈sR (env::outer):=λen he a ha=>abX.mpr ⟨en,he,ha⟩;refine wpAny_leaves_madeW (base:=hideAll s.heap (sR (env::outer))) (h:=s.heap) (L:=s0.heap.objs.size) (outer:=outer) I.ok.frames rfl (λb o q=>of_hideAll _ q) (funFrames_hide g_ rJ) hm λh2 t fl tp nt up=>?_;refine⟨e,t,s0.heap.objs.size,_,s.heap,H,rfl,I.os,I.bare,⟨I.base,I.hok,λb o q nb nl=>hideAll_get _ q λz=>?_,nL,I.free,λb hb=>⟨I.ok.frf b hb,?_⟩⟩,fl,(Heap.UpToSlots.of_keeps hm.keeps).trans up,hm.new,hE⟩
 ·unfold sR at z;rw[aay] at z;rcases Yb.mp z with z|z
  ·exact nl z
  ·exact nb z
 ·exact (I.ok.funs.mem hb).2
variable {np cpos pos:Pos}{e0:aaj}{t:TA}
def N9 (C:Ye)(E:XK)(t:TA):TS:=λ_ σ H=>t σ H λxs H1=>xs.length<=XU/\E (.ref C) none H1
theorem Gq (hx:mg x=some (.ref C))(hq:excIn K C zm "ValueError.__new__"=true)(hh:A.handled=none)
  (ha:PA (jC (CH P w C) P w K mg base N qual scope f bQ A outer s0 H0 E) [e0] t) (hg:Gl (jC (CH P w C) P w K mg base N qual scope f bQ A outer s0 H0 E) x:=by rfl) (hd:(x==("__debug__":Str))=false:=by decide)
  (he:X7 [e0] (aae qual scope s0.heap.objs.size f bQ)=(false,abh e0 (aae qual scope s0.heap.objs.size f bQ))::X7 [] (aae qual scope s0.heap.objs.size f bQ):=by rfl) :
  PS (jC (CH P w C) P w K mg base N qual scope f bQ A outer s0 H0 E) (.Raise (some (.Call (.Name x np) [e0] [] cpos)) none pos) (N9 C E t):=by
 intro pins s σ H D I h;obtain⟨tl,NN,nm,q,bs,hdct,sn,sub,ab,col,dd,k0,k1,k2,k3,k5,mN,hC,hN,hni,T⟩:=Kd I.ok.mod.kin hq;have FB:=F.excBase_ValueError;refine wpAny_Raise_call_subU (C:=C) (nm:=nm) (q:=q) (N:=NN) (bs:=bs) (bm:=tl) (hdct:=hdct) (sn:=sn) (sub:=sub) (ab:=ab) (col:=col) (dd:=dd) (k0:=k0) (k1:=k1) (k2:=k2) (k3:=k3) (k5:=k5) FB FB.hasB FB (mN:=mN) (T.hasType FB.hasBase) hh ?_ hni (l6 I hg hx ⟨rfl,?_⟩ hd)
 ·show (aan cpos (X7 [e0] (aae qual scope s0.heap.objs.size f bQ))).any (·.1)=false;rw[he];rfl
 ·show Yg _ _ (evalArgs (.ref C) true (aan cpos (X7 [e0] (aae qual scope s0.heap.objs.size f bQ))) []) _ _ _;have h1:=ha cpos pins s σ H _ I h;have Ss:X7 [e0] (jC (CH P w C) P w K mg base N qual scope f bQ A outer s0 H0 E).env=(false,abh e0 (aae qual scope s0.heap.objs.size f bQ))::X7 [] (aae qual scope s0.heap.objs.size f bQ):=he;rw[Ss] at h1;rw[he];refine Calls.evalArgs_plain (fj h1 λus s2 ⟨xs,H2,I2,r2,l2,hE⟩=>?_);have kk:∀b o,base.get? b=some o->s2.heap.get? b=some o:=λb o z=>(I2.bs b o z).1;exact⟨rfl,by rw[←r2.length];exact l2,kk _ _ hC,hN.keeps kk,T.keeps kk,λh' e hm=>Es I2 hm hE⟩
end
end L2
end
section
set_option maxHeartbeats 400000
namespace L2
open PySem PySem.Spec PyProof.Rows
structure gW (k:Nat)(A:YG):Prop where
 dp:A.depth+3*k+5<adl
 un:A.units+16*k+200<abH
theorem gW.deeper {A:YG}(r:gW (k+1) A)(env:Env):gW k (A.deeper env):=
 ⟨by have:=r.dp;show A.depth+1+3*k+5<_;lia,by have:=r.un;show A.units+3+16*k+200<_;lia⟩
theorem gW.depth {A:YG}(r:gW k A):A.depth<adl:=by have:=r.dp;lia
structure CI (P:aaT)(w:Y6)(K:XX)(mg:Str->Option XY)(base:Z9)(CX:CXT)(k:Nat)(f:Ye)(fd:aa9)(ps:List Str)(sp:Sp):Prop where
 len:∀vs H Q E,sp vs H Q E->vs.length=ps.length
 run:∀(A:YG) (outer:List Env) (s:Ya) (H:Hp) (args:Args) (us:List XY) (vs:List V) (Q:VK) (E:XK),gW k A->D4 P w K mg base A outer s H->BindsTo s fd args (ps.zip us)->bw vs us->sp vs H Q E->
  acg (Yw P w) A (.call (.ref f) args) (CR CX outer P w H s Q E) s
noncomputable def zo (CX:CXT)(P:aaT)(w:Y6)(K:XX)(mg:Str->Option XY)(base:Z9)(N:List Str)(qual:Str)(scope:acY)(f:Ye)(cd:XY)(A:YG)(outer:List Env)(s:Ya)(H:Hp)(E:XK):Cx where
 prog:=P
 w:=w
 K:=K
 mg:=mg
 base:=base
 A:=A.deeper (aae qual scope s.heap.objs.size f cd)
 N:=N
 s₀:=s
 H₀:=H
 env:=aae qual scope s.heap.objs.size f cd
 outer:=outer
 stack:=aae qual scope s.heap.objs.size f cd::outer
 ex:=[]
 calm:=false
 fn:=λ_=>true
 pn:=[]
 xe:=λe s'=>Yg (Yw P w) (A.deeper (aae qual scope s.heap.objs.size f cd)) (leaving (aae qual scope s.heap.objs.size f cd) e) (λ_ DB=>CX outer H s E e DB) (λe' DB=>CX outer H s E e' DB) s'
theorem BD {w:Y6}{base:Z9}{cd:XY}{A:YG}{outer:List Env}{s1:Ya}{E:XK}{us:List XY}(S:aW N ps scope)(e0:D4 P w K mg base A outer s H)(hl:vs.length=ps.length)(r:bw vs us)(x:InCallC s s.heap.objs.size (bindL (aae qual scope s.heap.objs.size f cd).kindOf (ps.zip us) λ_=>none) (cellsFrom (s.heap.objs.size+1) scope.names []) (bindC (aae qual scope s.heap.objs.size f cd).kindOf (ps.zip us) λ_=>none) s1) :
  aP (zo CX P w K mg base N qual scope f cd A outer s H E) [] (abc N vs) H s1:=by
 have jZ:ps.length<=N.length:=by have:=congrArg Z2 S.pre;rw[Ys] at this;lia
 obtain⟨h1,tk,rfl,hk⟩:=x.done;have Lg:∀b:Ye,b∉(zo CX P w K mg base N qual scope f cd A outer s H E).ex:=λb z=>absurd (show b∈([]:List Ye) from z) (by simp);refine⟨⟨e0.mod,S.kind,rfl,rfl,X6 _,λy z c h1 h2=>?_,λy hy=>?_,λy c _ h=>?_,λz=>absurd z XR,Around.frames_deeper e0.frames,.inr ⟨rfl,rfl⟩,λb z=>absurd z (Lg b),e0.bs,e0.bsz,λb _ _=>Lg b,λb z=>absurd z (Lg b),e0.funs,e0.frf⟩,
  rfl,e0.bare,Un.kept hk,⟨_,x.toInCall.ns,λi y v h1 h2 h3=>?_⟩,λy c h=>⟨_,x.cell y c h⟩,e0.hok.fresh (X6 _),λy c h=>?_,λp hp=>absurd (show p∈([]:List (Ye×Obj)) from hp) (by simp),e0.hok.kept hk,?_⟩
 ·exact name_of_addr x.apart (YM h1) (YM h2)
 ·have hy:scope.names.lookup y=some .cell\/scope.names.lookup y=some .free:=hy;rcases hy with hy|hy
  ·exact om hy
  ·exact absurd rfl (S.nofree _ (YM hy))
 ·exact abM (x.above y c (YM h))
 ·have hi:i<vs.length:=by
   unfold abc at h2;by_cases hi:i<vs.length
   ·exact hi
   ·rw[Y3 (by simpa using hi)] at h2;rw[abY] at h2;split at h2<;>cases h2
  have ha:vs[i]? = some v:=by
   unfold abc at h2;rw[Y7 (by simpa using hi),Yq] at h2;cases e:vs[i]? with
   |none=>rw[e] at h2;cases h2
   |some a=>rw[e] at h2;cases h2;rfl
  obtain⟨u,hu,rv⟩:=r.get ha;have hp:ps[i]? = some y:=by
   rw[←S.pre,abO (by lia)];exact h1
  have Ro:ps.Nodup:=by rw[←S.pre];exact S.nd.sublist (adB _ _)
  refine⟨u,rv,?_⟩;rcases S.par y (YA hp) with k|k
  ·exact .inl ⟨k,pW Ro hp hu k⟩
  ·obtain⟨c,e⟩:=om (n:=s.heap.objs.size+1) k;refine .inr ⟨.inl k,c,e,?_⟩;have q:=x.cell y c e;rw[pX Ro hp hu (by show scope.names.lookup y≠_;rw[k];decide)] at q;exact q
 ·exact e0.hok.fresh (abM (x.above y c (YM h)))
 ·unfold abc;show _=N.length;rw[XW,XO,abj];lia
theorem Gs {w:Y6}{base:Z9}{name:Str}{params:Arguments}{dV kV kX pm bQ ct oc:XY}(lk:K.lookup f=some ⟨oc,od,.func (Zu name qual params body scope dV kV kX pm an bQ ct),osl⟩)(kI:acr K bQ qual=true)(S:aW N ps scope)(len:∀vs H Q E,sp vs H Q E->vs.length=ps.length)(gf:∀(A:YG) (outer:List Env) (s:Ya) (H:Hp) (vs:List V) (Q:VK) (E:XK),gW k (A.deeper (aae qual scope s.heap.objs.size f bQ))->sp vs H Q E->
   ∃t,sU (zo CX P w K mg base N qual scope f bQ A outer s H E) body t/\t {nx:=λ_ H'=>Q .non H',rt:=Q} (abc N vs) H) :
  CI P w K mg base CX (k+1) f (Zu name qual params body scope dV kV kX pm an bQ ct) ps sp:=by
 refine⟨len,λA outer s H args us vs Q E hr e0 hb r Iz=>?_⟩;have hl:=len _ _ _ _ Iz;have KX:K.In s.heap:=e0.mod.kin.keeps λb o e=>(e0.bs b o e).1;have T6:s.heap.NoLimit:=e0.mod.nolimit.keeps λb o e=>(e0.bs b o e).1;have IA:∀y∈ps.zip us,scope.names.lookup y.1=some .local\/(scope.names.lookup y.1=some .cell/\((cellsFrom (s.heap.objs.size+1) scope.names []).lookup y.1).isSome=true):=fun⟨n,v⟩ hy=>by
  rcases S.par n (acP hy).1 with q|q
  ·exact .inl q
  grind[ab_]
 refine codeAny_call_function hr.depth (KX _ _ lk) rfl S.co S.gen rfl (PySem.W.codeRec_of KX kI) (hb _ _ _ _ ?_);refine wpAny_newFunctionEnv_cells S.kind IA λenv he s1 x=>?_;subst he;refine⟨T6.keeps x.toInCall.keep,codeAny_func ?_⟩;obtain⟨t,ht,hq⟩:=gf A outer s H vs Q E (hr.deeper _) Iz;have I:aP (zo CX P w K mg base N qual scope f bQ A outer s H E) [] (abc N vs) H s1:=BD S e0 hl r x;refine Zc (ht [] s1 (abc N vs) H _ I hq) (λfl s' hs=>?_) λe s' hs=>hs;have fin:∀{σ':St} {H':Hp} {v:V} {u:XY},aP (zo CX P w K mg base N qual scope f bQ A outer s H E) [] σ' H' s'->bX v u->Q v H'->CE outer P w H s Q u s' :=
  λ{σ' H' v u} J rv q=>⟨v,H',J.os,J.bare,J.base,J.hok,rv,q⟩
 cases fl with
 |ret u=>
  obtain⟨v,σ',H',J,rv,q⟩:=hs;exact fin J rv q
 |next=>
  obtain⟨σ',H',J,q⟩:=hs;exact fin (v:=V.non) (u:=Value.none) J rfl q
 |brk=>
  obtain⟨_,_,_,q⟩:=hs;lia
 |cont=>
  obtain⟨_,_,_,q⟩:=hs;lia
def Ke:V->List V->Hp->VK->Prop:=λx vs H Q=>∃a xs y,x=.ref a/\vs=[y]/\H a=some (.lst xs)/\kZ y=true/\xs.all kZ=true/\Q (.int (xs.countP λz=>EV z y:Nat)) H
def Kg:V->List V->Hp->VK->Prop:=λx vs H Q=>∃a xs y j,x=.ref a/\vs=[y]/\H a=some (.lst xs)/\kZ y=true/\xs.all kZ=true/\j<1000/\xs[j]?.map (λz=>EV z y)=some true/\
 (∀m,m<j->xs[m]?.map (λz=>EV z y)=some false)/\Q (.int (j:Nat)) H
theorem wj:∀{xs:List V} {aA:List XY} {y:V},bw xs aA->xs.all kZ=true->aA.countP (Nz y)=xs.countP λz=>EV z y
 |_,_,_,.nil,_=>rfl
 |x::xs,u::us,y,.cons r t,f=>by
  rw[Z6,YD] at f;rw[List.countP_cons,List.countP_cons,wj t f.2,Bg r f.1]
theorem wm:Jb X "list.count" Ke:=by
 intro pins s σ H x vs v us Q I rx rv h;obtain⟨a,xs,y,rfl,rfl,hs,fy,fx,q⟩:=h;cases rx;obtain⟨u,rfl,ru⟩:=rv.one;obtain⟨aA,n,r,ho,hz⟩:=I.lst hs;refine acM F.slot_list_count ⟨_,ho,rfl⟩ F.entry_list_count (F.args_list_count_2 _ _) (PySem.SeqAt.list_countAt a aA.toArray n none (List.toArray []) u (Nz y)) ⟨ho,λw' hw=>tm ru fy r fx w' (by simpa using hw),?_⟩;have e:aA.toArray.toList.countP (Nz y)=xs.countP λz=>EV z y:=by rw[List.toList_toArray];exact wj r fx
 rw[e];exact⟨.int _,H,I.tok _,⟨_,rfl⟩,q⟩
theorem wo:Jb X "list.index" Kg:=by
 intro pins s σ H x vs v us Q I rx rv h;obtain⟨a,xs,y,j,rfl,rfl,hs,fy,fx,jl,hj,T8,q⟩:=h;cases rx;obtain⟨u,rfl,ru⟩:=rv.one;obtain⟨aA,n,r,ho,hz⟩:=I.lst hs;have get:∀{m:Nat} {b:Bool},xs[m]?.map (λz=>EV z y)=some b->∃hm:m<aA.toArray.size,Nz y aA.toArray[m]=b:=λ{m b} e=>by
  cases hx:xs[m]? with
  |none=>rw[hx] at e;cases e
  |some z=>
   rw[hx] at e;obtain⟨w',e1,e2⟩:=r.get hx;obtain⟨hm,e3⟩:=X3.mp e1;refine⟨by simpa using hm,?_⟩;have fz:kZ z=true:=YT.mp fx z (YA hx);have:aA.toArray[m]=w':=by simpa using e3
   rw[this,Bg e2 fz];exact Yl e
 obtain⟨hm,hit⟩:=get hj;refine acM F.slot_list_index ⟨_,ho,rfl⟩ F.entry_list_index (F.args_list_index_2 _ _) (PySem.SeqAt.list_indexAt a aA.toArray n none (List.toArray []) u (Nz y) j hm (by lia) hit λm XI yt=>(get (T8 m yt)).2) ⟨ho,λw' hw=>tm ru fy r fx w' (by simpa using hw),?_⟩;exact⟨.int j,H,I.tok _,⟨_,rfl⟩,q⟩
noncomputable def Et (ea C:Ye):HO:=.ext (oM ea C)
theorem Kh {w:Y6}{ea:Ye}(x:oM ea C h):cD P w H h ea (Et ea C):=by
 obtain⟨ox,e,c⟩:=id x;exact⟨x,⟨ox,e⟩,λh1 h2 ⟨o,e1,c1⟩ k=>⟨o,k o e1,c1⟩⟩
section
variable {ea:Ye}
def N_ (ea C:Ye)(D:V)(b:Bool):List V->Hp->VK->Prop:=λxs H Q=>xs=[.ref ea,D]/\H ea=some (Et ea C)/\Q (.bl b) H
theorem t9 {D:V}{d:XY}(h:vy X.K C)(rd:∀u,bX D u->u=d)(e:Y1 X.K (.ref C) d=some b):eO X (.builtin "isinstance") (N_ ea C D b):=by
 intro pins s σ H xs us Q I r q;obtain⟨rfl,hx,q⟩:=q;obtain⟨u,w',rfl,rx,rt⟩:=vL r;cases rx;rw[rd _ rt];obtain⟨pP,_⟩:=(show cD X.prog X.w H s.heap ea (Et ea C) from I.hok ea _ hx);exact Zt (Gp h) I.kIn pP e (λz=>nomatch z) λtk=>⟨.bl b,H,I.tok tk,rfl,q⟩
end
end L2
end
section
set_option maxHeartbeats 400000
namespace L2
open PySem PySem.Spec PyProof.Rows PySem.W
theorem Gu {w:Y6}{o:HO}(x:cD P w H h a o):∃ob,h.get? a=some ob:=by
 cases o with
 |lst xs=>obtain⟨_,_,_,_,e⟩:=x;exact⟨_,e⟩
 |tup xs=>obtain⟨_,_,_,_,_,e⟩:=x;exact⟨_,e⟩
 |dK ir=>obtain⟨_,_,_,_,o,_,_,e,_⟩:=x;exact⟨_,e⟩
 |dT ir=>obtain⟨_,_,_,_,o,_,_,e,_⟩:=x;exact⟨_,e⟩
 |set S n=>obtain⟨o,_,_,_,e,_⟩:=x;exact⟨_,e⟩
 |ins C dx fs=>obtain⟨_,_,_,e,_⟩:=x;exact⟨_,e⟩
 |own y=>exact x
 |xd fs=>obtain⟨_,⟨_,_,_,e,_⟩,_⟩:=x;exact⟨_,e⟩
 |rng lo hi=>obtain⟨_,_,_,e⟩:=x;exact⟨_,e⟩
 |frz ob u=>obtain⟨e,_⟩:=x;exact⟨_,e⟩
 |tbl ps=>exact⟨_,(show h.get? a=some _ from x)⟩
 |met f y=>exact⟨_,(show h.get? a=some _ from x)⟩
 |ext φ=>obtain⟨_,e,_⟩:=x;exact e
section
variable {s1:Ya}{ea:Ye}
theorem aP.track {o:HO}(I0:aP X pins σ H s)(n0:s.heap.get? ea=none)(I:aP X pins σ H1 s1)(n1:H1 ea=none)(x:cD X.prog X.w (dF H1 ea o) s1.heap ea o):aP X pins σ (dF H1 ea o) s1:=by
 have ne:∀b ob,s.heap.get? b=some ob->b≠ea:=λb ob e z=>by rw[z,n0] at e;cases e
 have WC:∀b ob,X.s₀.heap.get? b=some ob->b∉X.ex->b≠ea:=λb ob e hx=>by
  obtain⟨o',e'⟩:=I0.base.there b ob e hx;exact ne b o' e'
 have RL:∀{b u},H1 b=some u->b≠ea:=λ{b u} e z=>by rw[z,n1] at e;cases e
 refine⟨I.ok,I.os,I.bare,⟨I.base.keep,I.base.slot,λb ob e n hx=>?_,I.base.there,λb xs e=>?_,λb ob u e=>?_,λb ps e=>?_⟩,I.loc,I.cell,?_,λy c e=>?_,λp hp=>?_,λb u e=>?_,I.len⟩
 ·rw[aS (WC b ob e hx)];exact I.base.free b ob e n hx
 ·have q:=I.base.tups b xs e;rw[aS (RL q)];exact q
 ·have q:=I.base.frzs b ob u e;rw[aS (RL q)];exact q
 ·obtain⟨m,q⟩:=I.base.tbls b ps e;exact⟨m,by rw[aS (RL q)];exact q⟩
 ·obtain⟨m,⟨oL,_,_,hL,_⟩,_⟩:=I0.loc;rw[aS (ne _ _ hL)];exact I.free
 ·obtain⟨v,oc,hc,_⟩:=I0.cell y c e;rw[aS (ne _ _ hc)];exact I.freeC y c e
 ·obtain⟨e,n,r⟩:=I.pin p hp;have e0:=(I0.pin p hp).1;exact⟨e,by rw[aS (ne _ _ e0)];exact n,r⟩
 ·by_cases hb:b=ea
  ·subst hb;rw[aQ] at e;cases e;exact x
  ·rw[aS hb] at e;exact (I.hok b u e).stay (λc v _ q=>q) (λc q=>by rw[aS (RL q)];exact q) λc xs q=>by rw[aS (RL q)];exact q
theorem sG {A:YG}{pos:Pos}{Q:Unit->Ya->Prop}(I:aP X pins σ H s)(hN:X.N.Nodup)(hi:X.N[i]? = some x)(hk:X.env.kindOf x=some .local)(h:∀s',aP X pins (σ.set i none) H s'->Q () s'):Yg M A (do bindName X.env x .none;unbindBehindTheSuite X.env x pos) Q E s:=by
 obtain⟨m,hn,hl⟩:=id I.loc;have OX:(X.env.scope.kind==.class||(X.env.scope.kind==.module&&X.env.locals != X.env.globals))=false:=by rw[I.ok.kind];rfl
 have Sh:i<σ.length:=by rw[I.len];exact (X3.mp hi).1
 obtain⟨oL,_,_,PL,_⟩:=id hn;refine wpAny_nameGoes_keeps hk hn OX λh' v MN hs=>h _ ?_;have Lf:∀b ob,X.s₀.heap.get? b=some ob->b≠X.env.locals:=λb ob e=>Ym (YE (X_ e) I.ok.above);refine⟨I.ok,I.os,I.bare,⟨λb ob e n hb hx=>(hs.2 b (Lf b ob e)).trans (I.base.keep b ob e n hb hx),λb ob e n hb hx=>?_,I.base.free,λb ob e hx=>?_,I.base.tups,I.base.frzs,I.base.tbls⟩,⟨_,MN,λj y w e1 e2 e3=>?_⟩,λy c e=>?_,I.free,I.freeC,λp hp=>?_,?_,by simpa using I.len⟩
 ·obtain⟨sl,q⟩:=I.base.slot b ob e n hb hx;exact⟨sl,(hs.2 b (Lf b ob e)).trans q⟩
 ·obtain⟨o',q⟩:=I.base.there b ob e hx;exact⟨o',(hs.2 b (Lf b ob e)).trans q⟩
 ·have hj:j≠i:=λz=>by
   subst z;rw[abe Sh] at e2;cases e2
  rw[YI (acN hj)] at e2;obtain⟨u,r,q⟩:=hl j y w e1 e2 e3;refine⟨u,r,?_⟩;rcases q with⟨k,e⟩|⟨k,c,e,z⟩
  ·have ny:y≠x:=λe=>hj (sS hN e1 (e▸hi));exact .inl ⟨k,by simp[ny,e]⟩
  ·exact .inr ⟨k,c,e,z.sameBut hs (I.cne y c e)⟩
 ·obtain⟨v',z⟩:=I.cell y c e;exact⟨v',z.sameBut hs (I.cne y c e)⟩
 ·obtain⟨e,n,ne,nf,d⟩:=I.pin p hp;exact⟨(hs.2 p.1 ne).trans e,n,ne,nf,d⟩
 ·exact I.hok.keptT λb u ob e q=>(hs.2 b λz=>by rw[z,I.free] at e;cases e).trans q
noncomputable abbrev Cx.hand (X:Cx)(e:XY):Cx:={X with A:=X.A.mark (some e),calm:=false,xe:=λ_ _=>False}
def aP.hand (I:aP X pins σ H s)(e:XY):aP (X.hand e) pins σ H s:=
 ⟨⟨I.ok.mod,I.ok.kind,I.ok.glob,I.ok.blt,I.ok.above,I.ok.inj,I.ok.has,I.ok.cab,λz=>absurd z XR,I.ok.frames,I.ok.stk,I.ok.exf,I.ok.bs,I.ok.bsz,I.ok.noex,I.ok.exfs,I.ok.funs,I.ok.frf⟩,I.os,I.bare,I.base,I.loc,I.cell,I.free,I.freeC,I.pin,I.hok,I.len⟩
def aP.unhand {e:XY}(I0:X.Ok)(I:aP (X.hand e) pins σ H s):aP X pins σ H s:=⟨I0,I.os,I.bare,I.base,I.loc,I.cell,I.free,I.freeC,I.pin,I.hok,I.len⟩
theorem zp {p pos:Pos}{a:aaj}{t:TA}{e:XY}(F:CI X.prog X.w X.K X.mg X.base vR k f fd ps sp)(hr:gW k (X.A.mark (some e)))(hm:X.mg x=some (.ref f))(hk:Zn X.K (.ref f)=true)(hb:j4 X.K fd ps [])(ha:PA (X.hand e) [a] t)(hg:Gl (X.hand e) x:=by rfl)(yr:(x==("__debug__":Str))=false:=by decide)(he:X7 [a] X.env=(false,abh a X.env)::X7 [] X.env:=by rfl)(jZ:(aan pos (X7 [] X.env)).any (·.1)=false:=by rfl) :
  PE (X.hand e) (.Call (.Name x p) [a] [] pos) (Fd sp [] E0 t):=by
 intro pins s σ H Q I h;refine aad (l6 I hg hm ?_ yr);refine ac9 (h₀:=X.base) I.ok.mod.kin hk (fj (ha pos pins s σ H _ I h) λus s1 ⟨vs,H1,I1,r,q⟩=>⟨I1.kIn,?_⟩) he jZ;have q:sp (vs++[]) H1 Q E0:=q;rw[Yu] at q;have hl:us.length=ps.length:=by rw[←r.length];exact F.len _ _ _ _ q
 have Ux:BindsTo s1 fd ⟨us,[]⟩ (ps.zip us):=by
  have z:=hb s1 us I1.kIn (by rw[Yu];exact hl);grind
 refine adA (aaL (F.run (X.A.mark (some e)) X.stack s1 H1 ⟨us,[]⟩ us vs Q E0 hr I1.env0 Ux r q) λr s' hq=>?_);cases r with
 |error e=>exact Zy hq
 |ok fl=>
  cases fl with
  |ret u=>exact I1.after hq
  |next=>exact Zy hq
  |brk=>exact Zy hq
  |cont=>exact Zy hq
end
noncomputable def Qz (D:oh)(i:Nat):oh:={nx:=λσ H=>D.nx (σ.set i none) H,rt:=D.rt,bk:=λσ H=>D.bk (σ.set i none) H,ct:=λσ H=>D.ct (σ.set i none) H}
def XE (C:Ye)(i:Nat)(th:TS)(D:oh)(σ:St):XK:=λ_ _ H2=>∀ea,H2 ea=none->th (Qz D i) (σ.set i (some (.ref ea))) (dF H2 ea (Et ea C))
def QA (C:Ye)(i:Nat)(sp:Sp)(ta:TA)(th:TS):TS:=λD σ H=>ta σ H λvs H1=>sp vs H1 (λ_ _=>False) (XE C i th D σ)
section
variable {cc:Ye}{g cn n:Str}{p cp rp np hpos pos:Pos}{a:aaj}{as:List aaj}{b0:ab7}{suite:List ab7}{ta:TA}{th:TS}
theorem CJ (F:j3 X.prog X.w X.K X.mg X.base (CH X.prog X.w C) k f fd ps sp)(hr:eV k X.A)(hm:X.mg g=some (.ref f))(PD:Zn X.K (.ref f)=true)(hb:j4 X.K fd ps [])(g_:X.stack=X.env::X.outer)(WD:X.env.frame=some X.env.locals)
  (hc:X.mg cn=some (.ref cc)) (DH:exmOne X.K (.ref C) (.ref cc)=some true) (hN:X.N.Nodup) (ha:PA X.nox (a::as) ta) (hs:∀ea,sU (X.hand (.ref ea)) (b0::suite) th)
  (hi:X.N[i]? = some n:=by rfl) (PF:X.env.kindOf n=some .local:=by rfl) (hg:Gl X g:=by rfl) (WE:Gl X cn:=by rfl) (yr:(g==("__debug__":Str))=false:=by decide) (WG:(cn==("__debug__":Str))=false:=by decide)
  (he:X7 (a::as) X.env=(false,abh a X.env)::X7 as X.env:=by rfl) (jZ:(aan cp (X7 as X.env)).any (·.1)=false:=by rfl) :
  PS X (.Try [.Return (some (.Call (.Name g p) (a::as) [] cp)) rp] [.ExceptHandler (some (.Name cn np)) (some n) (b0::suite) hpos] [] [] pos) (QA C i sp ta th):=by
 intro pins s σ H D I h;have WH:X.A.frames=some (X.env::X.outer):=by rw[←g_];exact I.ok.frames
 refine wpAny_Try_except ?_;refine wpAny_execs_cons (wpAny_Return_some ?_);refine aad (l6 (X:=X) I hg hm ?_ yr);refine ac9 (h₀:=X.base) I.ok.mod.kin PD (Zc (ha cp pins s σ H _ (I.wish _) h) (λus s1 ⟨vs,H1,J1,r,q⟩=>⟨J1.unwish.kIn,?_⟩) λ_ _ z=>z.elim) he jZ;have I1:=J1.unwish;have hl:us.length=ps.length:=by rw[←r.length];exact F.len _ _ _ _ q
 have Ux:BindsTo s1 fd ⟨us,[]⟩ (ps.zip us):=by
  have z:=hb s1 us I1.kIn (by rw[Yu];exact hl);rw[Yu] at z;exact z
 refine adA (aaL (F.run X.A X.stack s1 H1 ⟨us,[]⟩ us vs _ _ hr I1.env0 Ux r q) λr s' hq=>?_);cases r with
 |ok fl=>
  cases fl with
  |ret u=>
   obtain⟨v,H',_,_,_,_,_,z⟩:=hq;exact Zy z
  |next=>exact Zy hq
  |brk=>exact Zy hq
  |cont=>exact Zy hq
 |error e=>
  obtain⟨ea,t,L,B,rh,H2,rfl,os,bare,Fl,fl,up,nr,hE⟩:=hq;rw[g_] at fl;have n0:s1.heap.get? ea=none:=by
   cases z:s1.heap.get? ea with
   |none=>rfl
   |some ob=>
    obtain⟨o',z'⟩:=Fl.un.there ea ob z (by simp);rw[nr] at z';cases z'
  have n1:H2 ea=none:=by
   cases z:H2 ea with
   |none=>rfl
   |some ob=>
    obtain⟨o',z'⟩:=Gu (Fl.hok ea ob z);rw[nr] at z';cases z'
  obtain⟨hh,gg,dd,tt,oo⟩:=s';have os:oo=s1.os:=os;subst os;refine wpAny_looks_onW WH WD fl λh4 RM Vu=>?_;refine wpAny_landsW RM λh5 Uy Vv=>?_;have I5:=I1.fly (h:=h5) (g':=gg) (d':=dd) (t':=tt) Fl Uy.1 (up.trans (Vu.trans Vv)) bare;refine wpAny_handleBy_cons (codeAny_handlers_test ?_) (by intro q;cases q);refine l6 (X:=X.hand (.ref ea)) (I5.hand _) WE hc ?_ WG;obtain⟨ob,hob,hoc⟩:=Uy.there;have LT:Looks (Yw X.prog X.w) h5 (typeOf (.ref ea)) (.ref C):=hoc▸(Looks.ld hob).andThen .now;refine (exm_one (M:=Yw X.prog X.w) I5.kIn LT DH).at ?_;refine codeAny_handlers_suite_as ?_;refine lands_againW Uy λh6 Vw WI=>?_;have I6:=I1.fly (h:=h6) (g':=gg) (d':=dd) (t':=tt) Fl Vw.1 ((up.trans (Vu.trans Vv)).trans WI) bare;have I7:=aP.track I1 n0 I6 n1 (Kh (C:=C) Vw.there);refine sT (X:=X.hand (.ref ea)) (I7.hand (.ref ea)) hN hi (.inl PF) (show bX (.ref ea) (.ref ea) from rfl) (λs8 I8=>?_) (.inr PF);refine Zc (hs ea pins s8 _ _ _ I8 (hE ea n1)) (λfl s9 hq=>?_) λ_ _ z=>z.elim;cases fl with
  |next=>
   obtain⟨σ',H',J,z⟩:=hq;exact sG (aP.unhand I.ok J) hN hi PF λs' K=>⟨_,_,K,z⟩
  |brk=>
   obtain⟨σ',H',J,z⟩:=hq;exact sG (aP.unhand I.ok J) hN hi PF λs' K=>⟨_,_,K,z⟩
  |cont=>
   obtain⟨σ',H',J,z⟩:=hq;exact sG (aP.unhand I.ok J) hN hi PF λs' K=>⟨_,_,K,z⟩
  |ret u=>
   obtain⟨v,σ',H',J,rv,z⟩:=hq;exact sG (aP.unhand I.ok J) hN hi PF λs' K=>⟨v,_,_,K,rv,z⟩
theorem Ki {h0:ExceptHandler}{hs:List ExceptHandler}(hb:sU X.nox body tb):PS X (.Try body (h0::hs) [] [] pos) tb:=by
 intro pins s σ H D I h;refine wpAny_Try_except (Zc (hb pins s σ H D (I.wish _) h) (λfl s1 q=>?_) λ_ _ z=>z.elim);cases fl with
 |next=>exact abV q.unwish
 |brk=>exact q.unwish
 |cont=>exact q.unwish
 |ret u=>exact q.unwish
end
end L2
end
section
set_option maxHeartbeats 400000
namespace L2
open PySem PySem.Spec PyProof.Rows PySem.W
theorem Gv {K:Frag}{b:XY}{r:Bool}(h:mroIn K C b=some r):(clsIn K C).isSome=true:=by
 unfold mroIn at h;cases e:clsIn K C with
 |none=>rw[e] at h;cases h
 |some cd=>rfl
structure vz (K:Frag)(mg:Str->Option XY)(C:Ye)(x:Str)(ms:List (Str×Bool)):Prop where
 cls:mg x=some (.ref C)
 exc:excIn K C zm "ValueError.__new__"=true
 ec:vy K C
 card:∃c,mg "CardError"=some (.ref c)/\exmOne K (.ref C) (.ref c)=some true
 ve:kitOne K (.ref C) (.type "ValueError")=some true
 zve:mg "ValueError"=none
 marks:∀p∈ms,∃c,mg p.1=some (.ref c)/\kitOne K (.ref C) (.ref c)=some p.2
def Tr (K:Frag)(n:Nat)(C:Ye)(p:List U->Prop):Sp:=λvs H _ E=>∃us A,aU K H A us vs/\(∀a,A a->Mu (H a))/\us.length=n/\p us/\∀H',aX H H'->E (.ref C) none H'
def Gw (C:Ye)(Uz:Str):Sp:=λvs H Q _=>∃ea,vs=[.ref ea]/\H ea=some (Et ea C)/\∀H',aX H H'->Q (.str Uz) H'
theorem Eu {K:Frag}{A0:Ye->Prop}(r:aU K H A0 us vs)(mu:∀a,A0 a->Mu (H a))(DJ:G.io=false)(lT:∀i,i<us.length->G.is i=false):dQ K G ⟨A0,H,0⟩ A0 (bx N.length us) (abc N vs) H where
 slot:=λi u hu=>by
  have hu:=kr hu;obtain⟨v,h1,h2⟩:=r.get hu;refine⟨v,j_ h1,?_⟩;rw[hV (by rw[lT i (X3.mp hu).1];exact XR)];exact h2
 dis:=λi j u w a ci cj ne hi hj si sj=>by
  rw[lT i (X3.mp (kr hi)).1] at ci;cases ci
 mu:=mu
 sup:=λa h=>h
 out:=λa h=>.inl h
 bas:=λa o h=>h
 io0:=λh=>by rw[DJ] at h;cases h
 len:=xi r.length
def aX.updN {o:HO}(h:aX H H')(n:H' a=none):aX H (dF H' a o):=λb ob e=>by
 have q:=h b ob e;rw[aS (bG q n)];exact q
section
variable {ea:Ye}{y:Str}{pos p1 p3:Pos}
def Gx (i:Nat)(C:Ye)(b:Bool):TE:=λσ H Q=>∃ea,σ[i]? = some (some (.ref ea))/\H ea=some (Et ea C)/\Q (.bl b) H
theorem dB (h:vy X.K C)(zi:X.mg "isinstance"=none)(hc:∃c,X.mg y=some (.ref c)/\kitOne X.K (.ref C) (.ref c)=some b)(hN:X.N[i]? = some x:=by rfl)(hv:DR X.env.scope x:=by first|exact Or.inl rfl|exact Or.inr (Or.inl rfl)|exact Or.inr (Or.inr rfl))(hg:Gl X "isinstance":=by rfl)(hy:Gl X y:=by rfl)
  (hd:(x==("__debug__":Str))=false:=by decide) (kI:(x==("__classdict__":Str))=false:=by decide) (EZ:(y==("__debug__":Str))=false:=by decide)
  (hs:X7 [.Name x p2,.Name y p3] X.env=(false,abh (.Name x p2) X.env)::X7 [.Name y p3] X.env:=by rfl) (cL:X7 [.Name y p3] X.env=(false,abh (.Name y p3) X.env)::X7 [] X.env:=by rfl)
  (jZ:(aan pos (X7 [.Name y p3] X.env)).any (·.1)=false:=by rfl):PE X (.Call (.Name "isinstance" p1) [.Name x p2,.Name y p3] [] pos) (Gx i C b):=by
 obtain⟨c,hm,hk⟩:=hc;intro pins s σ H Q I hq;obtain⟨ea,e1,e2,q⟩:=hq;exact j5 (t9 (ea:=ea) (D:=.ref c) h (λu hu=>hu) hk) hg zi gP (aG (i5 hN hv hd kI) (aG (Cb (v:=.ref c) hy hm rfl EZ) cM cL) hs) (by decide) (by decide) hs jZ pins s σ H Q I ⟨_,e1,rfl,e2,q⟩
theorem zu (h:vy X.K C)(zi:X.mg "isinstance"=none)(zv:X.mg "ValueError"=none)(hk:kitOne X.K (.ref C) (.type "ValueError")=some b)(hN:X.N[i]? = some x:=by rfl)(hv:DR X.env.scope x:=by first|exact Or.inl rfl|exact Or.inr (Or.inl rfl)|exact Or.inr (Or.inr rfl))(hg:Gl X "isinstance":=by rfl)(hy:Gl X "ValueError":=by rfl)
  (hd:(x==("__debug__":Str))=false:=by decide) (kI:(x==("__classdict__":Str))=false:=by decide)
  (hs:X7 [.Name x p2,.Name "ValueError" p3] X.env=(false,abh (.Name x p2) X.env)::X7 [.Name "ValueError" p3] X.env:=by rfl) (cL:X7 [.Name "ValueError" p3] X.env=(false,abh (.Name "ValueError" p3) X.env)::X7 [] X.env:=by rfl)
  (jZ:(aan pos (X7 [.Name "ValueError" p3] X.env)).any (·.1)=false:=by rfl):PE X (.Call (.Name "isinstance" p1) [.Name x p2,.Name "ValueError" p3] [] pos) (Gx i C b):=by
 intro pins s σ H Q I hq;obtain⟨ea,e1,e2,q⟩:=hq;have bt:YQ "ValueError"=some (.type "ValueError"):=by decide+kernel
 exact j5 (t9 (ea:=ea) (D:=.ty "ValueError") h (λu hu=>hu) hk) hg zi gP (aG (i5 hN hv hd kI) (aG (su (v:=.ty "ValueError") hy zv bt rfl (by decide) (by decide)) cM cL) hs) (by decide) (by decide) hs jZ pins s σ H Q I ⟨_,e1,rfl,e2,q⟩
end
def Kj {m:Md}{h0:ExceptHandler}{hs:List ExceptHandler}{pos:Pos}{g:Ev->SR}(h:Bp X.nox G m body g):DS X G m (.Try body (h0::hs) [] [] pos) g:=⟨Ki h.un⟩
end L2
end
namespace L2
def nr {α:Sort _}{a b:α}(h:a=b):a=b:=h
noncomputable def look (o:Option (Option U))(ρ:Ev):R (U×Ev):=match o with
 |some (some u)=>.ok (u,ρ)
 |_=>.stk
noncomputable def UW (u:U)(ρ:Ev):R (Bool×Ev):=match u with
 | .bl c=>.ok (c,ρ)
 |_=>.stk
noncomputable def R_ (o:Option U):R U:=match o with
 |some u=>.ok u
 |none=>.stk
noncomputable def SR.seq (r:SR)(g:Ev->SR):SR:=match r with
 | .nx ρ=>g ρ
 |r=>r
noncomputable def SR.turn (r:SR)(g:Ev->SR):SR:=match r with
 | .nx ρ=>g ρ
 | .ct ρ=>g ρ
 | .bk ρ=>.nx ρ
 |r=>r
noncomputable def QB (m:Md)(r:SR):R U:=match r with
 | .rt u _=>.ok u
 | .nx _=>if m=.S then .ok .non else .stk
 | .exc c u=>.exc c u
 |_=>.stk
noncomputable def io0 (u:U)(o:Option (Option U)):R (U×U):=match o with
 |some (some w)=>.ok (u,w)
 |_=>.stk
noncomputable def Oa (r:SR):R (U×U):=match r with
 | .rt u ρ=>io0 u ρ[0]?
 | .nx ρ=>io0 .non ρ[0]?
 | .exc c u=>.exc c u
 |_=>.stk
section
variable {w:U}{α β:Type}{g g1 g2 g3:Ev->R (U×Ev)}{h h1 h2:Ev->R (Bool×Ev)}{s s1 s2:Ev->SR}{ga:Ev->R (List U×Ev)}{m:Md}
def LD:af i ρ=look ρ[i]? ρ:=nr rfl
def Gy:look (some (some u)) ρ=.ok (u,ρ):=nr rfl
def UX:gC u ρ=.ok (u,ρ):=nr rfl
def oN {a:α}{f:α->R β}:(R.ok a).bind f=f a:=nr rfl
def LF {f:α->R β}:(R.stk:R α).bind f=.stk:=nr rfl
def Gz {a:α}{f:α->SR}:SR.of (R.ok a) f=f a:=nr rfl
def QC {p:U->U->R U}:aI p g1 g2 ρ=(g1 ρ).bind λx=>(g2 x.2).bind λy=>(p x.1 y.1).bind λz=>.ok (z,y.2):=nr rfl
def UY:gB g ρ=(g ρ).bind λx=>UW x.1 x.2:=nr rfl
def LG {c:Bool}:UW (.bl c) ρ=.ok (c,ρ):=nr rfl
def GA:JN h1 h2 ρ=(h1 ρ).bind λx=>if x.1=true then h2 x.2 else .ok (false,x.2):=nr rfl
def LH:JO h1 h2 ρ=(h1 ρ).bind λx=>if x.1=true then .ok (true,x.2) else h2 x.2:=nr rfl
def GB:vv h ρ=(h ρ).bind λx=>.ok (!x.1,x.2):=nr rfl
def LJ:NJ g1 g2 ρ=(gB g1 ρ).bind λx=>if x.1=true then g2 x.2 else .ok (.bl false,x.2):=nr rfl
def QD:Tb g1 g2 ρ=(gB g1 ρ).bind λx=>if x.1=true then .ok (.bl true,x.2) else g2 x.2:=nr rfl
def LK:Tc g ρ=(gB g ρ).bind λx=>.ok (.bl (!x.1),x.2):=nr rfl
def QE:NL h g1 g2 ρ=(h ρ).bind λx=>if x.1=true then g1 x.2 else g2 x.2:=nr rfl
noncomputable def UZ (p':U->U->R U)(g3:Ev->R (U×Ev))(y:U×Ev)(z:U):R (U×Ev):=match z with
 | .bl k=>if k=true then (g3 y.2).bind λw=>(p' y.1 w.1).bind λz'=>.ok (z',w.2) else .ok (.bl false,y.2)
 |_=>.stk
def CK {p p':U->U->R U}:NM p p' g1 g2 g3 ρ=(g1 ρ).bind λx=>(g2 x.2).bind λy=>(p x.1 y.1).bind λz=>UZ p' g3 y z:=nr rfl
def LL {p':U->U->R U}{y:U×Ev}{k:Bool}:UZ p' g3 y (.bl k)=if k=true then (g3 y.2).bind λw=>(p' y.1 w.1).bind λz'=>.ok (z',w.2) else .ok (.bl false,y.2):=nr rfl
def QF {p:U->R U}:VR p g ρ=(g ρ).bind λx=>(p x.1).bind λz=>.ok (z,x.2):=nr rfl
def GC:ak ρ=.ok ([],ρ):=nr rfl
def CL:ae g ga ρ=(g ρ).bind λx=>(ga x.2).bind λy=>.ok (x.1::y.1,y.2):=nr rfl
def GD:bu ga ρ=(ga ρ).bind λx=>if x.1.length<=XU then .ok (.tup x.1,x.2) else .stk:=nr rfl
def GF:eW ga ρ=(ga ρ).bind λx=>if x.1.length<=XU then .ok (.lst x.1,x.2) else .stk:=nr rfl
def QG {p:List U->R U}:fg p ga ρ=(ga ρ).bind λx=>(p x.1).bind λz=>.ok (z,x.2):=nr rfl
def QH {f:List U->R U}:fR n f ga ρ=(ga ρ).bind λx=>(yE n f x.1).bind λz=>.ok (z,x.2):=nr rfl
def LM {f:List U->R α}(h:us.length=n):yE n f us=f us:=hZ h
noncomputable def U0 (n:Nat)(f:List U->R (U×U))(us:List U)(i:Nat)(ρ:Ev)(o:Option (Option U)):R (U×Ev):=match o with
 |some (some u0)=>(yE n f (u0::us)).bind λz=>.ok (z.1,ρ.set i (some z.2))
 |_=>.stk
def LN {f:List U->R (U×U)}:U0 n f us i ρ (some (some u))=(yE n f (u::us)).bind λz=>.ok (z.1,ρ.set i (some z.2)):=nr rfl
noncomputable def CM (o:Option (Option U)):Bool:=match o with
 |some (some _)=>true
 |_=>false
def CN:CM (some (some u))=true:=nr rfl
def QI {f:List U->R (U×U)}:dw n i f ga ρ=if CM ρ[i]? = true then (ga ρ).bind λx=>U0 n f x.1 i x.2 x.2[i]? else .stk:=nr rfl
noncomputable def Tt (i:Nat)(p:U->List U->R (U×U))(us:List U)(ρ:Ev)(o:Option (Option U)):R (U×Ev):=match o with
 |some (some u0)=>(p u0 us).bind λz=>.ok (z.1,ρ.set i (some z.2))
 |_=>.stk
def LO {p:U->List U->R (U×U)}:Tt i p us ρ (some (some u))=(p u us).bind λz=>.ok (z.1,ρ.set i (some z.2)):=nr rfl
noncomputable def U1 (T:String)(i:Nat)(p:U->List U->R (U×U))(ga:Ev->R (List U×Ev))(ρ:Ev)(o:Option (Option U)):R (U×Ev):=match o with
 |some (some u1)=>if Ea u1 T=true then (ga ρ).bind λx=>Tt i p x.1 x.2 x.2[i]? else .stk
 |_=>.stk
def LP {T:String}{p:U->List U->R (U×U)}:U1 T i p ga ρ (some (some u))=if Ea u T=true then (ga ρ).bind λx=>Tt i p x.1 x.2 x.2[i]? else .stk:=nr rfl
def U2 {T:String}{p:U->List U->R (U×U)}:gM T i p ga ρ=U1 T i p ga ρ ρ[i]? := nr rfl
def GG:Ea (.lst us) "list"=true:=nr rfl
def CO:d5 ρ=.ok (none,ρ):=nr rfl
noncomputable def U3 (u:U)(ρ:Ev):R (Option Int×Ev):=match u with
 | .int i=>.ok (some i,ρ)
 |_=>.stk
def LQ {k:Int}:U3 (.int k) ρ=.ok (some k,ρ):=nr rfl
def CP:dJ g ρ=(g ρ).bind λx=>U3 x.1 x.2:=nr rfl
def QJ {p:U->Option Int->Option Int->R U}{lo hi:Ev->R (Option Int×Ev)}:qD p g lo hi ρ=(g ρ).bind λx=>(lo x.2).bind λl=>(hi l.2).bind λh=>(p x.1 l.1 h.1).bind λz=>.ok (z,h.2):=nr rfl
noncomputable def jW (T:String)(u:U)(ρ:Ev):R (U×Ev):=if Ee u="script" then .stk else .ok (.bl (fw (Ee u) T),ρ)
def GH {T:String}:qE T g ρ=(g ρ).bind λx=>jW T x.1 x.2:=nr rfl
def GI:aR ρ=.nx ρ:=nr rfl
def CQ:NP ρ=.bk ρ:=nr rfl
def GJ:Qu ρ=.ct ρ:=nr rfl
def GK:aE s1 s2 ρ=(s1 ρ).seq s2:=nr rfl
def GL:(SR.nx ρ).seq s=s ρ:=nr rfl
def GN:(SR.rt u ρ).seq s=.rt u ρ:=nr rfl
def GO:(SR.bk ρ).seq s=.bk ρ:=nr rfl
def GP:(SR.ct ρ).seq s=.ct ρ:=nr rfl
def GQ:iD g ρ=SR.of (g ρ) λx=>.nx x.2:=nr rfl
def LS:bg g ρ=SR.of (g ρ) λx=>.rt x.1 x.2:=nr rfl
def LU:a9 i g ρ=SR.of (g ρ) λx=>.nx (x.2.set i (some x.1)):=nr rfl
def LV {sg:U->Ev->R Ev}:NQ sg g ρ=SR.of (g ρ) λx=>SR.of (sg x.1 x.2) .nx:=nr rfl
def LW:dR h s1 s2 ρ=SR.of (h ρ) λx=>if x.1=true then s1 x.2 else s2 x.2:=nr rfl
noncomputable def U4 (i j:Nat)(ρ:Ev)(o:Option (Option U)):SR:=match o with
 |some (some u)=>.nx ((ρ.set j none).set i (some u))
 |_=>.stk
def GR:yV i j ρ=U4 i j ρ ρ[j]? := nr rfl
def LX:U4 i j ρ (some (some u))=.nx ((ρ.set j none).set i (some u)):=nr rfl
noncomputable def QK (i j:Nat)(us:List U)(ρ:Ev):SR:=match us with
 | [u,w]=>.nx ((ρ.set i (some u)).set j (some w))
 |_=>.stk
def LY:Tg i j ga ρ=SR.of (ga ρ) λx=>QK i j x.1 x.2:=nr rfl
def GU:QK i j [u,w] ρ=.nx ((ρ.set i (some u)).set j (some w)):=nr rfl
noncomputable def Sa (i:Nat)(v k:U)(ρ:Ev)(o:Option (Option U)):SR:=match k with
 | .int k=>match o with
  |some (some (.lst us))=>match Be us.length k with
   |some j=>.nx (ρ.set i (some (.lst (us.set j v))))
   |none=>.stk
  |_=>.stk
 |_=>.stk
def GV:y3 i g1 g2 ρ=SR.of (g1 ρ) λx=>if CM x.2[i]? = true then SR.of (g2 x.2) λy=>Sa i x.1 y.1 y.2 y.2[i]? else .stk:=nr rfl
def LZ {k:Int}(h:Be us.length k=some j):Sa i w (.int k) ρ (some (some (.lst us)))=.nx (ρ.set i (some (.lst (us.set j w)))):=by
 unfold Sa;dsimp only;rw[h]
noncomputable def QL (i:Nat)(p:U->U->R U)(g:Ev->R (U×Ev))(ρ:Ev)(o:Option (Option U)):SR:=match o with
 |some (some u)=>SR.of (g ρ) λy=>SR.of (p u y.1) λz=>.nx (y.2.set i (some z))
 |_=>.stk
def L3 {p:U->U->R U}:Ti i p g ρ=QL i p g ρ ρ[i]? := nr rfl
def GW {p:U->U->R U}:QL i p g ρ (some (some u))=SR.of (g ρ) λy=>SR.of (p u y.1) λz=>.nx (y.2.set i (some z)):=nr rfl
def L4 {gi:Ev->R (List U×Ev)}{sg:U->Ev->R Ev}:nv gi sg s ρ=SR.of (gi ρ) λx=>jH sg s x.1 x.2:=nr rfl
def CS {sg:U->Ev->R Ev}:jH sg s [] ρ=.nx ρ:=nr rfl
def t_:jH sg s (u::us) ρ=SR.of (sg u ρ) λρ1=>(s ρ1).turn (jH sg s us):=nr rfl
def CT:(SR.nx ρ).turn s=s ρ:=nr rfl
def CU:(SR.ct ρ).turn s=s ρ:=nr rfl
def CV:(SR.bk ρ).turn s=.nx ρ:=nr rfl
def CW:(SR.rt u ρ).turn s=.rt u ρ:=nr rfl
def xq:gD h s (n+1) ρ=SR.of (h ρ) λx=>if x.1=true then (s x.2).turn (gD h s n) else .nx x.2:=nr rfl
noncomputable def Kk (u:U)(ρ:Ev):R (List U×Ev):=match u with
 | .lst us=>.ok (us,ρ)
 | .tup us=>.ok (us,ρ)
 | .scr us=>.ok (us,ρ)
 |_=>.stk
def GX:d6 g ρ=(g ρ).bind λx=>Kk x.1 x.2:=nr rfl
def GY:Kk (.lst us) ρ=.ok (us,ρ):=nr rfl
def GZ:Kk (.tup us) ρ=.ok (us,ρ):=nr rfl
def G0:Kk (.scr us) ρ=.ok (us,ρ):=nr rfl
noncomputable def Ob (us:List U)(ρ:Ev):R (List U×Ev):=match us with
 | [.int j]=>if -1000000<=j/\j<=1000000 then .ok (aO 0 j.toNat,ρ) else .stk
 |_=>.stk
def G1:fA ga ρ=(ga ρ).bind λx=>Ob x.1 x.2:=nr rfl
def Oc {k:Int}:Ob [.int k] ρ=if -1000000<=k/\k<=1000000 then .ok (aO 0 k.toNat,ρ) else .stk:=nr rfl
noncomputable def G2 (us:List U)(ρ:Ev):R (U×Ev):=match us with
 | [.int j]=>if zd 0 j=true then .ok (.lst (aO 0 (j-0).toNat),ρ) else .stk
 |_=>.stk
noncomputable def G3 (us:List U)(ρ:Ev):R (U×Ev):=match us with
 | [.int j]=>if zd 0 j=true then .ok (.tup (aO 0 (j-0).toNat),ρ) else .stk
 |_=>.stk
def G4:F0 ga ρ=(ga ρ).bind λx=>G2 x.1 x.2:=nr rfl
def G5:F5 ga ρ=(ga ρ).bind λx=>G3 x.1 x.2:=nr rfl
theorem L5 {k:Int}(h0:0<=k)(h1:k<=1000000):zd 0 k=true:=by
 unfold zd;simp only[YD,decide_eq_true_eq];lia
theorem Kl (n:Nat)(h:n<=1000000):G2 [.int n] ρ=.ok (.lst (aO 0 n),ρ):=by
 unfold G2;dsimp only;rw[hZ (L5 (by lia) (by lia)),show ((n:Int)-0).toNat=n by lia]
theorem oO (n:Nat)(h:n<=1000000):G3 [.int n] ρ=.ok (.tup (aO 0 n),ρ):=by
 unfold G3;dsimp only;rw[hZ (L5 (by lia) (by lia)),show ((n:Int)-0).toNat=n by lia]
theorem iw (n:Nat)(h:n<=1000000):Ob [.int n] ρ=.ok (aO 0 n,ρ):=by
 rw[Oc,hZ (by lia)];rfl
def L6 {gi:Ev->R (List U×Ev)}{js:List (Option Nat)}{sg:U->Ev->R Ev}:eh gi js sg h g ρ=(gi ρ).bind λx=>(lq (og js sg h g x.2) x.1).bind λys=>.ok (.lst ys,x.2):=nr rfl
def L7 {G:Gm}{gi:Ev->R (List U×Ev)}{js:List (Option Nat)}{sg:U->Ev->R Ev}:rP G gi js sg h g ρ=(gi ρ).bind λx=>(mK G js sg h g x.1 x.2).bind λy=>.ok (.lst y.1,y.2):=nr rfl
def zw {js:List (Option Nat)}{sg:U->Ev->R Ev}:og js sg h g ρ u=(sg u (iJ js ρ)).bind λρi=>(h ρi).bind λc=>if c.1=true then (g ρi).bind λy=>.ok (some y.1) else .ok none:=nr rfl
def G6 {G:Gm}{js:List (Option Nat)}{sg:U->Ev->R Ev}:mK G js sg h g [] ρ=.ok ([],ρ):=nr rfl
def BE:mK G js sg h g (u::us) ρ=(sg u (iJ js ρ)).bind λρi=>(h ρi).bind λc=>if c.1=true then (g c.2).bind λy=>(mK G js sg h g us (wb G js y.2 ρ)).bind λr=>.ok (y.1::r.1,r.2) else mK G js sg h g us (wb G js c.2 ρ):=nr rfl
def zx:bY ρ=.ok (true,ρ):=nr rfl
def L8:cA i u ρ=.ok (ρ.set i (some u)):=nr rfl
def QM:VY ρ=.ok (.dct [] [],ρ):=nr rfl
def G7:dq m n s us=QB m (s (bx n us)):=nr rfl
def CY:QB m (.rt u ρ)=.ok u:=nr rfl
def G8:iu n s us=Oa (s (bx n us)):=nr rfl
def CZ:Oa (.rt u ρ)=io0 u ρ[0]? := nr rfl
def L9:io0 u (some (some w))=.ok (u,w):=nr rfl
def zy {ρ:Ev}:iJ [] ρ=[]:=nr rfl
def wq {js:List (Option Nat)}:iJ (none::js) ρ=none::iJ js ρ:=nr rfl
theorem wt {js:List (Option Nat)}:iJ (some j::js) ρ=(ρ[j]?).getD none::iJ js ρ:=by
 unfold iJ;rw[X5];congr 1;dsimp only;cases ρ[j]? <;> rfl
end
section
variable {i j k:Int}{w:U}
def G9:di (.int i) (.int j)=.ok (.int (i+j)):=nr rfl
def G_:di (.tup us) (.tup ws)=if us.length+ws.length<=XU then .ok (.tup (us++ws)) else .stk:=nr rfl
def Ha:di (.lst us) (.lst ws)=if us.length+ws.length<=XU then .ok (.lst (us++ws)) else .stk:=nr rfl
def L_:tW (.int i) (.int j)=.ok (.int (i-j)):=nr rfl
def Ma:mT (.int i) (.int j)=if oF i j=true then .ok (.int (i*j)) else .stk:=nr rfl
def Hb:y4 (.int i) (.int j)=if Bs i j=true then .ok (.int (i / j)) else .stk:=nr rfl
def Mb:y6 (.int i) (.int j)=if decide (0<j)=true then .ok (.int (i % j)) else .stk:=nr rfl
def Mc:JY (.int i) (.int j)=if JX i j=true then .ok (.int (i ^ j.toNat)) else .stk:=nr rfl
def Me:Tj (.int i)=.ok (.int (-i)):=nr rfl
def QN:JZ (.int i) (.int j)=.ok (.bl (decide (i<j))):=nr rfl
def QO:VU (.int i) (.int j)=.ok (.bl (decide (i<=j))):=nr rfl
def rR:Je (.int i) (.int j)=.ok (.bl (decide (j<i))):=nr rfl
def QP:Tn (.int i) (.int j)=.ok (.bl (decide (j<=i))):=nr rfl
theorem Mf:cz (.lst us) (.int i)=R_ (mS us i):=by show (match mS us i with|some z=>R.ok z|none=>.stk)=_;cases mS us i<;>rfl
theorem Mg:cz (.tup us) (.int i)=R_ (mS us i):=by show (match mS us i with|some z=>R.ok z|none=>.stk)=_;cases mS us i<;>rfl
def Mh:cz (.scr us) (.int i)=R_ (mS us i):=by rfl
def Mi:R_ (some u)=.ok u:=nr rfl
def Mj:oG (.lst us) lo hi=.ok (.lst (ku us lo hi)):=nr rfl
def Ml:oG (.tup us) lo hi=.ok (.tup (ku us lo hi)):=nr rfl
def Mm:oG (.scr us) lo hi=.ok (.lst (ku us lo hi)):=nr rfl
def Hd:gw [.lst us]=.ok (.int us.length):=nr rfl
def He:gw [.tup us]=.ok (.int us.length):=nr rfl
def Hg:gw [.scr us]=.ok (.int us.length):=nr rfl
def Hh:d9 [.lst us]=.ok (.tup us):=nr rfl
def Hi:d9 [.tup us]=.ok (.tup us):=nr rfl
def Hj:y8 [.lst us]=.ok (.lst us):=nr rfl
def Hk:y8 [.tup us]=.ok (.lst us):=nr rfl
def Mn {a b:Bool}{f:Bool->Bool}:To f (.bl a) (.bl b)=.ok (.bl (f (decide (a=b)))):=nr rfl
def Mo {f:Bool->Bool}:FW f u .non=.ok (.bl (f (kM u))):=nr rfl
def Hl:vZ [.int i,.int j]=.ok (.int (if j<i then j else i)):=nr rfl
def Hm:y9 [.int i,.int j]=.ok (.int (if j>i then j else i)):=nr rfl
def QQ {f:Bool->Bool}:Po f u w=(y7 u w).bind λb=>.ok (.bl (f b)):=nr rfl
theorem uc (n:Nat):mS us (n:Int)=us[n]? := by
 unfold mS Be;by_cases h:n<us.length
 ·rw[hZ (by lia),hZ (by lia)];rfl
 ·rw[hZ (by lia),hV (by lia)];rw[ZD.mpr (by lia)];rfl
def Mp:mS us 0=us[0]? := uc 0
def Mq:mS us 1=us[1]? := uc 1
def Mr:mS us 2=us[2]? := uc 2
theorem QR (h:0<us.length):Be us.length 0=some 0:=by simp_all[Be,hZ]
def xr (h0:0<j)(h1:j<18446744073709551616):Bs i j=true:=by unfold Bs;simp[h0,h1]
theorem qe (h0:0<=i)(h1:i<18446744073709551616):oF i j=true:=by
 unfold oF;simp only[Bool.or_eq_true,YD,decide_eq_true_eq];exact .inl ⟨(by lia),(by lia)⟩
theorem Od (h0:0<=j)(h1:j<18446744073709551616):oF i j=true:=by
 unfold oF;lia
end
end L2
namespace L2
theorem C0 {i:Nat}{w u:U}{us:List U}{ρ:Ev}:Sa i w (.int 0) ρ (some (some (.lst (u::us))))=.nx (ρ.set i (some (.lst (w::us)))):=by
 rw[LZ (j:=0) (QR (by rw[X1];lia))];rfl
def C1 {ρ:Ev}:Oa (.nx ρ)=io0 .non ρ[0]? := rfl
theorem ke {G:Gm}{js:List (Option Nat)}{sg:U->Ev->R Ev}{ge:Ev->R (U×Ev)}{σ:Type}(ev:σ->Ev)(N:Nat)(I:List U->σ->Prop)
  (step:∀done u s,done.length<N->I done s->∃ρi y ρi' s',sg u (iJ js (ev s))=.ok ρi/\ge ρi=.ok (y,ρi')/\wb G js ρi' (ev s)=ev s'/\I (done++[y]) s') :
  ∀(us done:List U) (s:σ),done.length+us.length<=N->I done s->∃ys s',mK G js sg bY ge us (ev s)=.ok (ys,ev s')/\ys.length=us.length/\I (done++ys) s'
 | [],done,s,_,h=>⟨[],s,rfl,rfl,by rw[Yu];exact h⟩
 |u::us,done,s,hl,h=>by
  rw[X1] at hl;obtain⟨ρi,y,ρi',s',e1,e2,e3,h'⟩:=step done u s (by lia) h;obtain⟨ys,DB,e4,e5,h''⟩:=ke ev N I step us (done++[y]) s' (by rw[XW,ZP];lia) h';refine⟨y::ys,DB,?_,by rw[X1,X1,e5],by rw[Yi] at h'';exact h''⟩;rw[BE,e1,oN,zx,oN,hZ rfl,e2,oN,e3,e4,oN]
theorem gF {s:Ev->SR}(I:Nat->Ev->Prop)(step:∀(i:Nat) (u:U) (ρ:Ev),us[i]? = some u->I i ρ->∃ρ1 ρ2,sg u ρ=.ok ρ1/\(s ρ1=.nx ρ2\/s ρ1=.ct ρ2)/\I (i+1) ρ2)(h:I 0 ρ) :
  ∃ρ',jH sg s us ρ=.nx ρ'/\I us.length ρ':=by
 have gen:∀(n i:Nat) (ρ:Ev),i+n=us.length->I i ρ->∃ρ',jH sg s (us.drop i) ρ=.nx ρ'/\I us.length ρ':=by
  intro n
  induction n with
  |zero=>
   intro i ρ hi h;have:i=us.length:=(by lia)
   subst this;rw[abD];exact⟨ρ,rfl,h⟩
  |succ n ih=>
   intro i ρ hi h;have yt:i<us.length:=(by lia)
   obtain⟨ρ1,ρ2,e1,e2,h2⟩:=step i us[i] ρ (XN yt) h;obtain⟨ρ',e3,h3⟩:=ih (i+1) ρ2 (by lia) h2;refine⟨ρ',?_,h3⟩;rw[ZC yt,t_,e1,Gz];rcases e2 with e2|e2<;>(rw[e2];exact e3)
 have:=gen us.length 0 ρ (by lia) h
 rwa [acs] at this
theorem qf (ns:List Int):eT (ns.map .int)=some (ns.map .int):=by
 induction ns with
 |nil=>unfold eT;rfl
 |cons n ns ih=>rw[X5];unfold eT;rw[ih];unfold toD;rfl
theorem nF (ns:List Int):j7 (ns.map .int)=0:=by
 induction ns with
 |nil=>rfl
 |cons n ns ih=>rw[X5];unfold j7;rw[ih];unfold cF;rfl
theorem mn:∀(ns ms:List Int),kQ (ns.map .int) (ms.map .int)=decide (ns=ms)
 | [],[]=>by unfold kQ;simp
 | [],m::ms=>by simp[kQ]
 |n::ns,[]=>by simp[kQ]
 |n::ns,m::ms=>by
  rw[X5,X5];unfold kQ iG;rw[mn ns ms,Z_];simp
theorem Sb (ns ms:List Int):y7 (.lst (ns.map .int)) (.lst (ms.map .int))=.ok (decide (ns=ms)):=by
 unfold y7;have e1:∀ns:List Int,toD (.lst (ns.map .int))=some (.lst (ns.map .int)):=λns=>by unfold toD;rw[qf];rfl
 rw[e1,e1];dsimp only;rw[hZ (by unfold cF;rw[nF];lia)];unfold iG;rw[mn]
theorem Hn (ns ms:List Int):y7 (.tup (ns.map .int)) (.tup (ms.map .int))=.ok (decide (ns=ms)):=by
 unfold y7;have e1:∀ns:List Int,toD (.tup (ns.map .int))=some (.tup (ns.map .int)):=λns=>by grind[toD,qf]
 simp_all[hZ,cF,nF,iG,mn]
noncomputable def a_ (n:Nat):List Int:=(YF n).map λi=>(i:Nat)
def fY (n:Nat):aO 0 n=(a_ n).map .int:=by
 unfold aO a_;rw[Yd];exact ZL λi _=>by show U.int (0+(i:Int))=.int _;rw[Int.zero_add]
def fo (n:Nat):(a_ n).length=n:=by unfold a_;rw[XO,YZ]
theorem ud {x:Int}:x∈a_ n↔0<=x/\x<n:=by
 unfold a_;rw[Yn];constructor
 ·rintro⟨i,h,rfl⟩;have:=Y0.mp h;lia
 ·intro h;exact⟨x.toNat,Y0.mpr (by lia),(by lia)⟩
def ue (us:List U)(c:U->Bool):zc [.lst (us.map λu=>.bl (c u))]=.ok (.bl (us.all c)):=by
 have e:us.map (λu=>U.bl (c u))=(us.map c).map .bl:=by rw[Yd];rfl
 unfold zc;dsimp only;rw[e,Ed];dsimp only;rw[abl];rfl
end L2
namespace L2
def inb (s:String){T:String}{u:U}{ρ:Ev}{b:Bool}(h:Ee u=s)(h1:¬s="script")(h2:fw s T=b):jW T u ρ=.ok (.bl b,ρ):=by unfold jW;rw[h,hV h1,h2]
def qI {ρ:Ev}:jW "bool" (.non) ρ=.ok (.bl false,ρ):=inb "NoneType" rfl (by decide) (by decide)
def uf {ρ:Ev}:jW "int" (.non) ρ=.ok (.bl false,ρ):=inb "NoneType" rfl (by decide) (by decide)
def ug {ρ:Ev}:jW "str" (.non) ρ=.ok (.bl false,ρ):=inb "NoneType" rfl (by decide) (by decide)
def qJ {ρ:Ev}:jW "list" (.non) ρ=.ok (.bl false,ρ):=inb "NoneType" rfl (by decide) (by decide)
def oP {ρ:Ev}:jW "tuple" (.non) ρ=.ok (.bl false,ρ):=inb "NoneType" rfl (by decide) (by decide)
def qK {ρ:Ev}:jW "dict" (.non) ρ=.ok (.bl false,ρ):=inb "NoneType" rfl (by decide) (by decide)
def uh {b:Bool}{ρ:Ev}:jW "bool" (.bl b) ρ=.ok (.bl true,ρ):=inb "bool" rfl (by decide) (by decide)
def wu {b:Bool}{ρ:Ev}:jW "int" (.bl b) ρ=.ok (.bl true,ρ):=inb "bool" rfl (by decide) (by decide)
def wx {b:Bool}{ρ:Ev}:jW "str" (.bl b) ρ=.ok (.bl false,ρ):=inb "bool" rfl (by decide) (by decide)
def ui {b:Bool}{ρ:Ev}:jW "list" (.bl b) ρ=.ok (.bl false,ρ):=inb "bool" rfl (by decide) (by decide)
def qL {b:Bool}{ρ:Ev}:jW "tuple" (.bl b) ρ=.ok (.bl false,ρ):=inb "bool" rfl (by decide) (by decide)
def uj {b:Bool}{ρ:Ev}:jW "dict" (.bl b) ρ=.ok (.bl false,ρ):=inb "bool" rfl (by decide) (by decide)
def qM {i:Int}{ρ:Ev}:jW "bool" (.int i) ρ=.ok (.bl false,ρ):=inb "int" rfl (by decide) (by decide)
def uk {i:Int}{ρ:Ev}:jW "int" (.int i) ρ=.ok (.bl true,ρ):=inb "int" rfl (by decide) (by decide)
def uo {i:Int}{ρ:Ev}:jW "str" (.int i) ρ=.ok (.bl false,ρ):=inb "int" rfl (by decide) (by decide)
def qN {i:Int}{ρ:Ev}:jW "list" (.int i) ρ=.ok (.bl false,ρ):=inb "int" rfl (by decide) (by decide)
def oQ {i:Int}{ρ:Ev}:jW "tuple" (.int i) ρ=.ok (.bl false,ρ):=inb "int" rfl (by decide) (by decide)
def qO {i:Int}{ρ:Ev}:jW "dict" (.int i) ρ=.ok (.bl false,ρ):=inb "int" rfl (by decide) (by decide)
def qP {x:Str}{ρ:Ev}:jW "bool" (.str x) ρ=.ok (.bl false,ρ):=inb "str" rfl (by decide) (by decide)
def ur {x:Str}{ρ:Ev}:jW "int" (.str x) ρ=.ok (.bl false,ρ):=inb "str" rfl (by decide) (by decide)
def uu {x:Str}{ρ:Ev}:jW "str" (.str x) ρ=.ok (.bl true,ρ):=inb "str" rfl (by decide) (by decide)
def qQ {x:Str}{ρ:Ev}:jW "list" (.str x) ρ=.ok (.bl false,ρ):=inb "str" rfl (by decide) (by decide)
def oR {x:Str}{ρ:Ev}:jW "tuple" (.str x) ρ=.ok (.bl false,ρ):=inb "str" rfl (by decide) (by decide)
def qR {x:Str}{ρ:Ev}:jW "dict" (.str x) ρ=.ok (.bl false,ρ):=inb "str" rfl (by decide) (by decide)
def qS {us:List U}{ρ:Ev}:jW "bool" (.tup us) ρ=.ok (.bl false,ρ):=inb "tuple" rfl (by decide) (by decide)
def uv {us:List U}{ρ:Ev}:jW "int" (.tup us) ρ=.ok (.bl false,ρ):=inb "tuple" rfl (by decide) (by decide)
def uw {us:List U}{ρ:Ev}:jW "str" (.tup us) ρ=.ok (.bl false,ρ):=inb "tuple" rfl (by decide) (by decide)
def qT {us:List U}{ρ:Ev}:jW "list" (.tup us) ρ=.ok (.bl false,ρ):=inb "tuple" rfl (by decide) (by decide)
def oT {us:List U}{ρ:Ev}:jW "tuple" (.tup us) ρ=.ok (.bl true,ρ):=inb "tuple" rfl (by decide) (by decide)
def qU {us:List U}{ρ:Ev}:jW "dict" (.tup us) ρ=.ok (.bl false,ρ):=inb "tuple" rfl (by decide) (by decide)
def qV {us:List U}{ρ:Ev}:jW "bool" (.lst us) ρ=.ok (.bl false,ρ):=inb "list" rfl (by decide) (by decide)
def ux {us:List U}{ρ:Ev}:jW "int" (.lst us) ρ=.ok (.bl false,ρ):=inb "list" rfl (by decide) (by decide)
def uy {us:List U}{ρ:Ev}:jW "str" (.lst us) ρ=.ok (.bl false,ρ):=inb "list" rfl (by decide) (by decide)
def qW {us:List U}{ρ:Ev}:jW "list" (.lst us) ρ=.ok (.bl true,ρ):=inb "list" rfl (by decide) (by decide)
def oU {us:List U}{ρ:Ev}:jW "tuple" (.lst us) ρ=.ok (.bl false,ρ):=inb "list" rfl (by decide) (by decide)
def qX {us:List U}{ρ:Ev}:jW "dict" (.lst us) ρ=.ok (.bl false,ρ):=inb "list" rfl (by decide) (by decide)
def qY {ρ:Ev}:jW "bool" (.dct [] []) ρ=.ok (.bl false,ρ):=inb "dict" rfl (by decide) (by decide)
def uz {ρ:Ev}:jW "int" (.dct [] []) ρ=.ok (.bl false,ρ):=inb "dict" rfl (by decide) (by decide)
def uA {ρ:Ev}:jW "str" (.dct [] []) ρ=.ok (.bl false,ρ):=inb "dict" rfl (by decide) (by decide)
def qZ {ρ:Ev}:jW "list" (.dct [] []) ρ=.ok (.bl false,ρ):=inb "dict" rfl (by decide) (by decide)
def oV {ρ:Ev}:jW "tuple" (.dct [] []) ρ=.ok (.bl false,ρ):=inb "dict" rfl (by decide) (by decide)
def q_ {ρ:Ev}:jW "dict" (.dct [] []) ρ=.ok (.bl true,ρ):=inb "dict" rfl (by decide) (by decide)
def av:type_of% @LD/\type_of% @Gy/\type_of% @UX/\type_of% @oN/\type_of% @LF/\type_of% @Gz/\type_of% @QC/\type_of% @UY/\type_of% @LG/\type_of% @GA/\type_of% @LH/\type_of% @GB/\type_of% @LJ/\type_of% @QD/\type_of% @LK/\type_of% @QE/\type_of% @CK/\type_of% @QF/\type_of% @GC/\type_of% @CL/\type_of% @GD/\type_of% @GF/\type_of% @QG/\type_of% @QH/\type_of% @LN/\type_of% @CN/\type_of% @QI/\type_of% @LO/\type_of% @LP/\type_of% @U2/\type_of% @GG/\type_of% @CO/\type_of% @LQ/\type_of% @CP/\type_of% @QJ/\type_of% @GH/\type_of% @GI/\type_of% @CQ/\type_of% @GJ/\type_of% @GK/\type_of% @GL/\type_of% @GN/\type_of% @GO/\type_of% @GP/\type_of% @GQ/\type_of% @LS/\type_of% @LU/\type_of% @LV/\type_of% @LW/\type_of% @GR/\type_of% @LX/\type_of% @LY/\type_of% @GU/\type_of% @GV/\type_of% @L3/\type_of% @GW/\type_of% @L4/\type_of% @CS/\type_of% @CT/\type_of% @CU/\type_of% @CV/\type_of% @CW/\type_of% @GX/\type_of% @GY/\type_of% @GZ/\type_of% @G0/\type_of% @G1/\type_of% @G4/\type_of% @G5/\type_of% @L6/\type_of% @L7/\type_of% @zw/\type_of% @G6/\type_of% @zx/\type_of% @L8/\type_of% @QM/\type_of% @G7/\type_of% @CY/\type_of% @G8/\type_of% @CZ/\type_of% @L9/\type_of% @zy/\type_of% @wq/\type_of% @wt/\type_of% @G9/\type_of% @G_/\type_of% @Ha/\type_of% @L_/\type_of% @Ma/\type_of% @Hb/\type_of% @Mb/\type_of% @Mc/\type_of% @Me/\type_of% @QN/\type_of% @QO/\type_of% @rR/\type_of% @QP/\type_of% @Mf/\type_of% @Mg/\type_of% @Mh/\type_of% @Mi/\type_of% @Mj/\type_of% @Ml/\type_of% @Mm/\type_of% @Hd/\type_of% @He/\type_of% @Hg/\type_of% @Hh/\type_of% @Hi/\type_of% @Hj/\type_of% @Hk/\type_of% @Mn/\type_of% @Mo/\type_of% @Hl/\type_of% @Hm/\type_of% @QQ/\type_of% @Mp/\type_of% @Mq/\type_of% @Mr/\type_of% @LL/\type_of% @qI/\type_of% @uf/\type_of% @ug/\type_of% @qJ/\type_of% @oP/\type_of% @qK/\type_of% @uh/\type_of% @wu/\type_of% @wx/\type_of% @ui/\type_of% @qL/\type_of% @uj/\type_of% @qM/\type_of% @uk/\type_of% @uo/\type_of% @qN/\type_of% @oQ/\type_of% @qO/\type_of% @qP/\type_of% @ur/\type_of% @uu/\type_of% @qQ/\type_of% @oR/\type_of% @qR/\type_of% @qS/\type_of% @uv/\type_of% @uw/\type_of% @qT/\type_of% @oT/\type_of% @qU/\type_of% @qV/\type_of% @ux/\type_of% @uy/\type_of% @qW/\type_of% @oU/\type_of% @qX/\type_of% @qY/\type_of% @uz/\type_of% @uA/\type_of% @qZ/\type_of% @oV/\type_of% @q_/\type_of% @C0/\type_of% @C1:=
 ⟨@LD,@Gy,@UX,@oN,@LF,@Gz,@QC,@UY,@LG,@GA,@LH,@GB,@LJ,@QD,@LK,@QE,@CK,@QF,@GC,@CL,@GD,@GF,@QG,@QH,@LN,@CN,@QI,@LO,@LP,@U2,@GG,@CO,@LQ,@CP,@QJ,@GH,@GI,@CQ,@GJ,@GK,@GL,@GN,@GO,@GP,@GQ,@LS,@LU,@LV,@LW,@GR,@LX,@LY,@GU,@GV,@L3,@GW,@L4,@CS,@CT,@CU,@CV,@CW,@GX,@GY,@GZ,@G0,@G1,@G4,@G5,@L6,@L7,@zw,@G6,@zx,@L8,@QM,@G7,@CY,@G8,@CZ,@L9,@zy,@wq,@wt,@G9,@G_,@Ha,@L_,@Ma,@Hb,@Mb,@Mc,@Me,@QN,@QO,@rR,@QP,@Mf,@Mg,@Mh,@Mi,@Mj,@Ml,@Mm,@Hd,@He,@Hg,@Hh,@Hi,@Hj,@Hk,@Mn,@Mo,@Hl,@Hm,@QQ,@Mp,@Mq,@Mr,@LL,@qI,@uf,@ug,@qJ,@oP,@qK,@uh,@wu,@wx,@ui,@qL,@uj,@qM,@uk,@uo,@qN,@oQ,@qO,@qP,@ur,@uu,@qQ,@oR,@qR,@qS,@uv,@uw,@qT,@oT,@qU,@qV,@ux,@uy,@qW,@oU,@qX,@qY,@uz,@uA,@qZ,@oV,@q_,@C0,@C1⟩
end L2
namespace Hc.Ts
noncomputable def gT:Bool->Yr->Array Yr->Nat->Nat->Nat->StateT Yp Sem (Option Nat):=sortPriv% PySem.Builtin.gallop
noncomputable def iL (left:Bool)(key:Yr)(arr:Array Yr)(base i:Nat):StateT Yp Sem (Option Bool):=do
 let x ←adq arr (base+i)
 if left then lt' x key else return (←lt' key x).map (!·)
def BF (left:Bool)(key:Yr)(arr:Array Yr)(base n hint:Nat):gT left key arr base n hint=(do
 let mut lastofs:=0
 let mut ofs:=1
 let mut lo:=0
 let mut hi:=0
 let some right ←iL left key arr base hint|return none
 if right then
  let maxofs:=n-hint
  for _ in [0:n] do
   if ofs≥maxofs then break
   let some more ←iL left key arr base (hint+ofs)|return none
   if !more then break
   lastofs:=ofs
   ofs:=2*ofs+1
  lo:=hint+lastofs+1
  hi:=hint+min ofs maxofs
 else
  let maxofs:=hint+1
  for _ in [0:n] do
   if ofs≥maxofs then break
   let some found ←iL left key arr base (hint-ofs)|return none
   if found then break
   lastofs:=ofs
   ofs:=2*ofs+1
  lo:=hint+1-min ofs maxofs
  hi:=hint-lastofs
 for _ in [0:n] do
  if lo≥hi then break
  let m:=lo+(hi-lo) / 2
  let some more ←iL left key arr base m|return none
  if more then lo:=m+1 else hi:=m
 return some hi):=rfl
section
variable {A:YG}
noncomputable def Km (left:Bool)(key:Yr)(arr:Array Yr)(base n WJ UA:Nat):StateT Yp Sem (Option Nat):=do
 let mut lo:=WJ
 let mut hi:=UA
 for _ in [0:n] do
  if lo≥hi then break
  let m:=lo+(hi-lo) / 2
  let some more ←iL left key arr base m|return none
  if more then lo:=m+1 else hi:=m
 return some hi
theorem C2 {left:Bool}{key:Yr}{base lo hi:Nat}{st:Yp}{Q:Option Nat->Yp->Prop}(b:Nat->Bool)(hb:∀i,i<n->∀Q:Option Bool->Yp->Prop,Q (some (b i)) st->wpS M A E s (iL left key arr base i) Q st)(mono:∀i j,i<=j->j<n->b j=true->b i=true)(h1:lo<=hi)(h2:hi<=n)(hl:∀i,i<lo->b i=true)(hr:∀i,hi<=i->i<n->b i=false)(h:∀k,k<=n->(∀i,i<k->b i=true)->(∀i,k<=i->i<n->b i=false)->Q (some k) st):wpS M A E s (Km left key arr base n lo hi) Q st:=by
 unfold Km;refine Yc (aaS (Zx (I:=λx c aZ=>aZ=st/\∃l r,c=(none,l,r)/\l<=r/\r<=n/\r-l<=n-x/\(∀i,i<l->b i=true)/\∀i,r<=i->i<n->b i=false)
  (Q:=λc aZ=>aZ=st/\∃k,c=(none,k,k)/\k<=n/\(∀i,i<k->b i=true)/\∀i,k<=i->i<n->b i=false) ?step ?fin ⟨rfl,lo,hi,rfl,h1,h2,(by lia),hl,hr⟩) ?post)
 case fin=>
  rintro c aZ ⟨rfl,l,r,rfl,a1,a2,a3,a4,a5⟩;have:l=r:=(by lia)
  subst this;exact⟨rfl,l,rfl,a2,a4,a5⟩
 case step=>
  rintro x c aZ _ hx ⟨rfl,l,r,rfl,a1,a2,a3,a4,a5⟩;dsimp only;by_cases c:l≥r
  ·rw[hZ c];have:l=r:=(by lia)
   subst this;exact Yh ⟨rfl,l,rfl,a2,a4,a5⟩
  ·rw[hV c];refine Yc (hb _ (by lia) _ ?_);dsimp only;cases e:b (l+(r-l) / 2) with
   |true=>
    rw[hZ rfl];exact Yh ⟨rfl,_,r,rfl,(by lia),a2,(by lia),λi hi=>mono i _ (by lia) (by lia) e,a5⟩
   |false=>
    rw[hV XR];refine Yh ⟨rfl,l,_,rfl,(by lia),(by lia),(by lia),a4,λi h1 h2=>?_⟩;grind
 case post=>
  rintro c aZ ⟨rfl,k,rfl,a1,a2,a3⟩;exact Yh (h k a1 a2 a3)
theorem wy {left:Bool}{key:Yr}{base hint:Nat}{st:Yp}{Q:Option Nat->Yp->Prop}(b:Nat->Bool)(hb:∀i,i<n->∀Q:Option Bool->Yp->Prop,Q (some (b i)) st->wpS M A E s (iL left key arr base i) Q st)(mono:∀i j,i<=j->j<n->b j=true->b i=true)(hh:hint<n)(h:∀k,k<=n->(∀i,i<k->b i=true)->(∀i,k<=i->i<n->b i=false)->Q (some k) st):wpS M A E s (gT left key arr base n hint) Q st:=by
 have Vx:∀i j,i<=j->j<n->b i=false->b j=false:=λi j h1 h2 e=>by
  cases e2:b j with
  |false=>rfl
  |true=>rw[mono i j h1 h2 e2] at e;cases e
 rw[BF];refine Yc (hb hint hh _ ?_);dsimp only;cases e0:b hint with
 |true=>
  rw[hZ rfl];refine Yc (aaS (Zx (I:=λx c aZ=>aZ=st/\∃l o,c=(none,l,o)/\l<o/\x+1<=o/\hint+l<n/\b (hint+l)=true)
   (Q:=λc aZ=>aZ=st/\∃l o,c=(none,l,o)/\l<o/\hint+l<n/\b (hint+l)=true/\(o≥n-hint\/b (hint+o)=false)) ?step ?fin ⟨rfl,0,1,rfl,(by lia),(by lia),hh,e0⟩) ?post)
  case fin=>
   rintro c aZ ⟨rfl,l,o,rfl,a1,a2,a3,a4⟩;exact⟨rfl,l,o,rfl,a1,a3,a4,.inl (by lia)⟩
  case step=>
   rintro x c aZ _ hx ⟨rfl,l,o,rfl,a1,a2,a3,a4⟩;dsimp only;by_cases c:o≥n-hint
   ·rw[hZ c];exact Yh ⟨rfl,l,o,rfl,a1,a3,a4,.inl c⟩
   ·rw[hV c];refine Yc (hb _ (by lia) _ ?_);dsimp only;cases e:b (hint+o) with
    |true=>
     rw[hV (by decide)];exact Yh ⟨rfl,o,_,rfl,(by lia),(by lia),(by lia),e⟩
    |false=>
     rw[hZ (by decide)];exact Yh ⟨rfl,l,o,rfl,a1,a3,a4,.inr e⟩
  case post=>
   rintro c aZ ⟨rfl,l,o,rfl,a1,a3,a4,a5⟩;show wpS _ _ _ _ (Km left key arr base n (hint+l+1) (hint+min o (n-hint))) _ _;refine C2 b hb mono (by lia) (by lia) (λi hi=>mono i _ (by lia) a3 a4) (λi h1 h2=>?_) h;rcases a5 with a5|a5
   ·lia
   ·by_cases c:o<=n-hint
    ·rw[ZF c] at h1;exact Vx _ i h1 h2 a5
    ·lia
 |false=>
  rw[hV XR];refine Yc (aaS (Zx (I:=λx c aZ=>aZ=st/\∃l o,c=(none,l,o)/\l<o/\x+1<=o/\l<=hint/\b (hint-l)=false)
   (Q:=λc aZ=>aZ=st/\∃l o,c=(none,l,o)/\l<o/\l<=hint/\b (hint-l)=false/\(o≥hint+1\/b (hint-o)=true)) ?step ?fin ⟨rfl,0,1,rfl,(by lia),(by lia),(by lia),e0⟩) ?post)
  case fin=>
   rintro c aZ ⟨rfl,l,o,rfl,a1,a2,a3,a4⟩;exact⟨rfl,l,o,rfl,a1,a3,a4,.inl (by lia)⟩
  case step=>
   rintro x c aZ _ hx ⟨rfl,l,o,rfl,a1,a2,a3,a4⟩;dsimp only;by_cases c:o≥hint+1
   ·rw[hZ c];exact Yh ⟨rfl,l,o,rfl,a1,a3,a4,.inl c⟩
   ·rw[hV c];refine Yc (hb _ (by lia) _ ?_);dsimp only;cases e:b (hint-o) with
    |true=>
     rw[hZ rfl];exact Yh ⟨rfl,l,o,rfl,a1,a3,a4,.inr e⟩
    |false=>
     rw[hV XR];exact Yh ⟨rfl,o,_,rfl,(by lia),(by lia),(by lia),e⟩
  case post=>
   rintro c aZ ⟨rfl,l,o,rfl,a1,a3,a4,a5⟩;show wpS _ _ _ _ (Km left key arr base n (hint+1-min o (hint+1)) (hint-l)) _ _;refine C2 b hb mono (by lia) (by lia) (λi hi=>?_) (λi h1 h2=>Vx _ i h1 h2 a4) h;rcases a5 with a5|a5
   ·lia
   ·by_cases c:o<=hint+1
    ·rw[ZF c] at hi;exact mono i _ (by lia) (by lia) a5
    ·lia
end
end Hc.Ts
namespace Hc.Ts
section
variable {O:adK}(key:Yr->O.α)
def jB (l:List Yr):Prop:=l.Pairwise λx y=>O.kle (key x) (key y)
structure MI (T o ra rb:List Yr):Prop where
 perm:(o++(ra++rb)).Perm T
 so:jB key o
 sa:jB key ra
 sb:jB key rb
 oa:∀x∈o,∀y∈ra,O.kle (key x) (key y)
 ob:∀x∈o,∀y∈rb,O.kle (key x) (key y)
structure MH (T ra rb o:List Yr):Prop where
 perm:((ra++rb)++o).Perm T
 so:jB key o
 sa:jB key ra
 sb:jB key rb
 oa:∀x∈ra,∀y∈o,O.kle (key x) (key y)
 ob:∀x∈rb,∀y∈o,O.kle (key x) (key y)
variable {key}
def bZ {r:List Yr}:jB key (l++r)↔jB key l/\jB key r/\∀x∈l,∀y∈r,O.kle (key x) (key y):=List.pairwise_append
theorem MI.stepA {x:List Yr}(h:MI key T o (x++ra) rb)(hx:∀a∈x,∀b∈rb,O.kle (key a) (key b)):MI key T (o++x) ra rb:=by
 obtain⟨s1,s2,s3⟩:=bZ.mp h.sa;refine⟨?_,bZ.mpr ⟨h.so,s1,λa ha b hb=>h.oa a ha b (Zz _ hb)⟩,s2,h.sb,λa ha b hb=>?_,λa ha b hb=>?_⟩
 ·have e:o++x++(ra++rb)=o++(x++ra++rb):=by simp[Yi]
  rw[e];exact h.perm
 ·rcases Yk.mp ha with ha|ha
  ·exact h.oa a ha b (Yz _ hb)
  grind
 ·rcases Yk.mp ha with ha|ha
  ·exact h.ob a ha b hb
  grind
theorem MI.stepB {y:List Yr}(h:MI key T o ra (y++rb))(hy:∀b∈y,∀a∈ra,O.kle (key b) (key a)):MI key T (o++y) ra rb:=by
 obtain⟨s1,s2,s3⟩:=bZ.mp h.sb;refine⟨?_,bZ.mpr ⟨h.so,s1,λa ha b hb=>h.ob a ha b (Zz _ hb)⟩,h.sa,s2,λa ha b hb=>?_,λa ha b hb=>?_⟩
 ·refine List.Perm.trans ?_ h.perm;have e:o++y++(ra++rb)=o++((y++ra)++rb):=by simp[Yi]
  have e2:o++(ra++(y++rb))=o++((ra++y)++rb):=by simp[Yi]
  rw[e,e2];exact Zh o (Zr rb Zi)
 ·rcases Yk.mp ha with ha|ha
  ·exact h.oa a ha b hb
  ·exact hy a ha b hb
 ·rcases Yk.mp ha with ha|ha
  ·exact h.ob a ha b (Yz _ hb)
  ·exact s3 a ha b hb
def MI.endA (h:MI key T o ra []):(o++ra).Perm T/\jB key (o++ra):=by
 refine⟨?_,bZ.mpr ⟨h.so,h.sa,h.oa⟩⟩;have:=h.perm;rw[Yu] at this;exact this
def MI.endB (h:MI key T o [] rb):(o++rb).Perm T/\jB key (o++rb):=⟨h.perm,bZ.mpr ⟨h.so,h.sb,h.ob⟩⟩
theorem MI.last (h:MI key T o ra rb)(hl:∀b∈rb,∀a∈ra,O.kle (key b) (key a)):(o++(rb++ra)).Perm T/\jB key (o++(rb++ra)):=
 ⟨(Zh o Zi).trans h.perm,bZ.mpr ⟨h.so,bZ.mpr ⟨h.sb,h.sa,hl⟩,λa ha b hb=>by
  rcases Yk.mp hb with hb|hb
  ·exact h.ob a ha b hb
  ·exact h.oa a ha b hb⟩⟩
theorem MH.stepA {x:List Yr}(h:MH key T (ra++x) rb o)(hx:∀b∈rb,∀a∈x,O.kle (key b) (key a)):MH key T ra rb (x++o):=by
 obtain⟨s1,s2,s3⟩:=bZ.mp h.sa;refine⟨?_,bZ.mpr ⟨s2,h.so,λa ha b hb=>h.oa a (Yz _ ha) b hb⟩,s1,h.sb,λa ha b hb=>?_,λa ha b hb=>?_⟩
 ·refine List.Perm.trans ?_ h.perm;have e:ra++rb++(x++o)=(ra++(rb++x))++o:=by simp[Yi]
  have e2:ra++x++rb++o=(ra++(x++rb))++o:=by simp[Yi]
  rw[e,e2];exact Zr o (Zh ra Zi)
 ·rcases Yk.mp hb with hb|hb
  ·exact s3 a ha b hb
  ·exact h.oa a (Zz _ ha) b hb
 ·rcases Yk.mp hb with hb|hb
  ·exact hx a ha b hb
  ·exact h.ob a ha b hb
theorem MH.stepB {y:List Yr}(h:MH key T ra (rb++y) o)(hy:∀a∈ra,∀b∈y,O.kle (key a) (key b)):MH key T ra rb (y++o):=by
 obtain⟨s1,s2,s3⟩:=bZ.mp h.sb;refine⟨?_,bZ.mpr ⟨s2,h.so,λa ha b hb=>h.ob a (Yz _ ha) b hb⟩,h.sa,s1,λa ha b hb=>?_,λa ha b hb=>?_⟩
 ·have e:ra++rb++(y++o)=ra++(rb++y)++o:=by simp[Yi]
  rw[e];exact h.perm
 ·rcases Yk.mp hb with hb|hb
  ·exact hy a ha b hb
  ·exact h.oa a ha b hb
 ·rcases Yk.mp hb with hb|hb
  ·exact s3 a ha b hb
  ·exact h.ob a (Zz _ ha) b hb
def MH.endB (h:MH key T [] rb o):(rb++o).Perm T/\jB key (rb++o):=⟨h.perm,bZ.mpr ⟨h.sb,h.so,h.ob⟩⟩
def MH.endA (h:MH key T ra [] o):(ra++o).Perm T/\jB key (ra++o):=by
 refine⟨?_,bZ.mpr ⟨h.sa,h.so,h.oa⟩⟩;have:=h.perm;rw[Yu] at this;exact this
theorem MH.first (h:MH key T ra rb o)(hl:∀b∈rb,∀a∈ra,O.kle (key b) (key a)):((rb++ra)++o).Perm T/\jB key ((rb++ra)++o):=
 ⟨(Zr o Zi).trans h.perm,bZ.mpr ⟨bZ.mpr ⟨h.sb,h.sa,hl⟩,h.so,λa ha b hb=>by
  rcases Yk.mp ha with ha|ha
  ·exact h.ob a ha b hb
  ·exact h.oa a ha b hb⟩⟩
end
structure mX (M:Model)(A:YG)(E:XY->Ya->Prop)(s:Ya)(O:adK)(key:Yr->O.α)(knd:abF)(D:Yr->Prop):Prop where
 lt:∀(x y:Yr) (st:Yp) (Q:Option Bool->Yp->Prop),D x->D y->Zs st=knd->Q (some (O.blt (key x) (key y))) st->wpS M A E s (lt' x y) Q st
section
variable {A:YG}{O:adK}{key:Yr->O.α}{knd:abF}{D:Yr->Prop}
def cy {x:Yr}{st:Yp}{Q:Yr->Yp->Prop}(h:arr.toList[i]? = some x)(q:Q x st):wpS M A E s (adq arr i) Q st:=by
 have h:arr[i]? = some x:=by rw[←YB];exact h
 rw[elem'_eq,h];exact Yh q
theorem nG (C:mX M A E s O key knd D){kx:Yr}{base hint:Nat}{seg:List Yr}{st:Yp}{Q:Option Nat->Yp->Prop}(O8:∀i x,seg[i]? = some x->arr.toList[base+i]? = some x)(hs:jB key seg)(hD:∀x∈seg,D x)(hk:D kx)(kd:Zs st=knd)(hh:hint<seg.length)(h:∀k,k<=seg.length->(∀x∈seg.take k,O.kle (key x) (key kx))->(∀x∈seg.drop k,O.klt (key kx) (key x))->Q (some k) st):wpS M A E s (gT false kx arr base seg.length hint) Q st:=by
 have at_:∀i,(hi:i<seg.length)->seg[i]? = some seg[i]:=λi hi=>XN hi;refine wy (λi=> !(match seg[i]? with|some x=>O.blt (key kx) (key x)|none=>false)) (λi hi Q q=>?_) (λi j AR hj e=>?_) hh λk EY h1 h2=>h k EY (λx hx=>?_) λx hx=>?_
 ·rw[at_ i hi] at q;unfold iL;refine Yc (cy (O8 i _ (at_ i hi)) ?_);rw[hV XR];exact Yc (C.lt _ _ st _ hk (hD _ (YU hi)) kd (Yh q))
 ·have hi:i<seg.length:=(by lia)
  simp only[at_ i hi,at_ j hj,adH] at e ⊢;by_cases c:i=j
  ·subst c;exact e
  ·have:=aaX.mp hs i j hi hj (by lia);exact YL this e
 ·obtain⟨i,hi,rfl⟩:=aao.mp hx;rw[Ys] at hi;have:=h1 i (by lia);simp only[at_ i (by lia),adH] at this;rw[acq];exact this
 ·obtain⟨i,hi,rfl⟩:=aao.mp hx;rw[YR] at hi;have:=h2 (k+i) (by lia) (by lia);simp only[at_ (k+i) (by lia),Bool.not_eq_false'] at this;rw[List.getElem_drop];exact this
theorem nH (C:mX M A E s O key knd D){kx:Yr}{base hint:Nat}{seg:List Yr}{st:Yp}{Q:Option Nat->Yp->Prop}(O8:∀i x,seg[i]? = some x->arr.toList[base+i]? = some x)(hs:jB key seg)(hD:∀x∈seg,D x)(hk:D kx)(kd:Zs st=knd)(hh:hint<seg.length)(h:∀k,k<=seg.length->(∀x∈seg.take k,O.klt (key x) (key kx))->(∀x∈seg.drop k,O.kle (key kx) (key x))->Q (some k) st):wpS M A E s (gT true kx arr base seg.length hint) Q st:=by
 have at_:∀i,(hi:i<seg.length)->seg[i]? = some seg[i]:=λi hi=>XN hi;refine wy (λi=>match seg[i]? with|some x=>O.blt (key x) (key kx)|none=>false) (λi hi Q q=>?_) (λi j AR hj e=>?_) hh λk EY h1 h2=>h k EY (λx hx=>?_) λx hx=>?_
 ·rw[at_ i hi] at q;unfold iL;refine Yc (cy (O8 i _ (at_ i hi)) ?_);rw[hZ rfl];exact C.lt _ _ st _ (hD _ (YU hi)) hk kd q
 ·have hi:i<seg.length:=(by lia)
  simp only[at_ i hi,at_ j hj] at e ⊢;by_cases c:i=j
  ·subst c;exact e
  ·have:=aaX.mp hs i j hi hj (by lia);exact KeyOrd.klt_of_kle_of_klt this e
 ·obtain⟨i,hi,rfl⟩:=aao.mp hx;rw[Ys] at hi;have:=h1 i (by lia);simp only[at_ i (by lia)] at this;rw[acq];exact this
 ·obtain⟨i,hi,rfl⟩:=aao.mp hx;rw[YR] at hi;have:=h2 (k+i) (by lia) (by lia);simp only[at_ (k+i) (by lia)] at this;rw[List.getElem_drop];exact this
end
end Hc.Ts
namespace Hc.Ts
noncomputable abbrev d7 (st:Yp)(g:Nat):Yp:=SortSt.mk' (Zs st) (YO st) (YK st) g (abG st)
noncomputable def cQ (g:Nat):StateT Yp Sem Unit:=modify λs=>d7 s g
noncomputable def uB:Array Yr->Array Yr->StateT Yp Sem (Array Yr):=sortPriv% PySem.Builtin.mergeLo
noncomputable abbrev Mt:=Option (Array Yr)×Array Yr×Nat×Nat×Nat×Nat×Nat
noncomputable abbrev Pq:=Option (Array Yr)×Array Yr×Nat×Nat×Nat×Nat
noncomputable abbrev Sd:=Option (Array Yr)×Array Yr×Nat×Nat×Nat
noncomputable def iy (a b out:Array Yr)(ia ib:Nat):Array Yr:=out++a.extract ia a.size++b.extract ib b.size
noncomputable def nI (a b out:Array Yr)(ia ib:Nat):Array Yr:=out++b.extract ib b.size++a.extract ia a.size
noncomputable def Kn (a b out:Array Yr)(ia ib g k k1:Nat):StateT Yp Sem (ForInStep Mt):=do
 let x ←adq a ia
 if (ia+1+1==a.size)=true then pure (.done (some (nI a b (out.push x) (ia+1) ib),out.push x,ia+1,ib,g,k,k1))
 else if (decide (k<7)&&decide (k1<7))=true then pure (.done (none,out.push x,ia+1,ib,g,k,k1))
 else pure (.yield (none,out.push x,ia+1,ib,g,k,k1))
noncomputable def Ko (a b out:Array Yr)(ia ib g k bc:Nat):StateT Yp Sem (ForInStep Mt):=do
 let y ←adq b ib
 if (ib+1==b.size)=true then pure (.done (some (iy a b (out.push y) ia (ib+1)),out.push y,ia,ib+1,g,k,bc))
 else do
  let x ←adq a ia
  let some k1 ←gT true x b (ib+1) (b.size-(ib+1)) 0|pure (.done (some (iy a b (out.push y) ia (ib+1)),out.push y,ia,ib+1,g,k,bc))
  if k1>0 then
   if (ib+1+k1==b.size)=true then pure (.done (some (iy a b (out.push y++b.extract (ib+1) (ib+1+k1)) ia (ib+1+k1)),out.push y++b.extract (ib+1) (ib+1+k1),ia,ib+1+k1,g,k,k1))
   else Kn a b (out.push y++b.extract (ib+1) (ib+1+k1)) ia (ib+1+k1) g k k1
  else Kn a b (out.push y) ia (ib+1) g k k1
noncomputable def Kp (a b out:Array Yr)(ia ib g ac bc:Nat):StateT Yp Sem (ForInStep Mt):=do
 cQ g
 let y ←adq b ib
 let some k ←gT false y a ia (a.size-ia) 0|pure (.done (some (iy a b out ia ib),out,ia,ib,g,ac,bc))
 if k>0 then
  if (ia+k+1==a.size)=true then pure (.done (some (nI a b (out++a.extract ia (ia+k)) (ia+k) ib),out++a.extract ia (ia+k),ia+k,ib,g,k,bc))
  else if (ia+k==a.size)=true then pure (.done (some (iy a b (out++a.extract ia (ia+k)) (ia+k) ib),out++a.extract ia (ia+k),ia+k,ib,g,k,bc))
  else Ko a b (out++a.extract ia (ia+k)) (ia+k) ib g k bc
 else Ko a b out ia ib g k bc
noncomputable def Tu (a b:Array Yr)(_:Nat)(c:Mt):StateT Yp Sem (ForInStep Mt):=
 if c.2.2.2.2.1>1 then Kp a b c.2.1 c.2.2.1 c.2.2.2.1 (c.2.2.2.2.1-1) c.2.2.2.2.2.1 c.2.2.2.2.2.2
 else Kp a b c.2.1 c.2.2.1 c.2.2.2.1 c.2.2.2.2.1 c.2.2.2.2.2.1 c.2.2.2.2.2.2
noncomputable def Tv (a b:Array Yr)(g:Nat)(_:Nat)(c:Pq):StateT Yp Sem (ForInStep Pq):=do
 let y ←adq b c.2.2.2.1
 let x ←adq a c.2.2.1
 let some bWins ←lt' y x|pure (.done (some (iy a b c.2.1 c.2.2.1 c.2.2.2.1),c.2.1,c.2.2.1,c.2.2.2.1,c.2.2.2.2.1,c.2.2.2.2.2))
 if bWins=true then do
   let y ←adq b c.2.2.2.1
   if (c.2.2.2.1+1==b.size)=true then pure (.done (some (iy a b (c.2.1.push y) c.2.2.1 (c.2.2.2.1+1)),c.2.1.push y,c.2.2.1,c.2.2.2.1+1,0,c.2.2.2.2.2+1))
   else if c.2.2.2.2.2+1≥g then pure (.done (none,c.2.1.push y,c.2.2.1,c.2.2.2.1+1,0,c.2.2.2.2.2+1))
   else pure (.yield (none,c.2.1.push y,c.2.2.1,c.2.2.2.1+1,0,c.2.2.2.2.2+1))
 else do
   let x ←adq a c.2.2.1
   if (c.2.2.1+1+1==a.size)=true then pure (.done (some (nI a b (c.2.1.push x) (c.2.2.1+1) c.2.2.2.1),c.2.1.push x,c.2.2.1+1,c.2.2.2.1,c.2.2.2.2.1+1,0))
   else if c.2.2.2.2.1+1≥g then pure (.done (none,c.2.1.push x,c.2.2.1+1,c.2.2.2.1,c.2.2.2.2.1+1,0))
   else pure (.yield (none,c.2.1.push x,c.2.2.1+1,c.2.2.2.1,c.2.2.2.2.1+1,0))
noncomputable def Tw (a b:Array Yr)(_:Nat)(c:Sd):StateT Yp Sem (ForInStep Sd):=do
 let d ←forIn [0:a.size+b.size] (none,c.2.1,c.2.2.1,c.2.2.2.1,0,0) (Tv a b c.2.2.2.2)
 match d.1 with
 |some r=>pure (.done (some r,d.2.1,d.2.2.1,d.2.2.2.1,c.2.2.2.2))
 |none=>do
  liftM (rule "list.sort.gallop")
  let e ←forIn [0:a.size+b.size] (none,d.2.1,d.2.2.1,d.2.2.2.1,c.2.2.2.2+1,d.2.2.2.2.1,d.2.2.2.2.2) (Tu a b)
  match e.1 with
  |some r=>pure (.done (some r,e.2.1,e.2.2.1,e.2.2.2.1,e.2.2.2.2.1))
  |none=>do
   cQ (e.2.2.2.2.1+1)
   pure (.yield (none,e.2.1,e.2.2.1,e.2.2.2.1,e.2.2.2.2.1+1))
theorem xt (a b:Array Yr):uB a b=(do
  liftM (rule "list.sort.merge-lo")
  let y ←adq b 0
  if (1==b.size)=true then pure (iy a b (List.toArray [y]) 0 1)
  else if (0+1==a.size)=true then pure (nI a b (List.toArray [y]) 0 1)
  else do
   let st ←get
   let c ←forIn [0:a.size+b.size] ((none,(List.toArray [y]),0,1,adg st):Sd) (Tw a b)
   match c.1 with
   |some r=>pure r
   |none=>liftM (abI "internal:list.sort.merge-bound")):=by kernel_rfl
section
variable {A:YG}{O:adK}{key:Yr->O.α}{knd:abF}{D:Yr->Prop}
theorem sH (a:Array Yr)(i:Nat):(a.extract i a.size).toList=a.toList.drop i:=by
 rw[aaZ,aaY];exact ZA (by simp)
def xu (a:Array Yr)(i k:Nat):(a.extract i (i+k)).toList=(a.toList.drop i).take k:=by
 rw[aaZ,aaY,ZX]
theorem zA (a b out:Array Yr)(ia ib:Nat):(iy a b out ia ib).toList=out.toList++(a.toList.drop ia++b.toList.drop ib):=by
 grind[iy,Y9,sH,Yi]
def Ho (a b out:Array Yr)(ia ib:Nat):(nI a b out ia ib).toList=out.toList++(b.toList.drop ib++a.toList.drop ia):=by
 unfold nI;rw[Y9,Y9,sH,sH,Yi]
def mq (h:i<l.length):l.drop i=[l[i]]++l.drop (i+1):=ZC h
def uC (i k:Nat):l.drop i=(l.drop i).take k++l.drop (i+k):=by rw[←ads,YJ]
def sI (key:Yr->O.α)(T:List Yr)(r:Array Yr):Prop:=r.toList.Perm T/\jB key r.toList
structure LI (key:Yr->O.α)(T:List Yr)(a b out:Array Yr)(ia ib:Nat):Prop where
 ha:ia+1<a.size
 hb:ib<b.size
 mi:MI key T out.toList (a.toList.drop ia) (b.toList.drop ib)
structure LR (key:Yr->O.α)(D:Yr->Prop)(a b:Array Yr):Prop where
 da:∀x∈a.toList,D x
 db:∀x∈b.toList,D x
 last:∀i,i+1=a.size->∀y∈b.toList,∀x,a.toList[i]? = some x->O.kle (key y) (key x)
variable {a b out:Array Yr}{ia ib:Nat}
theorem LR.fin (R:LR key D a b)(h:MI key T out.toList (a.toList.drop ia) (b.toList.drop ib))(e:ia+1=a.size):sI key T (nI a b out ia ib):=by
 unfold sI;rw[Ho];refine h.last λy hy x hx=>?_;have hl:ia<a.toList.length:=by rw[X0];lia
 have hn:a.toList.drop (ia+1)=[]:=abf (by rw[X0];lia);rw[mq hl,hn,Yu,Yf] at hx;subst hx;exact R.last ia e y (aap hy) _ (XN hl)
theorem C3 (h:MI key T out.toList (a.toList.drop ia) (b.toList.drop ib))(e:ib=b.size):sI key T (iy a b out ia ib):=by
 have hn:b.toList.drop ib=[]:=abf (by rw[X0];lia);unfold sI;rw[zA];rw[hn] at h ⊢;rw[Yu];exact h.endA
theorem QS (h:MI key T out.toList (a.toList.drop ia) (b.toList.drop ib))(e:ia=a.size):sI key T (iy a b out ia ib):=by
 have hn:a.toList.drop ia=[]:=abf (by rw[X0];lia);unfold sI;rw[zA];rw[hn] at h ⊢;rw[ZH];exact h.endB
theorem lC (h:jB key (l.drop i))(hl:i<l.length):∀x∈l.drop i,O.kle (key l[i]) (key x):=by
 intro x hx;rw[mq hl] at h hx;rcases Yk.mp hx with hx|hx
 ·rw[Yf] at hx;subst hx;exact ZI _
 ·exact (bZ.mp h).2.2 _ (by simp) x hx
theorem Mv (h:MI key T out.toList (a.toList.drop ia) (b.toList.drop ib))(hl:ia<a.toList.length)(hx:∀y∈b.toList.drop ib,O.kle (key a.toList[ia]) (key y)):MI key T (out.push a.toList[ia]).toList (a.toList.drop (ia+1)) (b.toList.drop ib):=by
 rw[aax];rw[mq hl] at h;exact h.stepA λx vk y hy=>by grind
theorem Hq (h:MI key T out.toList (a.toList.drop ia) (b.toList.drop ib))(hl:ib<b.toList.length)(hx:∀x∈a.toList.drop ia,O.kle (key b.toList[ib]) (key x)):MI key T (out.push b.toList[ib]).toList (a.toList.drop ia) (b.toList.drop (ib+1)):=by
 rw[aax];rw[mq hl] at h;exact h.stepB λx vk y hy=>by rw[Yf] at vk;subst vk;exact hx y hy
def GE (key:Yr->O.α)(T:List Yr)(a b:Array Yr)(n:Nat)(dv:Yp)(c:Mt)(st:Yp):Prop:=
 (∃g,st=d7 dv g)/\((∃r,c.1=some r/\sI key T r)\/(c.1=none/\LI key T a b c.2.1 c.2.2.1 c.2.2.2.1/\n<=c.2.2.1+c.2.2.2.1))
def GS (key:Yr->O.α)(T:List Yr)(a b:Array Yr)(n:Nat)(dv:Yp)(r:ForInStep Mt)(st:Yp):Prop:=
 match r with
 | .done c=>GE key T a b n dv c st
 | .yield c=>GE key T a b n dv c st/\c.1=none
theorem C4 (R:LR key D a b){k1:Nat}{st dv:Yp}(g_:∃g,st=d7 dv g)(h:LI key T a b out ia ib)(hn:n<=ia+ib)(hx:∀(hl:ia<a.toList.length),∀y∈b.toList.drop ib,O.kle (key a.toList[ia]) (key y)) :
  wpS M A E s (Kn a b out ia ib g k k1) (GS key T a b n dv) st:=by
 have hl:ia<a.toList.length:=by have:=h.ha;rw[X0];lia
 have m:=Mv h.mi hl (hx hl);unfold Kn;refine Yc (cy (XN hl) ?_);by_cases c:ia+1+1=a.size
 ·rw[hZ (by simpa using c)];exact Yh ⟨g_,.inl ⟨_,rfl,R.fin m c⟩⟩
 ·rw[hV (by simpa using c)];have L:LI key T a b (out.push a.toList[ia]) (ia+1) ib:=⟨by have:=h.ha;lia,h.hb,m⟩;by_cases c2:(decide (k<7)&&decide (k1<7))=true
  ·rw[hZ c2];exact Yh ⟨g_,.inr ⟨rfl,L,by simp only;lia⟩⟩
  ·rw[hV c2];exact Yh ⟨⟨g_,.inr ⟨rfl,L,by simp only;lia⟩⟩,rfl⟩
theorem C5 (C:mX M A E s O key knd D)(R:LR key D a b){st dv:Yp}(g_:∃g,st=d7 dv g)(kd:Zs dv=knd)(h:LI key T a b out ia ib)(hn:n<=ia+ib)(hx:∀(hl:ib<b.toList.length),∀x∈a.toList.drop ia,O.kle (key b.toList[ib]) (key x)) :
  wpS M A E s (Ko a b out ia ib g k bc) (GS key T a b n dv) st:=by
 have nY:ib<b.toList.length:=by have:=h.hb;rw[X0];lia
 have sf:ia<a.toList.length:=by have:=h.ha;rw[X0];lia
 have m:=Hq h.mi nY (hx nY);have IP:Zs st=knd:=by obtain⟨g,rfl⟩:=g_;exact kd
 unfold Ko;refine Yc (cy (XN nY) ?_);by_cases c:ib+1=b.size
 ·rw[hZ (by simpa using c)];exact Yh ⟨g_,.inl ⟨_,rfl,C3 m c⟩⟩
 ·rw[hV (by simpa using c)];refine Yc (cy (XN sf) ?_);have du:b.size-(ib+1)=(b.toList.drop (ib+1)).length:=by rw[YR,X0]
  rw[du];refine Yc (nH C (seg:=b.toList.drop (ib+1)) (λi x e=>by rw[ab3] at e;exact e) m.sb (λx hx=>R.db x (aap hx)) (R.da _ (YU sf)) IP (by rw[←du];have:=h.hb;lia) λk1 EY p1 p2=>?_);dsimp only;by_cases c1:k1>0
  ·rw[hZ c1];have m2:MI key T (out.push b.toList[ib]++b.extract (ib+1) (ib+1+k1)).toList (a.toList.drop ia) (b.toList.drop (ib+1+k1)):=by
    rw[Y9,xu];have m':=m;rw[uC (l:=b.toList) (ib+1) k1] at m';exact m'.stepB λy hy x vk=>YL (Y8 (p1 y hy)) (lC h.mi.sa sf x vk)
   by_cases c2:ib+1+k1=b.size
   ·rw[hZ (by simpa using c2)];exact Yh ⟨g_,.inl ⟨_,rfl,C3 m2 c2⟩⟩
   ·rw[hV (by simpa using c2)];have:k1<=b.size-(ib+1):=by rw[du];exact EY
    refine C4 R g_ ⟨h.ha,by have:=h.hb;lia,m2⟩ (by lia) λhl y hy=>?_;rw[←ads] at hy;exact p2 y hy
  ·rw[hV c1];have:k1=0:=(by lia)
   subst this;refine C4 R g_ ⟨h.ha,by have:=h.hb;lia,m⟩ (by lia) λhl y hy=>p2 y hy
theorem C6 (C:mX M A E s O key knd D)(R:LR key D a b){ac:Nat}{st dv:Yp}(g_:∃g,st=d7 dv g)(kd:Zs dv=knd)(h:LI key T a b out ia ib)(hn:n<=ia+ib) :
  wpS M A E s (Kp a b out ia ib g ac bc) (GS key T a b n dv) st:=by
 have nY:ib<b.toList.length:=by have:=h.hb;rw[X0];lia
 have sf:ia<a.toList.length:=by have:=h.ha;rw[X0];lia
 unfold Kp cQ;have vJ:∃g',d7 st g=d7 dv g':=by grind
 have IP:Zs (d7 st g)=knd:=by lia
 refine Yc (abQ ?_);refine Yc (cy (XN nY) ?_);have du:a.size-ia=(a.toList.drop ia).length:=by rw[YR,X0]
 rw[du];refine Yc (nG C (seg:=a.toList.drop ia) (λi x e=>by grind) h.mi.sa (λx hx=>R.da x (aap hx)) (R.db _ (YU nY)) IP (by grind) λk hk p1 p2=>?_);dsimp only;by_cases c1:k>0
 ·rw[hZ c1];have m2:MI key T (out++a.extract ia (ia+k)).toList (a.toList.drop (ia+k)) (b.toList.drop ib):=by
   rw[Y9,xu];have m':=h.mi;rw[uC (l:=a.toList) ia k] at m';exact m'.stepA λx hx y hy=>YL (p1 x hx) (lC h.mi.sb nY y hy)
  by_cases c2:ia+k+1=a.size
  ·rw[hZ (by simpa using c2)];exact Yh ⟨vJ,.inl ⟨_,rfl,R.fin m2 c2⟩⟩
  ·rw[hV (by simpa using c2)];by_cases c3:ia+k=a.size
   ·rw[hZ (by simpa using c3)];exact Yh ⟨vJ,.inl ⟨_,rfl,QS m2 c3⟩⟩
   ·rw[hV (by simpa using c3)];have:k<=a.size-ia:=by rw[du];exact hk
    refine C5 C R vJ kd ⟨by lia,h.hb,m2⟩ (by lia) λhl x hx=>?_;rw[←ads] at hx;exact Y8 (p2 x hx)
 ·rw[hV c1];have:k=0:=(by lia)
  subst this;exact C5 C R vJ kd h hn λhl x hx=>Y8 (p2 x hx)
theorem Oe (C:mX M A E s O key knd D)(R:LR key D a b){c:Mt}{st dv:Yp}(g_:∃g,st=d7 dv g)(kd:Zs dv=knd)(h:LI key T a b c.2.1 c.2.2.1 c.2.2.2.1)(hn:n<=c.2.2.1+c.2.2.2.1) :
  wpS M A E s (Tu a b i c) (GS key T a b n dv) st:=by
 unfold Tu;split
 ·exact C6 C R g_ kd h hn
 ·exact C6 C R g_ kd h hn
theorem Of (C:mX M A E s O key knd D)(R:LR key D a b){c:Pq}{st:Yp}{Q:ForInStep Pq->Yp->Prop}(kd:Zs st=knd)(h:LI key T a b c.2.1 c.2.2.1 c.2.2.2.1)(h1:∀d:Pq,(∃r,d.1=some r/\sI key T r)\/(d.1=none/\LI key T a b d.2.1 d.2.2.1 d.2.2.2.1/\c.2.2.1+c.2.2.2.1+1=d.2.2.1+d.2.2.2.1)->Q (.done d) st)(h2:∀d:Pq,d.1=none->LI key T a b d.2.1 d.2.2.1 d.2.2.2.1->c.2.2.1+c.2.2.2.1+1=d.2.2.1+d.2.2.2.1->Q (.yield d) st) :
  wpS M A E s (Tv a b g i c) Q st:=by
 obtain⟨r0,out,ia,ib,ac,bc⟩:=c;dsimp only at h h1 h2 ⊢;have nY:ib<b.toList.length:=by have:=h.hb;rw[X0];lia
 have sf:ia<a.toList.length:=by have:=h.ha;rw[X0];lia
 unfold Tv;dsimp only;refine Yc (cy (XN nY) ?_);refine Yc (cy (XN sf) ?_);refine Yc (C.lt _ _ st _ (R.db _ (YU nY)) (R.da _ (YU sf)) kd ?_);dsimp only;cases e:O.blt (key b.toList[ib]) (key a.toList[ia]) with
 |true=>
  rw[hZ rfl];have m:=Hq h.mi nY λx hx=>YL (Y8 e) (lC h.mi.sa sf x hx);refine Yc (cy (XN nY) ?_);by_cases c:ib+1=b.size
  ·rw[hZ (by simpa using c)];exact Yh (h1 _ (.inl ⟨_,rfl,C3 m c⟩))
  ·rw[hV (by simpa using c)];have L:LI key T a b (out.push b.toList[ib]) ia (ib+1):=⟨h.ha,by have:=h.hb;lia,m⟩;split
   ·exact Yh (h1 _ (.inr ⟨rfl,L,by simp only;lia⟩))
   ·exact Yh (h2 _ rfl L (by simp only;lia))
 |false=>
  rw[hV XR];have m:=Mv h.mi sf λy hy=>YL (show O.kle _ _ from e) (lC h.mi.sb nY y hy);refine Yc (cy (XN sf) ?_);by_cases c:ia+1+1=a.size
  ·rw[hZ (by simpa using c)];exact Yh (h1 _ (.inl ⟨_,rfl,R.fin m c⟩))
  ·rw[hV (by simpa using c)];have L:LI key T a b (out.push a.toList[ia]) (ia+1) ib:=⟨by have:=h.ha;lia,h.hb,m⟩;split
   ·exact Yh (h1 _ (.inr ⟨rfl,L,by simp only;lia⟩))
   ·exact Yh (h2 _ rfl L (by simp only;lia))
theorem Og (C:mX M A E s O key knd D)(R:LR key D a b){c:Sd}{st dv:Yp}(g_:∃g,st=d7 dv g)(kd:Zs dv=knd)(h:LI key T a b c.2.1 c.2.2.1 c.2.2.2.1) :
  wpS M A E s (Tw a b i c) (λr aZ=>(∃g,aZ=d7 dv g)/\match r with
   | .done d=>∃r,d.1=some r/\sI key T r
   | .yield d=>d.1=none/\LI key T a b d.2.1 d.2.2.1 d.2.2.2.1/\c.2.2.1+c.2.2.2.1+1<=d.2.2.1+d.2.2.2.1) st:=by
 obtain⟨r0,out,ia,ib,g0⟩:=c;dsimp only at h ⊢;have IP:Zs st=knd:=by lia
 unfold Tw;dsimp only;have hs:1<=a.size+b.size:=by have:=h.hb;lia
 refine Yc (aaS (Zx (I:=λx d aZ=>aZ=st/\d.1=none/\LI key T a b d.2.1 d.2.2.1 d.2.2.2.1/\ia+ib+x=d.2.2.1+d.2.2.2.1)
  (Q:=λd aZ=>aZ=st/\((∃r,d.1=some r/\sI key T r)\/(d.1=none/\LI key T a b d.2.1 d.2.2.1 d.2.2.2.1/\ia+ib+1<=d.2.2.1+d.2.2.2.1))) ?step ?fin ⟨rfl,rfl,h,by rfl⟩) ?post)
 case fin=>
  lia
 case step=>
  rintro x d aZ _ hx ⟨rfl,e1,e2,e3⟩;refine Of C R IP e2 (λd' hd=>?_) λd' p1 p2 p3=>?_
  ·grind
  lia
 case post=>
  rintro d aZ ⟨rfl,hd⟩;obtain⟨dr,dout,dia,dib,dac,dbc⟩:=d;dsimp only at hd ⊢;rcases hd with⟨r,rfl,hr⟩|⟨rfl,hL,hn⟩
  ·exact Yh ⟨g_,r,rfl,hr⟩
  ·dsimp only;refine Yc (wpS_lift (aa5 ⟨rfl,?_⟩));refine Yc (aaS (Zx (I:=λx d aZ=>GE key T a b (ia+ib+1) dv d aZ/\d.1=none)
    (Q:=λd aZ=>GE key T a b (ia+ib+1) dv d aZ) ?_ (λd aZ h=>h.1) ⟨⟨g_,.inr ⟨rfl,hL,hn⟩⟩,rfl⟩) ?_)
   ·rintro x d aZ _ hx ⟨⟨hs',hd⟩,e1⟩;rcases hd with⟨r,e2,_⟩|⟨_,e3,e4⟩
    ·lia
    ·refine aaS (Oe C R hs' kd e3 e4) λr O9 hr=>?_;cases r with
     |done d'=>exact hr
     |yield d'=>exact hr
   ·rintro d aZ ⟨hs',hd⟩;obtain⟨er,eout,eia,eib,eg,eac,ebc⟩:=d;dsimp only at hd ⊢;rcases hd with⟨r,rfl,hr⟩|⟨rfl,hL2,MT⟩
    ·exact Yh ⟨hs',r,rfl,hr⟩
    ·dsimp only;unfold cQ;refine Yc (abQ (Yh ⟨?_,rfl,hL2,MT⟩));grind
theorem BG (C:mX M A E s O key knd D)(R:LR key D a b){st:Yp}{Q:Array Yr->Yp->Prop}(kd:Zs st=knd)(sa:jB key a.toList)(sb:jB key b.toList)(ha:0<a.size)(hb:0<b.size)
  (first:∀y,b.toList[0]? = some y->∀x∈a.toList,O.kle (key y) (key x))
  (h:∀r g,r.toList.Perm (a.toList++b.toList)->jB key r.toList->Q r (d7 st g)):wpS M A E s (uB a b) Q st:=by
 have nY:0<b.toList.length:=by rw[X0];exact hb
 have m:MI key (a.toList++b.toList) ((List.toArray [b.toList[0]]):Array Yr).toList (a.toList.drop 0) (b.toList.drop 1):=by
  have m0:MI key (a.toList++b.toList) ((List.toArray []):Array Yr).toList (a.toList.drop 0) (b.toList.drop 0):=
   ⟨by simp,List.Pairwise.nil,sa,sb,λx hx=>absurd hx (by simp),λx hx=>absurd hx (by simp)⟩
  exact Hq m0 nY (λx hx=>first _ (XN nY) x hx)
 have fin:∀r g,sI key (a.toList++b.toList) r->Q r (d7 st g):=λr g hr=>h r g hr.1 hr.2;rw[xt];refine Yc (wpS_lift (aa5 ⟨rfl,?_⟩));refine Yc (cy (XN nY) ?_);by_cases c:1=b.size
 ·rw[hZ (by simpa using c)];exact Yh (fin _ (adg st) (C3 m c))
 ·rw[hV (by simpa using c)];by_cases c2:0+1=a.size
  ·rw[hZ (by simpa using c2)];exact Yh (fin _ (adg st) (R.fin m c2))
  ·rw[hV (by simpa using c2)];refine Yc (adt ?_);refine Yc (aaS (Zx (I:=λx d aZ=>(∃g,aZ=d7 st g)/\d.1=none/\LI key (a.toList++b.toList) a b d.2.1 d.2.2.1 d.2.2.2.1/\x<=d.2.2.1+d.2.2.2.1)
    (Q:=λd aZ=>(∃g,aZ=d7 st g)/\∃r,d.1=some r/\sI key (a.toList++b.toList) r) ?step ?fin ⟨⟨adg st,rfl⟩,rfl,⟨by simp only;lia,by simp only;lia,m⟩,by simp only;lia⟩) ?post)
   case fin=>
    rintro d aZ ⟨hs',e1,e2,e3⟩;have:=e2.ha;have:=e2.hb;lia
   case step=>
    rintro x d aZ _ hx ⟨hs',e1,e2,e3⟩;refine aaS (Og C R hs' kd e2) λr O9 hr=>?_;obtain⟨cL,hr⟩:=hr;cases r with
    |done d'=>exact⟨cL,hr⟩
    |yield d'=>exact⟨cL,hr.1,hr.2.1,by have:=hr.2.2;lia⟩
   case post=>
    rintro d aZ ⟨⟨g,rfl⟩,r,e,hr⟩;obtain⟨dr,d'⟩:=d;dsimp only at e ⊢;subst e;exact Yh (fin r g hr)
end
end Hc.Ts
namespace Hc.Ts
noncomputable def uD:Array Yr->Array Yr->StateT Yp Sem (Array Yr):=sortPriv% PySem.Builtin.mergeHi
noncomputable abbrev Mw:=Option (Array Yr)×Nat×Nat×Array Yr×Nat×Nat×Nat
noncomputable abbrev Pr:=Option (Array Yr)×Nat×Nat×Array Yr×Nat×Nat
noncomputable abbrev Se:=Option (Array Yr)×Nat×Nat×Array Yr×Nat
noncomputable def iz (a b out:Array Yr)(na nb:Nat):Array Yr:=a.extract 0 na++b.extract 0 nb++out.reverse
noncomputable def kv (a b out:Array Yr)(na nb:Nat):Array Yr:=b.extract 0 nb++a.extract 0 na++out.reverse
noncomputable def Kq (a b out:Array Yr)(na nb g k k1:Nat):StateT Yp Sem (ForInStep Mw):=do
 let x ←adq a (na-1)
 if (na-1==0)=true then pure (.done (some (iz a b (out.push x) (na-1) nb),na-1,nb,out.push x,g,k,k1))
 else if (decide (k<7)&&decide (k1<7))=true then pure (.done (none,na-1,nb,out.push x,g,k,k1))
 else pure (.yield (none,na-1,nb,out.push x,g,k,k1))
noncomputable def Kr (a b out:Array Yr)(na nb g k bc:Nat):StateT Yp Sem (ForInStep Mw):=do
 let y ←adq b (nb-1)
 if (nb-1==1)=true then pure (.done (some (kv a b (out.push y) na (nb-1)),na,nb-1,out.push y,g,k,bc))
 else do
  let x ←adq a (na-1)
  let some pP ←gT true x b 0 (nb-1) (nb-1-1)|pure (.done (some (iz a b (out.push y) na (nb-1)),na,nb-1,out.push y,g,k,bc))
  if nb-1-pP>0 then
   if (pP==1)=true then pure (.done (some (kv a b (out.push y++(b.extract pP (nb-1)).reverse) na pP),na,pP,out.push y++(b.extract pP (nb-1)).reverse,g,k,nb-1-pP))
   else if (pP==0)=true then pure (.done (some (iz a b (out.push y++(b.extract pP (nb-1)).reverse) na pP),na,pP,out.push y++(b.extract pP (nb-1)).reverse,g,k,nb-1-pP))
   else Kq a b (out.push y++(b.extract pP (nb-1)).reverse) na pP g k (nb-1-pP)
  else Kq a b (out.push y) na (nb-1) g k (nb-1-pP)
noncomputable def Ks (a b out:Array Yr)(na nb g ac bc:Nat):StateT Yp Sem (ForInStep Mw):=do
 cQ g
 let y ←adq b (nb-1)
 let some wW ←gT false y a 0 na (na-1)|pure (.done (some (iz a b out na nb),na,nb,out,g,ac,bc))
 if na-wW>0 then
  if (wW==0)=true then pure (.done (some (iz a b (out++(a.extract wW na).reverse) wW nb),wW,nb,out++(a.extract wW na).reverse,g,na-wW,bc))
  else Kr a b (out++(a.extract wW na).reverse) wW nb g (na-wW) bc
 else Kr a b out na nb g (na-wW) bc
noncomputable def Tx (a b:Array Yr)(_:Nat)(c:Mw):StateT Yp Sem (ForInStep Mw):=
 if c.2.2.2.2.1>1 then Ks a b c.2.2.2.1 c.2.1 c.2.2.1 (c.2.2.2.2.1-1) c.2.2.2.2.2.1 c.2.2.2.2.2.2
 else Ks a b c.2.2.2.1 c.2.1 c.2.2.1 c.2.2.2.2.1 c.2.2.2.2.2.1 c.2.2.2.2.2.2
noncomputable def Tz (a b:Array Yr)(g:Nat)(_:Nat)(c:Pr):StateT Yp Sem (ForInStep Pr):=do
 let y ←adq b (c.2.2.1-1)
 let x ←adq a (c.2.1-1)
 let some aWins ←lt' y x|pure (.done (some (iz a b c.2.2.2.1 c.2.1 c.2.2.1),c.2.1,c.2.2.1,c.2.2.2.1,c.2.2.2.2.1,c.2.2.2.2.2))
 if aWins=true then do
  let x ←adq a (c.2.1-1)
  if (c.2.1-1==0)=true then pure (.done (some (iz a b (c.2.2.2.1.push x) (c.2.1-1) c.2.2.1),c.2.1-1,c.2.2.1,c.2.2.2.1.push x,c.2.2.2.2.1+1,0))
  else if c.2.2.2.2.1+1≥g then pure (.done (none,c.2.1-1,c.2.2.1,c.2.2.2.1.push x,c.2.2.2.2.1+1,0))
  else pure (.yield (none,c.2.1-1,c.2.2.1,c.2.2.2.1.push x,c.2.2.2.2.1+1,0))
 else do
  let y ←adq b (c.2.2.1-1)
  if (c.2.2.1-1==1)=true then pure (.done (some (kv a b (c.2.2.2.1.push y) c.2.1 (c.2.2.1-1)),c.2.1,c.2.2.1-1,c.2.2.2.1.push y,0,c.2.2.2.2.2+1))
  else if c.2.2.2.2.2+1≥g then pure (.done (none,c.2.1,c.2.2.1-1,c.2.2.2.1.push y,0,c.2.2.2.2.2+1))
  else pure (.yield (none,c.2.1,c.2.2.1-1,c.2.2.2.1.push y,0,c.2.2.2.2.2+1))
noncomputable def TB (a b:Array Yr)(_:Nat)(c:Se):StateT Yp Sem (ForInStep Se):=do
 let d ←forIn [0:a.size+b.size] (none,c.2.1,c.2.2.1,c.2.2.2.1,0,0) (Tz a b c.2.2.2.2)
 match d.1 with
 |some r=>pure (.done (some r,d.2.1,d.2.2.1,d.2.2.2.1,c.2.2.2.2))
 |none=>do
  liftM (rule "list.sort.gallop")
  let e ←forIn [0:a.size+b.size] (none,d.2.1,d.2.2.1,d.2.2.2.1,c.2.2.2.2+1,d.2.2.2.2.1,d.2.2.2.2.2) (Tx a b)
  match e.1 with
  |some r=>pure (.done (some r,e.2.1,e.2.2.1,e.2.2.2.1,e.2.2.2.2.1))
  |none=>do
   cQ (e.2.2.2.2.1+1)
   pure (.yield (none,e.2.1,e.2.2.1,e.2.2.2.1,e.2.2.2.2.1+1))
theorem xv (a b:Array Yr):uD a b=(do
  liftM (rule "list.sort.merge-hi")
  let x ←adq a (a.size-1)
  if (a.size-1==0)=true then pure (iz a b (List.toArray [x]) (a.size-1) b.size)
  else if (b.size==1)=true then pure (kv a b (List.toArray [x]) (a.size-1) b.size)
  else do
   let st ←get
   let c ←forIn [0:a.size+b.size] ((none,a.size-1,b.size,(List.toArray [x]),adg st):Se) (TB a b)
   match c.1 with
   |some r=>pure r
   |none=>liftM (abI "internal:list.sort.merge-bound")):=by kernel_rfl
section
variable {A:YG}{O:adK}{key:Yr->O.α}{knd:abF}{D:Yr->Prop}
def xw (a:Array Yr)(n:Nat):(a.extract 0 n).toList=a.toList.take n:=by
 rw[aaZ,aaY];rfl
def xx (a:Array Yr)(i n:Nat):(a.extract i n).toList=(a.toList.take n).drop i:=by
 rw[aaZ,aaY,List.drop_take]
def zB (a b out:Array Yr)(na nb:Nat):(iz a b out na nb).toList=(a.toList.take na++b.toList.take nb)++out.toList.reverse:=by
 unfold iz;rw[Y9,Y9,xw,xw,aby]
def Ew (a b out:Array Yr)(na nb:Nat):(kv a b out na nb).toList=(b.toList.take nb++a.toList.take na)++out.toList.reverse:=by
 unfold kv;rw[Y9,Y9,xw,xw,aby]
theorem qg (h0:0<n)(h:n-1<l.length):l.take n=l.take (n-1)++[l[n-1]]:=by
 obtain⟨m,rfl⟩:∃m,n=m+1:=⟨n-1,(by lia)⟩;simp
def uE (h:k<=n):l.take n=l.take k++(l.take n).drop k:=by
 conv=>lhs;rw[←YJ k (l.take n)]
 rw[List.take_take,ZF h]
structure HI (key:Yr->O.α)(T:List Yr)(a b out:Array Yr)(na nb:Nat):Prop where
 a0:0<na
 a1:na<=a.size
 b0:1<nb
 b1:nb<=b.size
 mh:MH key T (a.toList.take na) (b.toList.take nb) out.toList.reverse
structure HR (key:Yr->O.α)(D:Yr->Prop)(a b:Array Yr):Prop where
 da:∀x∈a.toList,D x
 db:∀x∈b.toList,D x
 first:∀y,b.toList[0]? = some y->∀x∈a.toList,O.kle (key y) (key x)
variable {a b out:Array Yr}{na nb:Nat}
theorem HR.fin (R:HR key D a b)(h:MH key T (a.toList.take na) (b.toList.take nb) out.toList.reverse)(e:nb=1):sI key T (kv a b out na nb):=by
 unfold sI;rw[Ew];refine h.first λy hy x hx=>?_
 subst e;cases hb:b.toList with
 |nil=>rw[hb] at hy;cases hy
 |cons z r=>
  rw[hb] at hy;have:y=z:=by simpa using hy
  subst this;exact R.first y (by rw[hb];rfl) x (Zq hx)
theorem xy (h:MH key T (a.toList.take na) (b.toList.take nb) out.toList.reverse)(e:na=0):sI key T (iz a b out na nb):=by
 subst e;unfold sI;rw[zB];rw[List.take_zero] at h ⊢;rw[ZH];exact h.endB
theorem Oh (h:MH key T (a.toList.take na) (b.toList.take nb) out.toList.reverse)(e:nb=0):sI key T (iz a b out na nb):=by
 subst e;unfold sI;rw[zB];rw[List.take_zero] at h ⊢;rw[Yu];exact h.endA
theorem ja (h:jB key (l.take n))(h0:0<n)(hl:n-1<l.length):∀x∈l.take n,O.kle (key x) (key l[n-1]):=by
 intro x hx;rw[qg h0 hl] at h hx;rcases Yk.mp hx with hx|hx
 ·exact (bZ.mp h).2.2 x hx _ (by simp)
 ·rw[Yf] at hx;subst hx;exact ZI _
theorem BH (h:MH key T (a.toList.take na) (b.toList.take nb) out.toList.reverse)(h0:0<na)(hl:na-1<a.toList.length)(hx:∀y∈b.toList.take nb,O.kle (key y) (key a.toList[na-1])):MH key T (a.toList.take (na-1)) (b.toList.take nb) (out.push a.toList[na-1]).toList.reverse:=by
 rw[aax,abK];rw[qg h0 hl] at h;exact h.stepA λy hy x vk=>by grind
theorem Hr (h:MH key T (a.toList.take na) (b.toList.take nb) out.toList.reverse)(h0:0<nb)(hl:nb-1<b.toList.length)(hx:∀x∈a.toList.take na,O.kle (key x) (key b.toList[nb-1])):MH key T (a.toList.take na) (b.toList.take (nb-1)) (out.push b.toList[nb-1]).toList.reverse:=by
 rw[aax,abK];rw[qg h0 hl] at h;exact h.stepB λx vk y hy=>by rw[Yf] at hy;subst hy;exact hx x vk
def HE (key:Yr->O.α)(T:List Yr)(a b:Array Yr)(n:Nat)(dv:Yp)(c:Mw)(st:Yp):Prop:=
 (∃g,st=d7 dv g)/\((∃r,c.1=some r/\sI key T r)\/(c.1=none/\HI key T a b c.2.2.2.1 c.2.1 c.2.2.1/\c.2.1+c.2.2.1<=n))
def HS (key:Yr->O.α)(T:List Yr)(a b:Array Yr)(n:Nat)(dv:Yp)(r:ForInStep Mw)(st:Yp):Prop:=
 match r with
 | .done c=>HE key T a b n dv c st
 | .yield c=>HE key T a b n dv c st/\c.1=none
theorem C7 (R:HR key D a b){k1:Nat}{st dv:Yp}(g_:∃g,st=d7 dv g)(h:HI key T a b out na nb)(hn:na+nb<=n)(hx:∀(hl:na-1<a.toList.length),∀y∈b.toList.take nb,O.kle (key y) (key a.toList[na-1])) :
  wpS M A E s (Kq a b out na nb g k k1) (HS key T a b n dv) st:=by
 have hl:na-1<a.toList.length:=by have:=h.a0;have:=h.a1;rw[X0];lia
 have m:=BH h.mh h.a0 hl (hx hl);unfold Kq;refine Yc (cy (XN hl) ?_);by_cases c:na-1=0
 ·rw[hZ (by simpa using c)];exact Yh ⟨g_,.inl ⟨_,rfl,xy m c⟩⟩
 ·rw[hV (by simpa using c)];have L:HI key T a b (out.push a.toList[na-1]) (na-1) nb:=⟨(by lia),by have:=h.a1;lia,h.b0,h.b1,m⟩;by_cases c2:(decide (k<7)&&decide (k1<7))=true
  ·rw[hZ c2];exact Yh ⟨g_,.inr ⟨rfl,L,by simp only;lia⟩⟩
  ·rw[hV c2];exact Yh ⟨⟨g_,.inr ⟨rfl,L,by simp only;lia⟩⟩,rfl⟩
theorem C8 (C:mX M A E s O key knd D)(R:HR key D a b){st dv:Yp}(g_:∃g,st=d7 dv g)(kd:Zs dv=knd)(h:HI key T a b out na nb)(hn:na+nb<=n)(hx:∀(hl:nb-1<b.toList.length),∀x∈a.toList.take na,O.kle (key x) (key b.toList[nb-1])) :
  wpS M A E s (Kr a b out na nb g k bc) (HS key T a b n dv) st:=by
 have nY:nb-1<b.toList.length:=by have:=h.b0;have:=h.b1;rw[X0];lia
 have sf:na-1<a.toList.length:=by have:=h.a0;have:=h.a1;rw[X0];lia
 have b0:=h.b0;have b1:=h.b1;have a0:=h.a0;have a1:=h.a1;have m:=Hr h.mh (by lia) nY (hx nY);have IP:Zs st=knd:=by obtain⟨g,rfl⟩:=g_;exact kd
 unfold Kr;refine Yc (cy (XN nY) ?_);by_cases c:nb-1=1
 ·rw[hZ (by simpa using c)];exact Yh ⟨g_,.inl ⟨_,rfl,R.fin m c⟩⟩
 ·rw[hV (by simpa using c)];refine Yc (cy (XN sf) ?_);have du:(b.toList.take (nb-1)).length=nb-1:=by rw[Ys,X0];lia
  have IQ:=λQ=>nH C (Q:=Q) (kx:=a.toList[na-1]) (arr:=b) (base:=0) (hint:=nb-1-1) (seg:=b.toList.take (nb-1)) (st:=st) (λi x e=>by
   rw[aaM];rw[ab5] at e;split at e
   ·exact e
   ·cases e) m.sb (λx hx=>R.db x (Zq hx)) (R.da _ (YU sf)) IP (by rw[du];lia)
  rw[du] at IQ;refine Yc (IQ _ λpP EY p1 p2=>?_);dsimp only;rw[List.take_take,ZF EY] at p1;by_cases c1:nb-1-pP>0
  ·rw[hZ c1];have m2:MH key T (a.toList.take na) (b.toList.take pP) (out.push b.toList[nb-1]++(b.extract pP (nb-1)).reverse).toList.reverse:=by
    rw[Y9,aby,abK,List.reverse_reverse,xx];have m':=m;rw[uE (l:=b.toList) (n:=nb-1) (k:=pP) (by lia)] at m';exact m'.stepB λx vk y hy=>YL (ja h.mh.sa a0 sf x vk) (p2 y hy)
   by_cases c2:pP=1
   ·rw[hZ (by simpa using c2)];exact Yh ⟨g_,.inl ⟨_,rfl,R.fin m2 c2⟩⟩
   ·rw[hV (by simpa using c2)];by_cases c3:pP=0
    ·rw[hZ (by simpa using c3)];exact Yh ⟨g_,.inl ⟨_,rfl,Oh m2 c3⟩⟩
    ·rw[hV (by simpa using c3)];refine C7 R g_ ⟨a0,a1,(by lia),(by lia),m2⟩ (by lia) λhl y hy=>Y8 (p1 y hy)
  ·rw[hV c1];have:pP=nb-1:=(by lia)
   subst this;refine C7 R g_ ⟨a0,a1,(by lia),(by lia),m⟩ (by lia) λhl y hy=>Y8 (p1 y hy)
theorem C9 (C:mX M A E s O key knd D)(R:HR key D a b){ac:Nat}{st dv:Yp}(g_:∃g,st=d7 dv g)(kd:Zs dv=knd)(h:HI key T a b out na nb)(hn:na+nb<=n) :
  wpS M A E s (Ks a b out na nb g ac bc) (HS key T a b n dv) st:=by
 have nY:nb-1<b.toList.length:=by have:=h.b0;have:=h.b1;rw[X0];lia
 have sf:na-1<a.toList.length:=by have:=h.a0;have:=h.a1;rw[X0];lia
 have b0:=h.b0;have b1:=h.b1;have a0:=h.a0;have a1:=h.a1;unfold Ks cQ;have vJ:∃g',d7 st g=d7 dv g':=by grind
 have IP:Zs (d7 st g)=knd:=by lia
 refine Yc (abQ ?_);refine Yc (cy (XN nY) ?_);have du:(a.toList.take na).length=na:=by rw[Ys,X0];lia
 have IQ:=λQ=>nG C (Q:=Q) (kx:=b.toList[nb-1]) (arr:=a) (base:=0) (hint:=na-1) (seg:=a.toList.take na) (st:=d7 st g) (λi x e=>by
   grind) h.mh.sa (λx hx=>R.da x (Zq hx)) (R.db _ (YU nY)) IP (by lia)
 rw[du] at IQ;refine Yc (IQ _ λwW hk p1 p2=>?_);dsimp only;rw[List.take_take,ZF hk] at p1;by_cases c1:na-wW>0
 ·rw[hZ c1];have m2:MH key T (a.toList.take wW) (b.toList.take nb) (out++(a.extract wW na).reverse).toList.reverse:=by
   rw[Y9,aby,abK,List.reverse_reverse,xx];have m':=h.mh;rw[uE (l:=a.toList) (n:=na) (k:=wW) (by lia)] at m';exact m'.stepA λy hy x hx=>YL (ja h.mh.sb (by lia) nY y hy) (Y8 (p2 x hx))
  by_cases c2:wW=0
  ·rw[hZ (by lia)];exact Yh ⟨vJ,.inl ⟨_,rfl,xy m2 c2⟩⟩
  ·rw[hV (by simpa using c2)];exact C8 C R vJ kd ⟨(by lia),(by lia),b0,b1,m2⟩ (by lia) λhl x hx=>p1 x hx
 ·rw[hV c1];have:wW=na:=(by lia)
  subst this;exact C8 C R vJ kd h hn λhl x hx=>p1 x hx
theorem Oi (C:mX M A E s O key knd D)(R:HR key D a b){c:Mw}{st dv:Yp}(g_:∃g,st=d7 dv g)(kd:Zs dv=knd)(h:HI key T a b c.2.2.2.1 c.2.1 c.2.2.1)(hn:c.2.1+c.2.2.1<=n) :
  wpS M A E s (Tx a b i c) (HS key T a b n dv) st:=by
 unfold Tx;split
 ·exact C9 C R g_ kd h hn
 ·exact C9 C R g_ kd h hn
theorem Oj (C:mX M A E s O key knd D)(R:HR key D a b){c:Pr}{st:Yp}{Q:ForInStep Pr->Yp->Prop}(kd:Zs st=knd)(h:HI key T a b c.2.2.2.1 c.2.1 c.2.2.1)(h1:∀d:Pr,(∃r,d.1=some r/\sI key T r)\/(d.1=none/\HI key T a b d.2.2.2.1 d.2.1 d.2.2.1/\c.2.1+c.2.2.1=d.2.1+d.2.2.1+1)->Q (.done d) st)(h2:∀d:Pr,d.1=none->HI key T a b d.2.2.2.1 d.2.1 d.2.2.1->c.2.1+c.2.2.1=d.2.1+d.2.2.1+1->Q (.yield d) st) :
  wpS M A E s (Tz a b g i c) Q st:=by
 obtain⟨r0,na,nb,out,ac,bc⟩:=c;dsimp only at h h1 h2 ⊢;have nY:nb-1<b.toList.length:=by have:=h.b0;have:=h.b1;rw[X0];lia
 have sf:na-1<a.toList.length:=by have:=h.a0;have:=h.a1;rw[X0];lia
 have b0:=h.b0;have b1:=h.b1;have a0:=h.a0;have a1:=h.a1;unfold Tz;dsimp only;refine Yc (cy (XN nY) ?_);refine Yc (cy (XN sf) ?_);refine Yc (C.lt _ _ st _ (R.db _ (YU nY)) (R.da _ (YU sf)) kd ?_);dsimp only;cases e:O.blt (key b.toList[nb-1]) (key a.toList[na-1]) with
 |true=>
  rw[hZ rfl];have m:=BH h.mh a0 sf λy hy=>YL (ja h.mh.sb (by lia) nY y hy) (Y8 e);refine Yc (cy (XN sf) ?_);by_cases c:na-1=0
  ·rw[hZ (by simpa using c)];exact Yh (h1 _ (.inl ⟨_,rfl,xy m c⟩))
  ·rw[hV (by simpa using c)];have L:HI key T a b (out.push a.toList[na-1]) (na-1) nb:=⟨(by lia),(by lia),b0,b1,m⟩;split
   ·exact Yh (h1 _ (.inr ⟨rfl,L,by simp only;lia⟩))
   ·exact Yh (h2 _ rfl L (by simp only;lia))
 |false=>
  rw[hV XR];have m:=Hr h.mh (by lia) nY λx hx=>YL (ja h.mh.sa a0 sf x hx) (show O.kle _ _ from e);refine Yc (cy (XN nY) ?_);by_cases c:nb-1=1
  ·rw[hZ (by simpa using c)];exact Yh (h1 _ (.inl ⟨_,rfl,R.fin m c⟩))
  ·rw[hV (by simpa using c)];have L:HI key T a b (out.push b.toList[nb-1]) na (nb-1):=⟨a0,a1,(by lia),(by lia),m⟩;split
   ·exact Yh (h1 _ (.inr ⟨rfl,L,by simp only;lia⟩))
   ·exact Yh (h2 _ rfl L (by simp only;lia))
theorem Ol (C:mX M A E s O key knd D)(R:HR key D a b){c:Se}{st dv:Yp}(g_:∃g,st=d7 dv g)(kd:Zs dv=knd)(h:HI key T a b c.2.2.2.1 c.2.1 c.2.2.1) :
  wpS M A E s (TB a b i c) (λr aZ=>(∃g,aZ=d7 dv g)/\match r with
   | .done d=>∃r,d.1=some r/\sI key T r
   | .yield d=>d.1=none/\HI key T a b d.2.2.2.1 d.2.1 d.2.2.1/\d.2.1+d.2.2.1+1<=c.2.1+c.2.2.1) st:=by
 obtain⟨r0,na,nb,out,g0⟩:=c;dsimp only at h ⊢;have IP:Zs st=knd:=by lia
 have b0:=h.b0;have b1:=h.b1;have a0:=h.a0;have a1:=h.a1;unfold TB;dsimp only;have hs:1<=a.size+b.size:=(by lia)
 refine Yc (aaS (Zx (I:=λx d aZ=>aZ=st/\d.1=none/\HI key T a b d.2.2.2.1 d.2.1 d.2.2.1/\na+nb=d.2.1+d.2.2.1+x)
  (Q:=λd aZ=>aZ=st/\((∃r,d.1=some r/\sI key T r)\/(d.1=none/\HI key T a b d.2.2.2.1 d.2.1 d.2.2.1/\d.2.1+d.2.2.1+1<=na+nb))) ?step ?fin ⟨rfl,rfl,h,by rfl⟩) ?post)
 case fin=>
  lia
 case step=>
  rintro x d aZ _ hx ⟨rfl,e1,e2,e3⟩;refine Oj C R IP e2 (λd' hd=>?_) λd' p1 p2 p3=>?_
  ·grind
  lia
 case post=>
  rintro d aZ ⟨rfl,hd⟩;obtain⟨dr,dna,dnb,dout,dac,dbc⟩:=d;dsimp only at hd ⊢;rcases hd with⟨r,rfl,hr⟩|⟨rfl,hL,hn⟩
  ·exact Yh ⟨g_,r,rfl,hr⟩
  ·dsimp only;refine Yc (wpS_lift (aa5 ⟨rfl,?_⟩));refine Yc (aaS (Zx (I:=λx d aZ=>HE key T a b (na+nb-1) dv d aZ/\d.1=none)
    (Q:=λd aZ=>HE key T a b (na+nb-1) dv d aZ) ?_ (λd aZ h=>h.1) ⟨⟨g_,.inr ⟨rfl,hL,by lia⟩⟩,rfl⟩) ?_)
   ·rintro x d aZ _ hx ⟨⟨hs',hd⟩,e1⟩;rcases hd with⟨r,e2,_⟩|⟨_,e3,e4⟩
    ·lia
    ·refine aaS (Oi C R hs' kd e3 e4) λr O9 hr=>?_;cases r with
     |done d'=>exact hr
     |yield d'=>exact hr
   ·rintro d aZ ⟨hs',hd⟩;obtain⟨er,ena,enb,eout,eg,eac,ebc⟩:=d;dsimp only at hd ⊢;rcases hd with⟨r,rfl,hr⟩|⟨rfl,hL2,MT⟩
    ·exact Yh ⟨hs',r,rfl,hr⟩
    ·dsimp only;unfold cQ;refine Yc (abQ (Yh ⟨?_,rfl,hL2,by lia⟩));grind
theorem BI (C:mX M A E s O key knd D)(R:HR key D a b){st:Yp}{Q:Array Yr->Yp->Prop}(kd:Zs st=knd)(sa:jB key a.toList)(sb:jB key b.toList)(ha:0<a.size)(hb:0<b.size)
  (last:∀i,i+1=a.size->∀y∈b.toList,∀x,a.toList[i]? = some x->O.kle (key y) (key x))
  (h:∀r g,r.toList.Perm (a.toList++b.toList)->jB key r.toList->Q r (d7 st g)):wpS M A E s (uD a b) Q st:=by
 have sf:a.size-1<a.toList.length:=by rw[X0];lia
 have ta:a.toList.take a.size=a.toList:=ZA (by simp);have tb:b.toList.take b.size=b.toList:=ZA (by simp);have m:MH key (a.toList++b.toList) (a.toList.take (a.size-1)) (b.toList.take b.size) ((List.toArray [a.toList[a.size-1]]):Array Yr).toList.reverse:=by
  have m0:MH key (a.toList++b.toList) (a.toList.take a.size) (b.toList.take b.size) ((List.toArray []):Array Yr).toList.reverse:=by
   rw[ta,tb];exact⟨by simp,List.Pairwise.nil,sa,sb,λx _ y hy=>absurd hy (by simp),λx _ y hy=>absurd hy (by simp)⟩
  exact BH m0 ha sf (λy hy=>last (a.size-1) (by lia) y (Zq hy) _ (XN sf))
 have fin:∀r g,sI key (a.toList++b.toList) r->Q r (d7 st g):=λr g hr=>h r g hr.1 hr.2;rw[xv];refine Yc (wpS_lift (aa5 ⟨rfl,?_⟩));refine Yc (cy (XN sf) ?_);by_cases c:a.size-1=0
 ·rw[hZ (by simpa using c)];exact Yh (fin _ (adg st) (xy m c))
 ·rw[hV (by simpa using c)];by_cases c2:b.size=1
  ·rw[hZ (by simpa using c2)];exact Yh (fin _ (adg st) (R.fin m c2))
  ·rw[hV (by simpa using c2)];refine Yc (adt ?_);refine Yc (aaS (Zx (I:=λx d aZ=>(∃g,aZ=d7 st g)/\d.1=none/\HI key (a.toList++b.toList) a b d.2.2.2.1 d.2.1 d.2.2.1/\d.2.1+d.2.2.1+x<=a.size+b.size)
    (Q:=λd aZ=>(∃g,aZ=d7 st g)/\∃r,d.1=some r/\sI key (a.toList++b.toList) r) ?step ?fin ⟨⟨adg st,rfl⟩,rfl,⟨by simp only;lia,by simp only;lia,by simp only;lia,by simp only;lia,m⟩,by simp only;lia⟩) ?post)
   case fin=>
    rintro d aZ ⟨hs',e1,e2,e3⟩;have:=e2.a0;have:=e2.b0;lia
   case step=>
    rintro x d aZ _ hx ⟨hs',e1,e2,e3⟩;refine aaS (Ol C R hs' kd e2) λr O9 hr=>?_;obtain⟨cL,hr⟩:=hr;cases r with
    |done d'=>exact⟨cL,hr⟩
    |yield d'=>exact⟨cL,hr.1,hr.2.1,by have:=hr.2.2;lia⟩
   case post=>
    rintro d aZ ⟨⟨g,rfl⟩,r,e,hr⟩;obtain⟨dr,d'⟩:=d;dsimp only at e ⊢;subst e;exact Yh (fin r g hr)
end
end Hc.Ts
namespace Hc.Ts
noncomputable def mw (l:List Yr)(sa:Nat)(a:Array Yr):Array Yr:=l.zipIdx.foldl (λa (p,j)=>a.setIfInBounds (sa+j) p) a
noncomputable def Om (x y:Array Yr)(sa na nb:Nat):StateT Yp Sem Bool:=do
 let merged ←if na<=nb then uB x y else uD x y
 modify λs=>setArr s (mw merged.toList sa (YO s))
 let s ←get
 pure (abG s).isNone
def zC (i:Nat):mergeAt' i=(do
 let st ←get
 let (some (p,n,pw),some (q,m,_)):=((YK st)[i]?,(YK st)[i+1]?)|abI "internal:list.sort.pending"
 set (setPending st (((YK st).setIfInBounds i (p,n+m,pw)).eraseIdxIfInBounds (i+1)))
 let some k ←gT false (←adq (YO st) q) (YO st) p n 0|return false
 let (p,n):=(p+k,n-k)
 if n==0 then return true
 let some m ←gT true (←adq (YO st) (p+n-1)) (YO st) q m (m-1)|return false
 if m==0 then return true
 Om ((YO st).extract p q) ((YO st).extract q (q+m)) p n m):=by kernel_rfl
section
variable {A:YG}{O:adK}{key:Yr->O.α}{knd:abF}{D:Yr->Prop}
theorem uF:∀(l m P S:List Yr) (n sa:Nat) (a:Array Yr),m.length=l.length->sa+n=P.length->a.toList=P++(m++S)->((l.zipIdx n).foldl (λa (p,j)=>a.setIfInBounds (sa+j) p) a).toList=P++(l++S)
 | [],m,P,S,n,sa,a,h1,h2,h3=>by
  have:m=[]:=ZK h1;subst this;exact h3
 |p::l,[],P,S,n,sa,a,h1,h2,h3=>by cases h1
 |p::l,q::m,P,S,n,sa,a,h1,h2,h3=>by
  rw[List.zipIdx_cons,List.foldl_cons];have h4:(a.setIfInBounds (sa+n) p).toList=(P++[p])++(m++S):=by
   rw[ac4,h3,h2,List.cons_append,List.set_append_right _ _ (X6 _),ade,Yo];simp
  have:=uF l m (P++[p]) S (n+1) sa (a.setIfInBounds (sa+n) p) (by simpa using h1) (by rw[XW,ZP];lia) h4;rw[this];simp
theorem Ex {m P:List Yr}{sa:Nat}{a:Array Yr}(h1:m.length=l.length)(h2:sa=P.length)(h3:a.toList=P++(m++S)):(mw l sa a).toList=P++(l++S):=
 uF l m P S 0 sa a h1 (by lia) h3
theorem Kt (C:mX M A E s O key knd D){P x y:List Yr}{sa:Nat}{st:Yp}{Q:Bool->Yp->Prop}{ax ay:Array Yr}{na nb:Nat}(ex:ax.toList=x)(ey:ay.toList=y)(hf:abG st=none)(kd:Zs st=knd)(ha:(YO st).toList=P++((x++y)++S))(hs:sa=P.length)(dx:∀p∈x,D p)(dy:∀p∈y,D p)(sx:jB key x)(sy:jB key y)(x0:0<x.length)(y0:0<y.length)(first:∀q,y[0]? = some q->∀p∈x,O.kle (key q) (key p))(last:∀i,i+1=x.length->∀q∈y,∀p,x[i]? = some p->O.kle (key q) (key p))(h:∀z g,z.Perm (x++y)->jB key z->Q true (d7 (setArr st (P++(z++S)).toArray) g)):wpS M A E s (Om ax ay sa na nb) Q st:=by
 subst ex;subst ey;have fin:∀(r:Array Yr) (g:Nat),r.toList.Perm (ax.toList++ay.toList)->jB key r.toList->wpS M A E s (do
   modify λs=>setArr s (mw r.toList sa (YO s))
   let s ←get
   pure (abG s).isNone) Q (d7 st g):=by
  intro r g hp hr;refine Yc (abQ ?_);refine Yc (adt (Yh ?_));have e1:mw r.toList sa (YO st)=(P++(r.toList++S)).toArray:=by
   apply Array.ext';rw[Ex (m:=ax.toList++ay.toList) hp.length_eq.symm hs ha]
  grind
 unfold Om;dsimp only;split
 ·refine Yc ?_;exact BG C ⟨dx,dy,λi hi=>last i (by rw[X0];exact hi)⟩ kd sx sy (by simpa using x0) (by simpa using y0) first fin
 ·refine Yc ?_;exact BI C ⟨dx,dy,first⟩ kd sx sy (by simpa using x0) (by simpa using y0) (λi hi=>last i (by rw[X0];exact hi)) fin
def Ku {σ:Type}{st aZ:σ}{Q:PUnit->σ->Prop}(h:Q ⟨⟩ aZ):wpS M A E s (set aZ:StateT σ Sem PUnit) Q st:=by
 unfold wpS;rw[StateT.run_set];exact XS ⟨rfl,h⟩
theorem xA {P x R:List Yr}(h:l=P++(x++R))(i:Nat)(p:Yr)(e:x[i]? = some p):l[P.length+i]? = some p:=by
 have hi:i<x.length:=by
  rcases aaO i x.length with h|h
  ·exact h
  ·rw[abq h] at e;cases e
 rw[h,Y3 (Zm _ _),ZX,Y7 hi,e]
noncomputable def wz (p:Array (Nat×Nat×Nat))(i sa n pw:Nat):Array (Nat×Nat×Nat):=(p.setIfInBounds i (sa,n,pw)).eraseIdxIfInBounds (i+1)
theorem BJ (C:mX M A E s O key knd D){P x y:List Yr}{pw pw2:Nat}{st:Yp}{Q:Bool->Yp->Prop}(hf:abG st=none)(kd:Zs st=knd)(ha:(YO st).toList=P++(x++(y++S)))(h1:(YK st)[i]? = some (P.length,x.length,pw))(h2:(YK st)[i+1]? = some (P.length+x.length,y.length,pw2))(dx:∀p∈x,D p)(dy:∀p∈y,D p)(sx:jB key x)(sy:jB key y)(x0:0<x.length)(y0:0<y.length)(h:∀z g,z.Perm (x++y)->jB key z->Q true (d7 (setArr (setPending st (wz (YK st) i P.length (x.length+y.length) pw)) (P++(z++S)).toArray) g)):wpS M A E s (mergeAt' i) Q st:=by
 have all:∀(hz:jB key (x++y)),Q true (setPending st (wz (YK st) i P.length (x.length+y.length) pw)):=by
  intro hz;have:=h (x++y) (adg st) (ZE _) hz;have e:(P++(x++y++S)).toArray=YO st:=by
   apply Array.ext';rw[ha,Yi]
  rw[e] at this;exact this
 have PH:(YO st).toList=(P++x)++(y++S):=by rw[ha,Yi]
 rw[zC];refine Yc (adt ?_);rw[h1,h2];dsimp only;refine Yc (Ku ?_);have ey:(YO st).toList[P.length+x.length]? = some y[0]:=by
  have:=xA PH 0 y[0] (XN y0);rw[XW] at this;exact this
 refine Yc (cy ey ?_);refine Yc (nG C (seg:=x) (λi p e=>xA ha i p e) sx dx (dy _ (YU y0)) kd x0 λk hk p1 p2=>?_);dsimp only;have yh:∀q∈y,O.kle (key y[0]) (key q):=by
  have:=lC (l:=y) (i:=0) (key:=key) (by simpa using sy) y0;simpa using this
 by_cases c:x.length-k=0
 ·rw[hZ (by simpa using c)];refine Yh (all ?_);have:x.take k=x:=ZA (by lia);rw[this] at p1;exact bZ.mpr ⟨sx,sy,λp hp q hq=>YL (p1 p hp) (yh q hq)⟩
 ·rw[hV (by simpa using c)];have Su:x.length-1<x.length:=(by lia)
  have WK:(YO st).toList[P.length+k+(x.length-k)-1]? = some x[x.length-1]:=by
   have:=xA ha (x.length-1) _ (XN Su);rw[show P.length+k+(x.length-k)-1=P.length+(x.length-1) by lia];exact this
  refine Yc (cy WK ?_);refine Yc (nH C (seg:=y) (λi p e=>by have:=xA PH i p e;rw[XW] at this;exact this) sy dy (dx _ (YU Su)) kd (by lia) λnb WL q1 q2=>?_);dsimp only;have M4:∀p∈x,O.kle (key p) (key x[x.length-1]):=by
   have:=ja (l:=x) (n:=x.length) (key:=key) (by rw[aam];exact sx) x0 Su;rw[aam] at this;exact this
  by_cases c2:nb=0
  ·rw[hZ (by simpa using c2)];refine Yh (all ?_);subst c2;exact bZ.mpr ⟨sx,sy,λp hp q hq=>YL (M4 p hp) (q2 q hq)⟩
  ·rw[hV (by simpa using c2)];have xs:x=x.take k++x.drop k:=(YJ k x).symm;have ys:y=y.take nb++y.drop nb:=(YJ nb y).symm;obtain⟨sx1,sx2,sx3⟩:=bZ.mp (xs▸sx);obtain⟨sy1,sy2,sy3⟩:=bZ.mp (ys▸sy);refine Kt C (P:=P++x.take k) (x:=x.drop k) (y:=y.take nb) (S:=y.drop nb++S) ?ex ?ey hf kd ?ha ?hs (λp hp=>dx p (aap hp)) (λp hp=>dy p (Zq hp)) sx2 sy1 (by rw[YR];lia) (by rw[Ys];lia) ?first ?last λz g hz sz=>?_
   case ex=>
    rw[xx,PH];rw[show P.length+x.length=(P++x).length by rw[XW]];rw[List.take_left,List.drop_append,abf (by lia),ZX];rfl
   case ey=>
    rw[xu,PH];rw[show P.length+x.length=(P++x).length by rw[XW],List.drop_left,List.take_append_of_le_length WL]
   case ha=>
    show (YO st).toList=_;rw[ha]
    conv=>lhs;rw[xs,ys]
    simp only[Yi]
   case hs=>rw[XW,Ys];lia
   case first=>
    intro q hq p hp;have:(y.take nb)[0]? = y[0]? := by rw[ab5,hZ (by lia)]
    rw[this,XN y0] at hq;injection hq with hq
    subst hq;exact Y8 (p2 p hp)
   case last=>
    intro i hi q hq p hp;rw[YR] at hi;rw[ab3,show k+i=x.length-1 by lia,XN Su] at hp;injection hp with hp
    subst hp;exact Y8 (q1 q hq)
   have mz:∀r∈z,r∈x.drop k\/r∈y.take nb:=λr hr=>Yk.mp (hz.mem_iff.mp hr);have sh:(x.take k++(z++y.drop nb)).Perm (x++y):=by
    have e:x++y=x.take k++((x.drop k++y.take nb)++y.drop nb):=by
     conv=>lhs;rw[xs,ys]
     simp only[Yi]
    rw[e];exact Zh _ (Zr _ hz)
   have WM:jB key (x.take k++(z++y.drop nb)):=by
    refine bZ.mpr ⟨sx1,bZ.mpr ⟨sz,sy2,λp hp q hq=>?_⟩,λp hp q hq=>?_⟩
    ·rcases mz p hp with hp|hp
     ·exact YL (M4 p (aap hp)) (q2 q hq)
     ·exact sy3 p hp q hq
    ·rcases Yk.mp hq with hq|hq
     ·rcases mz q hq with hq|hq
      ·exact sx3 p hp q hq
      ·exact YL (p1 p hp) (yh q (Zq hq))
     ·exact YL (p1 p hp) (yh q (aap hq))
   have:=h _ g sh WM;have e:P++(x.take k++(z++y.drop nb)++S)=P++x.take k++(z++(y.drop nb++S)):=by simp only[Yi]
   rw[e] at this;exact this
end
end Hc.Ts
namespace Hc.Ts
noncomputable def C_ (lo n m:Nat):StateT Yp Sem AscSt:=forIn [n:m] ((none,n):AscSt) λ_ c=>do
 let some sm ←ltAt' (lo+c.2) (lo+c.2-1)|pure (.done (some none,c.2))
 if sm=true then pure (.done (none,c.2)) else pure (.yield (none,c.2+1))
noncomputable def Dd (lo n m:Nat):StateT Yp Sem (Option Nat):=do
 acL lo (lo+n)
 let c ←C_ lo n m
 match c.1 with
 |some r=>pure r
 |none=>pure (some c.2)
noncomputable def Mx (lo:Nat)(c:DescSt):StateT Yp Sem (ForInStep DescSt):=do
 let some sm ←ltAt' (lo+c.2.1) (lo+c.2.1-1)|pure (.done (some none,c.2.1,c.2.2))
 if sm=true then
  if c.2.2>0 then do
   acL (lo+c.2.1-(c.2.2+1)) (lo+c.2.1)
   pure (.yield (none,c.2.1+1,0))
  else pure (.yield (none,c.2.1+1,0))
 else do
  let some lg ←ltAt' (lo+c.2.1-1) (lo+c.2.1)|pure (.done (some none,c.2.1,c.2.2))
  if lg=true then pure (.done (none,c.2.1,c.2.2)) else pure (.yield (none,c.2.1+1,c.2.2+1))
noncomputable def Hs (lo n m:Nat):StateT Yp Sem DescSt:=forIn [n:m] ((none,n,0):DescSt) λ_ c=>Mx lo c
noncomputable def De (lo n m:Nat):StateT Yp Sem (Option Nat):=do
 liftM (rule "list.sort.descending-run")
 let c ←Hs lo (n+1) m
 match c.1 with
 |some r=>pure r
 |none=>
  if c.2.2>0 then do
   acL (lo+c.2.1-(c.2.2+1)) (lo+c.2.1)
   Dd lo c.2.1 m
  else Dd lo c.2.1 m
theorem zD (lo m:Nat):countRun' lo m=(do
  let c ←C_ lo 1 m
  match c.1 with
  |some r=>pure r
  |none=>
   if (c.2==m)=true then pure (some c.2)
   else if c.2>1 then do
    let some rs ←ltAt' lo (lo+c.2-1)|pure none
    if rs=true then pure (some c.2)
    else do
     acL lo (lo+c.2)
     De lo c.2 m
   else De lo c.2 m):=by kernel_rfl
section
variable {A:YG}{O:adK}{key:Yr->O.α}{knd:abF}{D:Yr->Prop}{lo:Nat}{a0:Array Yr}{dv:Yp}
noncomputable def kx (key:Yr->O.α)(l:Array Yr)(i:Nat):O.α:=key ((l[i]?).getD (Value.none,Value.none))
theorem zE {l m:Array Yr}(h:l[i]? = m[j]?):kx key l i=kx key m j:=by unfold kx;rw[h]
theorem BK {l:Array Yr}(hm:lo+m<=l.size)(k:Nat):kx key (mirror l (lo+n) (lo+m) ((lo+m-(lo+n)) / 2)) (lo+k)=if n<=k/\k<m then kx key l (lo+(n+m-1-k)) else kx key l (lo+k):=by
 have e:=getElem?_mirror_all (i:=lo+n) hm (lo+k);by_cases c:n<=k/\k<m
 ·rw[hZ (by lia)] at e;rw[hZ c];grind[zE]
 ·rw[hV (by lia)] at e;rw[hV c];exact zE e
theorem gX {l:Array Yr}(hm:lo+m<=l.size)(he:∀k,n<=k->k<m->kx key l (lo+k)=kx key l (lo+m-1))(k:Nat):kx key (mirror l (lo+n) (lo+m) ((lo+m-(lo+n)) / 2)) (lo+k)=kx key l (lo+k):=by
 rw[BK hm];split
 ·rename_i c;rw[he _ (by lia) (by lia),he k c.1 c.2]
 ·rfl
theorem Ht {l:Array Yr}{p:Nat}(hp:lo+p<l.size)(hd:d<=p)(k:Nat):kx key (bubble l (lo+p) d) (lo+k)=if k=p-d then kx key l (lo+p) else if p-d<k/\k<=p then kx key l (lo+(k-1)) else kx key l (lo+k):=by
 have e:=getElem?_bubble hp d (by lia) (lo+k);by_cases c:k=p-d
 ·rw[hZ (by lia)] at e;rw[hZ c];exact zE e
 ·rw[hV (by lia)] at e;rw[hV c];by_cases c2:p-d<k/\k<=p
  ·rw[hZ (by lia)] at e;rw[hZ c2];exact zE (e.trans (by congr 1;lia))
  ·rw[hV (by lia)] at e;rw[hV c2];exact zE e
def EX (key:Yr->O.α)(lo:Nat)(l:Array Yr)(n:Nat):Prop:=∀i j,i<=j->j<n->O.kle (kx key l (lo+i)) (kx key l (lo+j))
def Pt (key:Yr->O.α)(lo:Nat)(l:Array Yr)(n:Nat):Prop:=∀i j,i<=j->j<n->O.kle (kx key l (lo+j)) (kx key l (lo+i))
structure SB (lo:Nat)(a0:Array Yr)(dv st:Yp):Prop where
 perm:(YO st).Perm a0
 same:∀k,k<lo->(YO st)[k]? = a0[k]?
 rest:st=setArr dv (YO st)
def SB.size {st:Yp}(h:SB lo a0 dv st):(YO st).size=a0.size:=h.perm.size_eq
theorem SB.put {st:Yp}(h:SB lo a0 dv st){l:Array Yr}(hp:l.Perm (YO st))(hs:∀k,k<lo->l[k]? = (YO st)[k]?):SB lo a0 dv (setArr st l):=by
 refine⟨hp.trans h.perm,λk hk=>(hs k hk).trans (h.same k hk),?_⟩;have:=h.rest;generalize YO st=z at this;subst this;rfl
theorem SB.mir {st:Yp}(h:SB lo a0 dv st)(hm:lo+m<=a0.size):SB lo a0 dv (setArr st (mirror (YO st) (lo+n) (lo+m) ((lo+m-(lo+n)) / 2))):=by
 refine h.put (mirror_perm _ _ _ _) λk hk=>?_;rw[getElem?_mirror_all (by rw[h.size];exact hm),hV (by lia)]
theorem SB.bub {st:Yp}(h:SB lo a0 dv st){p:Nat}(hp:lo+p<a0.size)(hd:d<=p):SB lo a0 dv (setArr st (bubble (YO st) (lo+p) d)):=by
 refine h.put (bubble_perm _ _ _) λk hk=>?_;rw[getElem?_bubble (by rw[h.size];exact hp) d (by lia),hV (by lia),hV (by lia)]
def SB.kind {st:Yp}(h:SB lo a0 dv st)(kd:Zs dv=knd):Zs st=knd:=by rw[h.rest];exact kd
theorem uG (C:mX M A E s O key knd D){st:Yp}{Q:Option Bool->Yp->Prop}(kd:Zs dv=knd)(hD:∀p∈a0.toList,D p)(hB:SB lo a0 dv st)(hi:i<a0.size)(hj:j<a0.size)(h:Q (some (O.blt (kx key (YO st) i) (kx key (YO st) j))) st):wpS M A E s (ltAt' i j) Q st:=by
 have fd:∀i,i<a0.size->∃p,(YO st)[i]? = some p/\D p/\kx key (YO st) i=key p:=λi hi=>by
  have EU:i<(YO st).size:=by rw[hB.size];exact hi
  refine⟨(YO st)[i],getElem?_pos _ i EU,hD _ ((ac5.mp hB.perm).mem_iff.mp (by simp)),?_⟩;unfold kx;rw[getElem?_pos _ i EU];rfl
 obtain⟨p,e1,d1,k1⟩:=fd i hi;obtain⟨q,e2,d2,k2⟩:=fd j hj;rw[k1,k2] at h;rw[ltAt'_eq];refine Yc (adt ?_);dsimp only;rw[elem'_eq,elem'_eq,e1,e2];refine Yc (Yh (Yc (Yh ?_)));exact C.lt p q st Q d1 d2 (hB.kind kd) h
def xB {st:Yp}{Q:Unit->Yp->Prop}(h:Q () (setArr st (mirror (YO st) i j ((j-i) / 2)))):wpS M A E s (acL i j) Q st:=by
 rw[reverseSlice'_eq];exact abQ h
theorem zF (C:mX M A E s O key knd D){st:Yp}{Q:AscSt->Yp->Prop}(kd:Zs dv=knd)(hD:∀p∈a0.toList,D p)(hm:lo+m<=a0.size)(n1:1<=n)(nm:n<=m)(hB:SB lo a0 dv st)(ha:EX key lo (YO st) n)(h:∀r,n<=r->r<=m->EX key lo (YO st) r->(r=m\/O.klt (kx key (YO st) (lo+r)) (kx key (YO st) (lo+r-1)))->Q (none,r) st):wpS M A E s (C_ lo n m) Q st:=by
 unfold C_;refine Zx (I:=λx c aZ=>aZ=st/\c=(none,x)/\EX key lo (YO st) x) ?go ?out ⟨rfl,rfl,ha⟩
 case out=>
  rintro c aZ ⟨rfl,rfl,B7⟩;have e:max n m=m:=(by lia)
  rw[e] at B7 ⊢;exact h m nm (X6 _) B7 (.inl rfl)
 case go=>
  rintro x c aZ h1 h2 ⟨rfl,rfl,B7⟩;dsimp only;refine Yc (uG C kd hD hB (by lia) (by lia) ?_);dsimp only;cases e:O.blt (kx key (YO aZ) (lo+x)) (kx key (YO aZ) (lo+x-1)) with
  |true=>
   rw[hZ rfl];exact Yh (h x h1 (by lia) B7 (.inr e))
  |false=>
   rw[hV XR];refine Yh ⟨rfl,rfl,λi j AR hj=>?_⟩;by_cases c1:j<x
   ·exact B7 i j AR c1
   ·have:j=x:=(by lia)
    subst this;by_cases c2:i=j
    ·subst c2;exact ZI _
    ·have:=B7 i (j-1) (by lia) (by lia);rw[show lo+(j-1)=lo+j-1 by lia] at this;exact YL this e
theorem zG (C:mX M A E s O key knd D){st:Yp}{Q:Option Nat->Yp->Prop}(kd:Zs dv=knd)(hD:∀p∈a0.toList,D p)(hm:lo+m<=a0.size)(n1:1<=n)(nm:n<=m)(hB:SB lo a0 dv st)(hd:Pt key lo (YO st) n)(h:∀r aZ,SB lo a0 dv aZ->1<=r->r<=m->EX key lo (YO aZ) r->Q (some r) aZ):wpS M A E s (Dd lo n m) Q st:=by
 unfold Dd;refine Yc (xB ?_);have PJ:=hB.mir (n:=0) (m:=n) (by lia);have hz:lo+n<=(YO st).size:=by rw[hB.size];lia
 rw[adf] at PJ;refine Yc (zF C kd hD hm n1 nm PJ (λi j AR hj=>?_) λr r1 r2 r3 _=>Yh (h r _ PJ (by lia) r2 r3));have e1:=BK (key:=key) (lo:=lo) (n:=0) hz i;have e2:=BK (key:=key) (lo:=lo) (n:=0) hz j;rw[adf,hZ (by lia)] at e1 e2;rw[e1,e2];exact hd _ _ (by lia) (by lia)
theorem Hv (C:mX M A E s O key knd D){st:Yp}{Q:DescSt->Yp->Prop}(kd:Zs dv=knd)(hD:∀p∈a0.toList,D p)(hm:lo+m<=a0.size)(n1:1<=n)(nm:n<=m)(hB:SB lo a0 dv st)(hd:Pt key lo (YO st) n)(h:∀r q aZ,SB lo a0 dv aZ->n<=r->r<=m->Pt key lo (YO aZ) r->q+1<=r->(∀i,r-(q+1)<=i->i<r->kx key (YO aZ) (lo+i)=kx key (YO aZ) (lo+r-1))->Q (none,r,q) aZ):wpS M A E s (Hs lo n m) Q st:=by
 unfold Hs;refine Zx (I:=λx c aZ=>∃q,c=(none,x,q)/\SB lo a0 dv aZ/\Pt key lo (YO aZ) x/\q+1<=x/\∀i,x-(q+1)<=i->i<x->kx key (YO aZ) (lo+i)=kx key (YO aZ) (lo+x-1)) ?go ?out
  ⟨0,rfl,hB,hd,(by lia),λi a1 a2=>by grind⟩
 case out=>
  rintro c aZ ⟨q,rfl,b1,b2,b3,b4⟩;have e:max n m=m:=(by lia)
  rw[e] at b2 b3 b4 ⊢;exact h m q aZ b1 nm (X6 _) b2 b3 b4
 case go=>
  rintro x c aZ h1 h2 ⟨q,rfl,b1,b2,b3,b4⟩;have hz:lo+x<=(YO aZ).size:=by rw[b1.size];lia
  unfold Mx;dsimp only;refine Yc (uG C kd hD b1 (by lia) (by lia) ?_);dsimp only;cases e:O.blt (kx key (YO aZ) (lo+x)) (kx key (YO aZ) (lo+x-1)) with
  |true=>
   rw[hZ rfl];have nx:∀l:Array Yr,(∀k,kx key l (lo+k)=kx key (YO aZ) (lo+k))->Pt key lo l (x+1):=by
    intro l hl i j AR hj;rw[hl,hl];by_cases c1:j<x
    ·exact b2 i j AR c1
    ·have:j=x:=(by lia)
     subst this;by_cases c2:i=j
     ·grind[ZI]
     ·have:=b2 i (j-1) (by lia) (by lia);rw[show lo+(j-1)=lo+j-1 by lia] at this;exact YL (Y8 e) this
   by_cases c:q>0
   ·rw[hZ c];refine Yc (xB ?_);have e3:lo+x-(q+1)=lo+(x-(q+1)):=(by lia)
    rw[e3];refine Yh ⟨0,rfl,b1.mir (by lia),nx _ (gX hz b4),(by lia),λi a1 a2=>?_⟩;grind
   ·rw[hV c];exact Yh ⟨0,rfl,b1,nx _ (λ_=>rfl),(by lia),λi a1 a2=>by grind⟩
  |false=>
   rw[hV XR];refine Yc (uG C kd hD b1 (by lia) (by lia) ?_);dsimp only;cases e2:O.blt (kx key (YO aZ) (lo+x-1)) (kx key (YO aZ) (lo+x)) with
   |true=>
    rw[hZ rfl];exact Yh (h x q aZ b1 h1 (by lia) b2 b3 b4)
   |false=>
    rw[hV XR];have eq:kx key (YO aZ) (lo+x)=kx key (YO aZ) (lo+x-1):=KeyOrd.kle_antisymm e2 e;refine Yh ⟨q+1,rfl,b1,λi j AR hj=>?_,(by lia),λi a1 a2=>?_⟩
    ·by_cases c1:j<x
     ·exact b2 i j AR c1
     ·have:j=x:=(by lia)
      subst this;by_cases c2:i=j
      ·subst c2;exact ZI _
      ·rw[eq];have:=b2 i (j-1) (by lia) (by lia);rw[show lo+(j-1)=lo+j-1 by lia] at this;exact this
    ·rw[show lo+(x+1)-1=lo+x by lia];by_cases c1:i=x
     ·subst c1;rfl
     ·rw[eq];exact b4 i (by lia) (by lia)
theorem zH (C:mX M A E s O key knd D){st:Yp}{Q:Option Nat->Yp->Prop}(kd:Zs dv=knd)(hD:∀p∈a0.toList,D p)(hm:lo+m<=a0.size)(nm:n+1<=m)(hB:SB lo a0 dv st)(hd:Pt key lo (YO st) (n+1))(h:∀r aZ,SB lo a0 dv aZ->1<=r->r<=m->EX key lo (YO aZ) r->Q (some r) aZ):wpS M A E s (De lo n m) Q st:=by
 unfold De;refine Yc (wpS_lift (aa5 ⟨rfl,?_⟩));refine Yc (Hv C kd hD hm (by lia) nm hB hd λr q aZ b1 r1 r2 b2 b3 b4=>?_);dsimp only;have hz:lo+r<=(YO aZ).size:=by rw[b1.size];lia
 by_cases c:q>0
 ·rw[hZ c];refine Yc (xB ?_);have e3:lo+r-(q+1)=lo+(r-(q+1)):=(by lia)
  rw[e3];refine zG C kd hD hm (by lia) r2 (b1.mir (by lia)) (λi j AR hj=>?_) h;have e1:=gX (key:=key) hz b4 i;have e2:=gX (key:=key) hz b4 j;rw[e1,e2];exact b2 i j AR hj
 ·rw[hV c];exact zG C kd hD hm (by lia) r2 b1 b2 h
theorem zI (C:mX M A E s O key knd D){st:Yp}{Q:Option Nat->Yp->Prop}(kd:Zs dv=knd)(hD:∀p∈a0.toList,D p)(hm:lo+m<=a0.size)(m1:1<=m)(hB:SB lo a0 dv st)(h:∀r aZ,SB lo a0 dv aZ->1<=r->r<=m->EX key lo (YO aZ) r->Q (some r) aZ):wpS M A E s (countRun' lo m) Q st:=by
 rw[zD];refine Yc (zF C kd hD hm (X6 1) m1 hB (λi j AR hj=>by rw[show i=j by lia];exact ZI _) λn n1 n2 ha ho=>?_);dsimp only;by_cases c:n=m
 ·rw[hZ (by simpa using c)];exact Yh (h n st hB n1 n2 ha)
 ·rw[hV (by simpa using c)];have hl:=ho.resolve_left c;by_cases c2:n>1
  ·rw[hZ c2];refine Yc (uG C kd hD hB (by lia) (by lia) ?_);dsimp only;cases e:O.blt (kx key (YO st) lo) (kx key (YO st) (lo+n-1)) with
   |true=>
    rw[hZ rfl];exact Yh (h n st hB n1 n2 ha)
   |false=>
    rw[hV XR];have hz:lo+n<=(YO st).size:=by rw[hB.size];lia
    have al:∀k,0<=k->k<n->kx key (YO st) (lo+k)=kx key (YO st) (lo+n-1):=by
     intro k _ hk;have p1:=ha 0 k (by lia) hk;have p2:=ha k (n-1) (by lia) (by lia);rw[show lo+(n-1)=lo+n-1 by lia] at p2;exact KeyOrd.kle_antisymm p2 (YL (show O.kle _ (kx key (YO st) lo) from e) p1)
    refine Yc (xB ?_);have PJ:=hB.mir (n:=0) (m:=n) (by lia);rw[adf] at PJ;refine zH C kd hD hm (by lia) PJ (λi j AR hj=>?_) h;have e1:=gX (key:=key) (n:=0) hz al i;have e2:=gX (key:=key) (n:=0) hz al j;rw[adf] at e1 e2;rw[e1,e2];by_cases c3:j<n
    ·rw[al i (by lia) (by lia),al j (by lia) c3];exact ZI _
    ·have:j=n:=(by lia)
     subst this;by_cases c4:i=j
     ·subst c4;exact ZI _
     ·rw[al i (by lia) (by lia)];exact Y8 hl
  ·rw[hV c2];have:n=1:=(by lia)
   subst this;refine zH C kd hD hm (by lia) hB (λi j AR hj=>?_) h;by_cases c4:i=j
   ·subst c4;exact ZI _
   ·have UA:i=0:=(by lia)
    have WN:j=1:=(by lia)
    subst UA;subst WN;exact Y8 hl
theorem BL (C:mX M A E s O key knd D){st:Yp}{ok:Nat}{Q:Bool->Yp->Prop}(kd:Zs dv=knd)(hD:∀p∈a0.toList,D p)(hn:lo+n<=a0.size)(hok:ok<=n)(hB:SB lo a0 dv st)(ha:EX key lo (YO st) ok)(h:∀aZ,SB lo a0 dv aZ->EX key lo (YO aZ) n->Q true aZ):wpS M A E s (binarySort' lo n ok) Q st:=by
 rw[binarySort'_eq];refine Yc (aaS (Zx (I:=λk c aZ=>c=(none,())/\SB lo a0 dv aZ/\EX key lo (YO aZ) (min k n))
  (Q:=λc aZ=>c=(none,())/\SB lo a0 dv aZ/\EX key lo (YO aZ) n) ?go ?out ?wW) ?end_)
 case end_=>
  rintro c aZ ⟨rfl,b1,b2⟩;exact Yh (h aZ b1 b2)
 case wW=>
  refine⟨rfl,hB,λi j AR hj=>?_⟩;by_cases c:ok=0
  ·rw[show i=j by lia];exact ZI _
  ·exact ha i j AR (by lia)
 case out=>
  rintro c aZ ⟨e,b1,b2⟩;have e2:min (max (max ok 1) n) n=n:=(by lia)
  rw[e2] at b2;exact⟨e,b1,b2⟩
 case go=>
  rintro k c B4 EY Vp ⟨rfl,b1,b2⟩;have e1:min k n=k:=(by lia)
  rw[e1] at b2;have hk:lo+k<a0.size:=(by lia)
  refine Yc (aaS (Zx (I:=λx c mF=>mF=B4/\∃l r,c=(none,l,r)/\l<=r/\r<=k/\r-l<=k-x/\
    (∀i,i<l->O.kle (kx key (YO B4) (lo+i)) (kx key (YO B4) (lo+k)))/\∀i,r<=i->i<k->O.klt (kx key (YO B4) (lo+k)) (kx key (YO B4) (lo+i)))
   (Q:=λc mF=>mF=B4/\∃l,c=(none,l,l)/\l<=k/\(∀i,i<l->O.kle (kx key (YO B4) (lo+i)) (kx key (YO B4) (lo+k)))/\∀i,l<=i->i<k->O.klt (kx key (YO B4) (lo+k)) (kx key (YO B4) (lo+i))) ?go2 ?out2 ?Sv) ?end2)
  case Sv=>exact⟨rfl,0,k,rfl,(by lia),(by lia),(by lia),λi hi=>(by lia),λi a1 a2=>(by lia)⟩
  case out2=>
   rintro c mF ⟨rfl,l,r,rfl,q1,q2,q3,q4,q5⟩;have:l=r:=(by lia)
   subst this;exact⟨rfl,l,rfl,q2,q4,q5⟩
  case go2=>
   rintro x c mF _ hx ⟨rfl,l,r,rfl,q1,q2,q3,q4,q5⟩;dsimp only;by_cases c:l≥r
   ·rw[hZ c];have:l=r:=(by lia)
    subst this;exact Yh ⟨rfl,l,rfl,q2,q4,q5⟩
   ·rw[hV c];refine Yc (uG C kd hD b1 hk (by lia) ?_);cases e:O.blt (kx key (YO mF) (lo+k)) (kx key (YO mF) (lo+(l+r) / 2)) with
    |true=>
     simp only[if_true];exact Yh ⟨rfl,l,(l+r) / 2,rfl,(by lia),(by lia),(by lia),q4,λi a1 a2=>KeyOrd.klt_of_klt_of_kle e (b2 _ _ a1 a2)⟩
    |false=>
     simp only[Yj,if_false];exact Yh ⟨rfl,(l+r) / 2+1,r,rfl,(by lia),(by lia),(by lia),λi a1=>YL (b2 i ((l+r) / 2) (by lia) (by lia)) (show O.kle _ _ from e),q5⟩
  case end2=>
   rintro c mF ⟨rfl,l,rfl,q2,q4,q5⟩;dsimp only;rw[moveDown'_eq];have e2:lo+k-(lo+l)=k-l:=(by lia)
   refine Yc (abQ (Yh ⟨rfl,?_,?_⟩))
   ·rw[e2];exact b1.bub hk (by lia)
   ·rw[show min (k+1) n=k+1 by lia];have hz:lo+k<(YO mF).size:=by rw[b1.size];exact hk
    intro i j AR hj;show O.kle (kx key (bubble (YO mF) (lo+k) (lo+k-(lo+l))) (lo+i)) (kx key (bubble (YO mF) (lo+k) (lo+k-(lo+l))) (lo+j));rw[e2,Ht hz (by lia),Ht hz (by lia),show k-(k-l)=l by lia]
    repeat' split
    all_goals first
     | (exfalso;lia)
     |exact ZI _
     |exact q4 _ (by lia)
     |exact Y8 (q5 _ (by lia) (by lia))
     |exact b2 _ _ (by lia) (by lia)
end
end Hc.Ts
namespace Hc.Ts
noncomputable def xC (lo n:Nat):StateT Yp Sem (ForInStep (Option Unit×Nat)):=do
 modify λst=>setPending st ((YK st).push (lo,n,0))
 pure (.yield (none,lo+n))
noncomputable def TC (pw:Nat)(_:Nat)(_:Option Unit×Unit):StateT Yp Sem (ForInStep (Option Unit×Unit)):=do
 let st ←get
 let some (_,_,old):=(if (YK st).size>1 then (YK st)[(YK st).size-2]? else none)|pure (.done (none,()))
 if old<=pw then pure (.done (none,())) else do
  let r ←mergeAt' ((YK st).size-2)
  if (!r)=true then pure (.done (some (),())) else pure (.yield (none,()))
noncomputable def TF (pw:Nat)(st:Yp):Yp:=setPending st ((YK st).modify ((YK st).size-1) λx=>match x with|(p,n,_)=>(p,n,pw))
noncomputable def My (size lo n pw:Nat):StateT Yp Sem (ForInStep (Option Unit×Nat)):=do
 let c ←forIn [0:size] ((none,()):Option Unit×Unit) (TC pw)
 match c.1 with
 |some r=>pure (.done (some r,lo))
 |none=>do
  modify (TF pw)
  xC lo n
noncomputable def Sf (size lo n:Nat):StateT Yp Sem (ForInStep (Option Unit×Nat)):=do
 let st ←get
 let some (p1,n1,_):=(YK st).back? | xC lo n
 My size lo n (power' size (2*p1+n1) (2*p1+n1+n1+n) size)
noncomputable def TH (size qt:Nat)(_:Nat)(c:Option Unit×Nat):StateT Yp Sem (ForInStep (Option Unit×Nat)):=
 if c.2≥size then pure (.done (none,c.2)) else do
  let some n ←countRun' c.2 (size-c.2)|pure (.done (some (),c.2))
  if n<qt then do
   liftM (rule "list.sort.binary-insertion")
   let r ←binarySort' c.2 (min (size-c.2) qt) n
   if (!r)=true then pure (.done (some (),c.2)) else Sf size c.2 (min (size-c.2) qt)
  else Sf size c.2 n
noncomputable def TJ (p:Array (Nat×Nat×Nat)):Nat:=
 if Option.any (λx=>decide (x<(p[p.size-2+1]?).elim 0 λx=>x.2.1)) (if p.size-2>0 then Option.map (λx=>x.2.1) p[p.size-2-1]? else none)=true then p.size-2-1 else p.size-2
noncomputable def U5 (_:Nat)(_:Option Unit×Unit):StateT Yp Sem (ForInStep (Option Unit×Unit)):=do
 let st ←get
 if (YK st).size<=1 then pure (.done (none,())) else do
  let r ←mergeAt' (TJ (YK st))
  if (!r)=true then pure (.done (some (),())) else pure (.yield (none,()))
theorem xD:sortRuns'=(do
  let st ←get
  let c ←forIn [0:(YO st).size] ((none,0):Option Unit×Nat) (TH (YO st).size (minRun' (YO st).size (YO st).size 0))
  match c.1 with
  |some r=>pure r
  |none=>do
   let d ←forIn [0:(YO st).size] ((none,()):Option Unit×Unit) U5
   match d.1 with
   |some r=>pure r
   |none=>pure ()):=by kernel_rfl
section
variable {A:YG}{O:adK}{key:Yr->O.α}{knd:abF}{D:Yr->Prop}
def uH (key:Yr->O.α):Nat->List (List Yr)->List (Nat×Nat×Nat)->Prop
 |_,[],[]=>True
 |p,g::gs,e::es=>e.1=p/\e.2.1=g.length/\0<g.length/\jB key g/\uH key (p+g.length) gs es
 |_,_,_=>False
theorem uH.len:∀{p:Nat} {gs:List (List Yr)} {es:List (Nat×Nat×Nat)},uH key p gs es->gs.length=es.length/\gs.length<=gs.flatten.length
 |_,[],[],_=>⟨rfl,X6 _⟩
 |p,g::gs,e::es,h=>by
  obtain⟨h1,h2⟩:=uH.len h.2.2.2.2;have:=h.2.2.1;rw[Zb,XW,X1,X1];lia
theorem uH.app:∀{p:Nat} {gs:List (List Yr)} {es:List (Nat×Nat×Nat)} {gs2:List (List Yr)} {es2:List (Nat×Nat×Nat)},uH key p gs es->uH key (p+gs.flatten.length) gs2 es2->uH key p (gs++gs2) (es++es2)
 |_,[],[],_,_,_,h2=>h2
 |p,g::gs,e::es,gs2,es2,h,h2=>by
  refine⟨h.1,h.2.1,h.2.2.1,h.2.2.2.1,uH.app h.2.2.2.2 ?_⟩;rw[Zb,XW,←Nat.add_assoc] at h2;exact h2
theorem uH.split:∀{i p:Nat} {gs:List (List Yr)} {es:List (Nat×Nat×Nat)},uH key p gs es->i+1<es.length->∃g1 x y g2 e1 pw pw2 e2,gs=g1++x::y::g2/\es=e1++(p+g1.flatten.length,x.length,pw)::(p+g1.flatten.length+x.length,y.length,pw2)::e2/\e1.length=i/\uH key p g1 e1/\0<x.length/\jB key x/\0<y.length/\jB key y/\uH key (p+g1.flatten.length+x.length+y.length) g2 e2
 |0,p,x::y::g2,(a,b,pw)::(c,d,pw2)::e2,h,_=>by
  obtain⟨h1,h2,h3,h4,k1,k2,k3,k4,h5⟩:=h;dsimp only at h1 h2 k1 k2;subst h1;subst h2;subst k1;subst k2;exact⟨[],x,y,g2,[],pw,pw2,e2,rfl,rfl,rfl,trivial,h3,h4,k3,k4,h5⟩
 |0,p,[x],[e],h,hl=>absurd hl (by simp)
 |0,p,[],[],h,hl=>absurd hl (by simp)
 |0,p,[x],_::_::_,h,hl=>h.2.2.2.2.elim
 |0,p,_::_::_,[e],h,hl=>h.2.2.2.2.elim
 |i+1,p,[],[],h,hl=>absurd hl (by simp)
 |i+1,p,g::gs,e::es,h,hl=>by
  obtain⟨g1,x,y,g2,e1,pw,pw2,e2,q1,q2,q3,q4,q5⟩:=uH.split h.2.2.2.2 (i:=i) (by simpa using hl);refine⟨g::g1,x,y,g2,e::e1,pw,pw2,e2,by rw[q1];rfl,?_,by rw[X1,q3],⟨h.1,h.2.1,h.2.2.1,h.2.2.2.1,q4⟩,?_⟩
  ·rw[q2,Zb,XW,←Nat.add_assoc];rfl
  ·rw[Zb,XW,←Nat.add_assoc];exact q5
theorem uH.power {f:Nat×Nat×Nat->Nat×Nat×Nat}(hf:∀e,(f e).1=e.1/\(f e).2.1=e.2.1):∀{i p:Nat} {gs:List (List Yr)} {es:List (Nat×Nat×Nat)},uH key p gs es->uH key p gs (es.modify i f)
 |_,_,[],[],_=>by rw[List.modify_nil];exact trivial
 |0,p,g::gs,e::es,h=>by
  rw[List.modify_zero_cons];exact⟨(hf e).1.trans h.1,(hf e).2.trans h.2.1,h.2.2⟩
 |i+1,p,g::gs,e::es,h=>by
  rw[List.modify_succ_cons];exact⟨h.1,h.2.1,h.2.2.1,h.2.2.2.1,uH.power hf h.2.2.2.2⟩
structure SI (key:Yr->O.α)(knd:abF)(a0:Array Yr)(lo:Nat)(rest:List Yr)(st:Yp):Prop where
 failed:abG st=none
 kind:Zs st=knd
 perm:(YO st).toList.Perm a0.toList
 segs:∃gs:List (List Yr),(YO st).toList=gs.flatten++rest/\gs.flatten.length=lo/\uH key 0 gs (YK st).toList
variable {a0:Array Yr}{lo:Nat}{rest:List Yr}
theorem SI.size {st:Yp}(h:SI key knd a0 lo rest st):lo+rest.length=a0.size:=by
 obtain⟨gs,e,l,_⟩:=h.segs;have:=h.perm.length_eq;rw[e,XW,l,X0] at this;exact this
theorem SI.few {st:Yp}(h:SI key knd a0 lo rest st):(YK st).size<=lo:=by
 obtain⟨gs,e,l,p⟩:=h.segs;have h1:=p.len;have h2:(YK st).toList.length=(YK st).size:=X0;lia
theorem SI.merge (C:mX M A E s O key knd D)(hD:∀p∈a0.toList,D p){st:Yp}(h:SI key knd a0 lo rest st)(hi:i+1<(YK st).size){Q:Bool->Yp->Prop}(q:∀aZ,SI key knd a0 lo rest aZ->(YK aZ).size+1=(YK st).size->Q true aZ):wpS M A E s (mergeAt' i) Q st:=by
 obtain⟨gs,e,l,p⟩:=h.segs;obtain⟨g1,x,y,g2,e1,pw,pw2,e2,q1,q2,q3,q4,x0,sx,y0,sy,q5⟩:=p.split (i:=i) (by rw[X0];exact hi);rw[aaM] at q2 q5;subst q3;have ea:(YO st).toList=g1.flatten++(x++(y++(g2.flatten++rest))):=by
  rw[e,q1,aaE,Zb,Zb];simp only[Yi]
 have mem:∀p∈(YO st).toList,D p:=λp hp=>hD p (h.perm.mem_iff.mp hp);refine BJ C (pw:=pw) (pw2:=pw2) h.failed h.kind ea ?_ ?_ (λp hp=>mem p (by rw[ea];simp[hp])) (λp hp=>mem p (by rw[ea];simp[hp])) sx sy x0 y0 λz g hz sz=>q _ ?_ ?_
 ·rw[←YB,q2,Y3 (X6 _),ade];rfl
 ·rw[←YB,q2,Y3 (Zm _ 1),ZX];rfl
 all_goals
  have ep:(wz (YK st) e1.length g1.flatten.length (x.length+y.length) pw).toList=e1++(g1.flatten.length,x.length+y.length,pw)::e2:=by
   unfold wz;rw[Array.toList_eraseIdxIfInBounds,ac4,q2,List.set_append_right _ _ (X6 _),ade,Yo,List.eraseIdx_append_of_length_le (Zm _ 1),ZX];rfl
 ·refine⟨h.failed,h.kind,?_,g1++z::g2,?_,?_,?_⟩
  ·show (g1.flatten++(z++(g2.flatten++rest))).Perm a0.toList;refine List.Perm.trans ?_ h.perm;rw[ea];refine Zh _ ?_;rw[←Yi x];exact Zr _ hz
  ·show g1.flatten++(z++(g2.flatten++rest))=_;rw[aaE,Zb];simp only[Yi]
  ·rw[←l,q1,aaE,aaE,Zb,Zb,Zb];have:=hz.length_eq;rw[XW] at this;simp only[XW];lia
  ·show uH key 0 _ (wz (YK st) e1.length g1.flatten.length (x.length+y.length) pw).toList;have hl:z.length=x.length+y.length:=by rw[hz.length_eq,XW]
   rw[ep];refine q4.app ⟨by rw[aaM],hl.symm,by rw[hl];lia,sz,?_⟩;rw[aaM,hl,←Nat.add_assoc];exact q5
 ·show (wz (YK st) e1.length g1.flatten.length (x.length+y.length) pw).size+1=_;rw[←X0,ep,←X0 (xs:=YK st),q2];simp only[XW,X1];lia
theorem Oo (C:mX M A E s O key knd D)(hD:∀p∈a0.toList,D p){st:Yp}(h:SI key knd a0 lo rest st){pw:Nat}{c:Option Unit×Unit}{Q:ForInStep (Option Unit×Unit)->Yp->Prop}(q1:∀aZ,SI key knd a0 lo rest aZ->Q (.done (none,())) aZ)(q2:∀aZ,SI key knd a0 lo rest aZ->Q (.yield (none,())) aZ):wpS M A E s (TC pw i c) Q st:=by
 unfold TC;refine Yc (adt ?_);by_cases c1:(YK st).size>1
 ·rw[hZ c1,getElem?_pos (YK st) _ (by lia)];obtain⟨a,b,old⟩:=(YK st)[(YK st).size-2];dsimp only;split
  ·exact Yh (q1 st h)
  ·refine Yc (h.merge C hD (by lia) λaZ h' _=>?_);rw[hV (by decide)];exact Yh (q2 aZ h')
 ·rw[hV c1];exact Yh (q1 st h)
theorem wA {st:Yp}(h:SI key knd a0 lo rest st){Q:ForInStep (Option Unit×Nat)->Yp->Prop}(n1:1<=n)(n2:n<=rest.length)(sr:jB key (rest.take n))(q:∀aZ,SI key knd a0 (lo+n) (rest.drop n) aZ->Q (.yield (none,lo+n)) aZ):wpS M A E s (xC lo n) Q st:=by
 unfold xC;refine Yc (abQ (Yh (q _ ?_)));obtain⟨gs,e,l,p⟩:=h.segs;have hl:(rest.take n).length=n:=by rw[Ys];lia
 refine⟨h.failed,h.kind,h.perm,gs++[rest.take n],?_,?_,?_⟩
 ·show (YO st).toList=_;rw[e,aaE,Yi];congr 1;rw[Zb,List.flatten_nil,Yu,YJ]
 ·rw[aaE,XW,l,Zb,List.flatten_nil,Yu,hl]
 ·show uH key 0 _ ((YK st).push (lo,n,0)).toList;rw[aax];exact p.app ⟨by rw[aaM,l],hl.symm,(by lia),sr,trivial⟩
theorem Hw (C:mX M A E s O key knd D)(hD:∀p∈a0.toList,D p){st:Yp}(h:SI key knd a0 lo rest st){size:Nat}{Q:ForInStep (Option Unit×Nat)->Yp->Prop}(n1:1<=n)(n2:n<=rest.length)(sr:jB key (rest.take n))(q:∀aZ,SI key knd a0 (lo+n) (rest.drop n) aZ->Q (.yield (none,lo+n)) aZ):wpS M A E s (Sf size lo n) Q st:=by
 unfold Sf;refine Yc (adt ?_);cases e:(YK st).back? with
 |none=>exact wA h n1 n2 sr q
 |some v=>
  obtain⟨p1,m1,w⟩:=v;dsimp only;unfold My;refine Yc (aaS (Zx (I:=λx c aZ=>c=(none,())/\SI key knd a0 lo rest aZ) (Q:=λc aZ=>c=(none,())/\SI key knd a0 lo rest aZ) ?go (λ_ _ z=>z) ⟨rfl,h⟩) ?fin)
  case go=>
   rintro x c aZ _ _ ⟨rfl,h'⟩;exact Oo C hD h' (λmF z=>⟨rfl,z⟩) λmF z=>⟨rfl,z⟩
  case fin=>
   rintro c aZ ⟨rfl,h'⟩;dsimp only;refine Yc (abQ (wA ?_ n1 n2 sr q));obtain⟨gs,e,l,p⟩:=h'.segs;refine⟨h'.failed,h'.kind,h'.perm,gs,e,l,?_⟩;show uH key 0 gs ((YK aZ).modify _ _).toList;rw[Array.toList_modify];refine uH.power (λe=>?_) p;exact⟨rfl,rfl⟩
theorem Kv {l:Array Yr}{P R:List Yr}(e:l.toList=P++R)(h:EX key P.length l n):jB key (R.take n):=by
 refine aaX.mpr λi j hi hj AR=>?_;rw[Ys] at hi hj;have at_:∀k,(hk:k<R.length)->kx key l (P.length+k)=key R[k]:=λk hk=>by
  unfold kx;rw[←YB,e,Y3 (Zm _ _),ZX,XN hk];rfl
 have:=h i j (by lia) (by lia);rw[at_ i (by lia),at_ j (by lia)] at this;rw[acq,acq];exact this
theorem SI.run {dv st:Yp}(h:SI key knd a0 lo rest dv)(b:SB lo (YO dv) dv st):∃r,SI key knd a0 lo r st/\r.length=rest.length/\∀n,EX key lo (YO st) n->jB key (r.take n):=by
 obtain⟨gs,e,l,p⟩:=h.segs;have hp:=ac5.mp b.perm;have hl:lo<=(YO st).toList.length:=by rw[hp.length_eq,e,XW,l];lia
 have ht:(YO st).toList.take lo=gs.flatten:=by
  apply acn;intro k;rw[ab5];split
  ·rename_i c;rw[YB,b.same k c,←YB,e,Y7 (by lia)]
  ·rename_i c;rw[abq (by lia)]
 have e2:(YO st).toList=gs.flatten++(YO st).toList.drop lo:=by
  conv=>lhs;rw[←YJ lo (YO st).toList,ht]
 refine⟨(YO st).toList.drop lo,⟨?_,?_,hp.trans h.perm,gs,e2,l,?_⟩,?_,λn hn=>?_⟩
 ·rw[b.rest];exact h.failed
 ·rw[b.rest];exact h.kind
 ·rw[b.rest];exact p
 ·have:=hp.length_eq;rw[e,XW,l] at this;rw[YR];lia
 ·subst l;exact Kv e2 hn
theorem Oq (C:mX M A E s O key knd D)(hD:∀p∈a0.toList,D p){st:Yp}{qt:Nat}{c:Option Unit×Nat}(h:SI key knd a0 c.2 rest st){Q:ForInStep (Option Unit×Nat)->Yp->Prop}(q1:SI key knd a0 a0.size [] st->c.2=a0.size->Q (.done (none,a0.size)) st)(q2:∀n r aZ,1<=n->SI key knd a0 (c.2+n) r aZ->Q (.yield (none,c.2+n)) aZ):wpS M A E s (TH a0.size qt i c) Q st:=by
 obtain⟨c1,lo⟩:=c;dsimp only at h q1 q2;have hs:=h.size;unfold TH;dsimp only;by_cases c2:lo≥a0.size
 ·rw[hZ c2];have e1:lo=a0.size:=(by lia)
  have e2:rest=[]:=ZK (by lia);subst e1;subst e2;exact Yh (q1 h rfl)
 ·rw[hV c2];have Vy:∀p∈(YO st).toList,D p:=λp hp=>hD p (h.perm.mem_iff.mp hp);have hz:(YO st).size=a0.size:=by have:=h.perm.length_eq;rwa [X0,X0] at this
  have b0:SB lo (YO st) st st:=⟨Array.Perm.refl _,λ_ _=>rfl,rfl⟩;refine Yc (zI C h.kind Vy (by lia) (by lia) b0 λn aZ b1 n1 n2 ha=>?_);dsimp only;by_cases c3:n<qt
  ·rw[hZ c3];refine Yc (wpS_lift (aa5 ⟨rfl,?_⟩));refine Yc (BL C h.kind Vy (by lia) (by lia) b1 ha λmF b2 PH=>?_);rw[hV (by decide)];obtain⟨r,h',hl,hr⟩:=h.run b2;exact Hw C hD h' (by lia) (by lia) (hr _ PH) λJj h3=>q2 _ _ Jj (by lia) h3
  ·rw[hV c3];obtain⟨r,h',hl,hr⟩:=h.run b1;exact Hw C hD h' n1 (by lia) (hr _ ha) λJj h3=>q2 _ _ Jj n1 h3
theorem Ot {p:Array (Nat×Nat×Nat)}(h:¬p.size<=1):TJ p+1<p.size:=by
 unfold TJ;generalize (Option.any _ _)=z;cases z with
 |true=>rw[hZ rfl];lia
 |false=>rw[hV XR];lia
theorem zJ (C:mX M A E s O key knd D)(hD:∀p∈a0.toList,D p){st:Yp}(hk:Zs st=knd)(hf:abG st=none)(ha:YO st=a0)(hp:YK st=(List.toArray [])){Q:Unit->Yp->Prop}
  (q:∀aZ,abG aZ=none->(YO aZ).toList.Perm a0.toList->jB key (YO aZ).toList->Q () aZ):wpS M A E s sortRuns' Q st:=by
 rw[xD];refine Yc (adt ?_);rw[ha];have h0:SI key knd a0 0 a0.toList st:=⟨hf,hk,by rw[ha],[],by rw[ha];rfl,rfl,by rw[hp];exact trivial⟩;refine Yc (aaS (Zx (I:=λx c aZ=>c.1=none/\x<=c.2/\∃r,SI key knd a0 c.2 r aZ) (Q:=λc aZ=>c.1=none/\SI key knd a0 a0.size [] aZ) ?go ?out ⟨rfl,X6 _,_,h0⟩) ?post)
 case out=>
  rintro⟨c1,lo⟩ aZ ⟨e,hx,r,h⟩;dsimp only at e hx h;have hs:=h.size;have e1:lo=a0.size:=(by lia)
  have e2:r=[]:=ZK (by lia);subst e1;subst e2;exact⟨e,h⟩
 case go=>
  rintro x c aZ _ hx ⟨e,Sr,r,h⟩;refine Oq C hD h (λh1 h2=>⟨rfl,h1⟩) λn r mF n1 h2=>⟨rfl,?_,r,h2⟩;show x+1<=c.2+n;lia
 case post=>
  rintro⟨c1,lo⟩ aZ ⟨e,h⟩;dsimp only at e ⊢;subst e;dsimp only;refine Yc (aaS (Zx (I:=λx c aZ=>c=(none,())/\SI key knd a0 a0.size [] aZ/\(YK aZ).size+x<=a0.size) (Q:=λc aZ=>c=(none,())/\SI key knd a0 a0.size [] aZ/\(YK aZ).size<=1) ?_ ?_ ⟨rfl,h,by have:=h.few;lia⟩) ?_)
  ·rintro x c mF _ hx ⟨rfl,h2,h3⟩;unfold U5;refine Yc (adt ?_);by_cases c:(YK mF).size<=1
   ·rw[hZ c];exact Yh ⟨rfl,h2,c⟩
   ·rw[hV c];refine Yc (h2.merge C hD (Ot c) λJj h4 h5=>?_);rw[hV (by decide)];exact Yh ⟨rfl,h4,(by lia)⟩
  ·rintro c mF ⟨rfl,h2,h3⟩;exact⟨rfl,h2,(by lia)⟩
  ·rintro c mF ⟨rfl,h2,h3⟩;refine Yh (q mF h2.failed h2.perm ?_);obtain⟨gs,e,l,p⟩:=h2.segs;rw[e,Yu]
   match gs,(YK mF).toList,p,(show (YK mF).toList.length<=1 by rw[X0];exact h3) with
   | [],_,_,_=>exact List.Pairwise.nil
   | [g],[e1],p,_=>
    rw[Zb,List.flatten_nil,Yu];exact p.2.2.2.1
   |g::g2::gs,[e1],p,_=>exact p.2.2.2.2.elim
   |g::gs,e1::e2::es,p,hl=>exact absurd hl (by simp)
end
end Hc.Ts
namespace Hc.Ts
section
variable {w:Y6}{A:YG}{O:adK}{key:Yr->O.α}{knd:abF}{D:Yr->Prop}
theorem kg {vs:List XY}(h:l.Perm (vs.zip vs)):(l.map (·.2)).Perm vs/\∀p∈l,p=(p.2,p.2):=by
 have e:(vs.zip vs).map (·.2)=vs:=by
  induction vs with
  |nil=>rfl
  |cons v r ih=>rw[abZ,X5,List.map_snd_zip (by simp)]
 refine⟨by have:=h.map (·.2);rwa [e] at this,λp hp=>?_⟩;have hp:=h.mem_iff.mp hp;clear h e
 induction vs with
 |nil=>cases hp
 |cons v r ih=>
  rw[abZ,Yb] at hp;rcases hp with hp|hp
  ·subst hp;rfl
  ·exact ih hp
theorem Hx {vs:List XY}{P:Fin->Ya->Prop}(ho:s.heap.get? a=some (seqObj "list" vs.toArray n))(hz:vs.length<=1000000)(hk:2<=vs.length->∀(h6:Z9) (Q:abF->Ya->Prop),(∀b o,b≠a->s.heap.get? b=some o->h6.get? b=some o)->Q knd {s with heap:=h6}->Yg (Yw prog w) A (keyKind' vs.toArray) Q E {s with heap:=h6})(hC:2<=vs.length->∀h6:Z9,(∀b o,b≠a->s.heap.get? b=some o->h6.get? b=some o)->mX (Yw prog w) A E {s with heap:=h6} O key knd D)(hD:∀v∈vs,D (v,v))(h:∀out:List XY,out.Perm vs->out.Pairwise (λx y=>O.kle (key (x,x)) (key (y,y)))->P (.done (.ret .none)) {s with heap:=sortedHeap s.heap a vs out.toArray}) :
  Yg (Yw prog w) A (Builtin.«list.sort» ⟨[.ref a],[]⟩) P E s:=by
 have O_:vs.length<=XU:=by rw[aaA];lia
 have la:a<s.heap.objs.size:=X_ ho;rw[list_sort_plain];refine XM (listItems_at ho rfl (XM (listUpdate_at ho rfl ?_ (hsz:=by rw[XZ];exact O_))));obtain⟨e1,o1⟩:∃e1,(s.heap.update a (aaJ λ_=>(List.toArray []))).get? a=some (seqObj "list" (List.toArray []) e1):=⟨_,get?_update_seq ho (λ_=>(List.toArray []))⟩;refine XM (seqEpoch_at o1 rfl (XM (wpAny_newTuple (XM (wpAny_newList (Y4 ?_))) (by simpa using O_))));have kp:∀b o,b≠a->s.heap.get? b=some o->(((s.heap.update a (aaJ λ_=>(List.toArray []))).push (seqObj "tuple" vs.toArray 0)).push (seqObj "list" (List.toArray []) 0)).get? b=some o:=λb o hb e=>
  XQ _ (XQ _ ((Heap.get?_update_ne _ _ _ _ hb).trans e))
 have o6:(((s.heap.update a (aaJ λ_=>(List.toArray []))).push (seqObj "tuple" vs.toArray 0)).push (seqObj "list" (List.toArray []) 0)).get? a=some (seqObj "list" (List.toArray []) e1):=XQ _ (XQ _ o1);change Yg (Yw prog w) A _ P E {s with heap:=((s.heap.update a (aaJ λ_=>(List.toArray []))).push (seqObj "tuple" vs.toArray 0)).push (seqObj "list" (List.toArray []) 0)};dsimp only;have fin:∀aZ:Yp,abG aZ=none->(YO aZ).toList.Perm (pairsOf vs).toList->jB key (YO aZ).toList->Yg (Yw prog w) A (do
   let touched:=(←seqEpoch a) != e1
   Builtin.List.listUpdate (.ref a) λ_=>(YO aZ).map (·.2)
   if let some e:=abG aZ then rule "list.sort.comparison-raised";throw e
   if touched then rule "list.sort.modified";raiseError "ValueError" "list modified during sort"
   ret .none) P E {s with heap:=((s.heap.update a (aaJ λ_=>(List.toArray []))).push (seqObj "tuple" vs.toArray 0)).push (seqObj "list" (List.toArray []) 0)}:=by
  intro aZ f1 f2 f3;rw[pairsOf_toList] at f2;obtain⟨m1,m2⟩:=kg f2;refine XM (seqEpoch_at o6 rfl (XM (listUpdate_at o6 rfl ?_ (hsz2:=by
   rw[Array.size_map,←X0,f2.length_eq,List.length_zip,Nat.min_self];lia))))
  rw[f1];simp only[bne_self_eq_false,Yj,if_false];refine XS ?_;have e:(YO aZ).map (·.2)=((YO aZ).toList.map (·.2)).toArray:=by apply Array.ext';simp
  rw[e];refine h _ m1 (Z4.mpr (aa6 (λ{x y} hx hy r=>?_) f3));rw[←m2 x hx,←m2 y hy];exact r
 by_cases h2:vs.length<2
 ·rw[hZ (by rw[XZ];exact h2),hZ (by rw[XZ];exact h2)];refine XM (XS ?_);rw[StateT.run_pure];refine XM (XS ?_);refine fin (SortSt.mk' general' (vs.toArray.zip vs.toArray) (List.toArray []) 7 none) rfl (ZE _) ?_;change jB key (pairsOf vs).toList;rw[pairsOf_toList]
  match vs,h2 with
  | [],_=>exact List.Pairwise.nil
  | [v],_=>exact ab6 _ _
  |_::_::_,h2=>exact absurd h2 (by simp)
 ·rw[hV (by rw[XZ];exact h2),hV (by rw[XZ];exact h2)];refine XM (hk (by lia) _ _ kp ?_);refine XM (Zc (zJ (hC (by lia) _ kp) (a0:=pairsOf vs) (λp hp=>?_) (st:=SortSt.mk' knd (vs.toArray.zip vs.toArray) (List.toArray []) 7 none) rfl rfl rfl rfl
   (Q:=λ_ aZ=>abG aZ=none/\(YO aZ).toList.Perm (pairsOf vs).toList/\jB key (YO aZ).toList) λaZ a1 a2 a3=>⟨a1,a2,a3⟩) ?_ λ_ _ e=>e)
  ·rw[pairsOf_toList] at hp;obtain⟨m1,m2⟩:=kg (ZE (vs.zip vs));rw[m2 p hp];exact hD _ (m1.mem_iff.mp (ZM hp))
  ·rintro⟨⟨⟩,aZ⟩ s' ⟨rfl,f1,f2,f3⟩;exact fin aZ f1 f2 f3
end
end Hc.Ts
namespace Hc.Ts
open PySem.W
noncomputable def gY:List Int->List Int->Bool
 | [],[]=>false
 | [],_::_=>true
 |_::_,[]=>false
 |x::xs,y::ys=>if x=y then gY xs ys else decide (x<y)
theorem lD:∀a,gY a a=false
 | []=>rfl
 |x::xs=>by unfold gY;rw[hZ rfl];exact lD xs
theorem uI:∀a b c,gY a b=true->gY b c=true->gY a c=true
 | [],[],_,h,_=>by cases h
 | [],_::_,[],_,h=>by cases h
 | [],_::_,_::_,_,_=>rfl
 |_::_,[],_,h,_=>by cases h
 |_::_,_::_,[],_,h=>by cases h
 |x::xs,y::ys,z::zs,h1,h2=>by
  unfold gY at h1 h2 ⊢;by_cases e1:x=y
  ·subst e1;rw[hZ rfl] at h1;by_cases e2:x=z
   ·subst e2;rw[hZ rfl] at h2 ⊢;exact uI xs ys zs h1 h2
   ·rw[hV e2] at h2 ⊢;exact h2
  ·rw[hV e1] at h1;have h1:=of_decide_eq_true h1;by_cases e2:y=z
   ·subst e2;rw[hV e1];exact hJ h1
   ·rw[hV e2] at h2;have h2:=of_decide_eq_true h2;rw[hV (by lia)];exact hJ (by lia)
theorem zK:∀a b c,gY a c=true->gY a b=true\/gY b c=true
 | [],[],_::_,_=>.inr rfl
 | [],_::_,_::_,_=>.inl rfl
 | [],_,[],h=>by cases h
 |_::_,_,[],h=>by cases h
 |_::_,[],_::_,_=>.inr rfl
 |x::xs,y::ys,z::zs,h=>by
  unfold gY at h ⊢;by_cases e:x=z
  ·subst e;rw[hZ rfl] at h;by_cases e2:x=y
   ·subst e2;rw[hZ rfl,hZ rfl];exact zK xs ys zs h
   ·rw[hV e2,hV (λq=>e2 q.symm),decide_eq_true_eq,decide_eq_true_eq];lia
  ·rw[hV e] at h;have h:=of_decide_eq_true h;by_cases e2:x=y
   ·subst e2;exact .inr (by rw[hV e];exact hJ h)
   ·by_cases e3:y=z
    ·subst e3;exact .inl (by rw[hV e];exact hJ h)
    ·rw[hV e2,hV e3,decide_eq_true_eq,decide_eq_true_eq];lia
theorem nJ:∀a b,gY a b=false->gY b a=false->a=b
 | [],[],_,_=>rfl
 | [],_::_,h,_=>by cases h
 |_::_,[],_,h=>by cases h
 |x::xs,y::ys,h1,h2=>by
  unfold gY at h1 h2;by_cases e:x=y
  ·subst e;rw[hZ rfl] at h1 h2;rw[nJ xs ys h1 h2]
  ·rw[hV e] at h1;rw[hV (λq=>e q.symm)] at h2;have h1:=of_decide_eq_false h1;have h2:=of_decide_eq_false h2;lia
noncomputable def BM:adK:=⟨List Int,gY,lD,uI,zK,nJ⟩
noncomputable def xE (h:Z9)(v:XY):List Int:=match v with
 | .ref a=>match h.get? a with
  |some o=>match o.data with
   | .seq aA _=>aA.toList.map numOf
   |_=>[]
  |none=>[]
 |_=>[]
def zL (h:Z9)(v:XY):Prop:=∃a aA ns,v=.ref a/\h.IsTuple a aA/\aaU aA.toList ns/\ns≠[]
theorem zM:∀{vs:List XY} {ns:List Int},aaU vs ns->vs.map numOf=ns
 |_,_,.nil=>rfl
 |_,_,.cons n t r=>by rw[X5,zM r];rfl
theorem oW {aA:Array XY}(t:h.IsTuple a aA)(i:aaU aA.toList ns):xE h (.ref a)=ns:=by
 obtain⟨o,e,_,n,d⟩:=t;unfold xE;dsimp only;rw[e];dsimp only;rw[d];exact zM i
section
variable {w:Y6}{A:YG}{fin:Bool}{Q:Bool->Ya->Prop}
theorem zN:∀{xs ys:List XY} {ns ms:List Int} {i:Nat},aaU xs ns->aaU ys ms->fin=decide (ns.length<ms.length)->Q (gY ns ms) s->KatLex prog w A b fin Q (xs.zip ys) i s
 |_,_,_,_,i,.nil,.nil,hf,h=>by subst hf;exact kat_nil h
 |_,_,_,_,i,.nil,.cons m t r,hf,h=>by subst hf;exact kat_nil (by rw[show decide (([]:List Int).length<(m::_).length)=true from hJ (by simp)];exact h)
 |_,_,_,_,i,.cons n t r,.nil,hf,h=>by subst hf;exact kat_nil (by rw[show decide ((n::_).length<([]:List Int).length)=false from hU (by simp)];exact h)
 |_,_,_,_,i,.cons n t r,.cons m u q,hf,h=>by
  refine kat_cons (wpAny_eqBool_int ?_);unfold gY at h;by_cases e:n=m
  ·subst e;rw[hZ rfl] at h;rw[beq_self_eq_true];refine kat_yes (zN r q ?_ h);rw[hf];simp
  ·rw[hV e] at h;rw[show (n==m)=false from beq_eq_false_iff_ne.mpr e];refine kat_no ?_;cases hb:(b&&i==0) with
   |true=>exact oneLt_int h
   |false=>exact kat_one _ _ (lt_int h)
theorem Kw {hp:Z9}(keep:∀v,zL hp v->zL s.heap v/\xE s.heap v=xE hp v):mX (Yw prog w) A E s BM (λx=>xE hp x.1) (tuples' true) (λx=>zL hp x.1) where
 lt:=λx y st Q dx dy kd q=>by
  obtain⟨k1,k2⟩:=keep _ dx;obtain⟨k3,k4⟩:=keep _ dy;obtain⟨a,xs,ns,e1,t1,i1,_⟩:=k1;obtain⟨c,ys,ms,e2,t2,i2,_⟩:=k3;rw[←k2,←k4,e1,e2,oW t1 i1,oW t2 i2] at q;rw[lt'_eq];refine Yc (adt ?_);rw[kd,e1,e2];obtain⟨o1,g1,_,n1,d1⟩:=t1;obtain⟨o2,g2,_,n2,d2⟩:=t2;refine Yc (wpS_lift (aar (kat_lt g1 d1 g2 d2 (zN i1 i2 ?_ ⟨rfl,?_⟩))))
  ·rw[←i1.length,←i2.length,X0,X0]
  ·exact Yh q
end
end Hc.Ts
namespace Hc.Dw
open PySem.W PySem.Calls
section
variable {w:Y6}{A:YG}{d r I:Ye}{ds:Array DictEntry}
theorem zO {T:String}{P:Nat->XY->Prop}{OK:Z9->Prop}(K:KdlSrc prog w T r d n P OK)(hh:A.handled=none)(hok:OK s.heap)(hn:n<=XU){Q:List XY->Ya->Prop}(q:∀h' tk b9,(∀b o,s.heap.get? b=some o->h'.get? b=some o)->ItemsOf P b9 n->Q b9.toList {s with heap:=h',toks:=tk}):Yg (Yw prog w) A (collect (.ref r)) Q E s:=by
 have lt:=K.there _ hok;unfold collect;refine XM (adm (Zl PySem.F.entry_proto_collect ?_));rw[Y_ PySem.F.plain_proto_collect _];change Yg _ A.in1 (newList [] >>= λl=>again (.builtin "list.__iadd__" ⟨[l,.ref r],[]⟩)) _ _ s;refine XM (YY (XS ⟨aa_ PySem.F.plain_list_iadd _,Zl PySem.F.entry_list_iadd ?_⟩));rw[Y_ PySem.F.plain_list_iadd _];have hS:(s.heap.push {cls:=.type "list",data:=.seq ([]:List XY).toArray}).get? s.heap.objs.size=some {cls:=.type "list",data:=.seq (List.toArray []) 0}:=X8 _ rfl;change Yg _ A.in1 (ZU (.ref s.heap.objs.size) (.ref r) (.ref s.heap.objs.size)) _ _ _;refine kdl_extend (A:=A) (R:=λx s'=>match x with
  | .ok (.ret v)=>Yg (Yw prog w) A (match v with
   | .ref a=>do match (←load a).data with
    | .seq xs _=>pure xs.toList
    |_=>abI "internal:collect"
   |_=>abI "internal:collect") Q E s'
  | .ok _=>False
  | .error e=>E e s') (s:={s with heap:=s.heap.push {cls:=.type "list",data:=.seq ([]:List XY).toArray}}) K hh (K.keep _ _ hok λb _ o e=>XQ _ e) _ (Y2 lt.1) (Y2 lt.2) _ 0 hS (λh' tk b9 c' k' AY jr=>?_) hn
 change Yg _ A (load s.heap.objs.size >>= _) _ _ _;refine XM (ady AY ?_);exact XS (q h' tk b9 (λb o e=>k' b o (Ym (X_ e)) (XQ _ e)) jr)
end
end Hc.Dw
namespace Hc.Sy
open PySem.SetTable Hc.Sx
def Pu:Slot "set_iterator" "__next__" "set_iterator.__next__":=by
 refine .of (owner:="set_iterator") (n:="__next__") ?_ (by decide+kernel) (by decide+kernel) (by decide+kernel) ?_ ?_
 ·rw[acU,abr];kernel_rfl
 ·first|exact .inl (by decide+kernel)|exact .inr (by decide+kernel)
 ·rw[isSubtype_type];kernel_rfl
def U6:entryFor table "set_iterator.__next__"=some Builtin.«set_iterator.__next__»:=entryFor_of_tree (by kernel_rfl)
def U7 (a:XY):argsOk "set_iterator.__next__" ⟨[a],[]⟩:=by unfold argsOk;kernel_rfl
def U8:Slot "set_iterator" "__iter__" "set_iterator.__iter__":=by
 refine .of (owner:="set_iterator") (n:="__iter__") ?_ (by decide+kernel) (by decide+kernel) (by decide+kernel) ?_ ?_
 ·rw[acU,abr];kernel_rfl
 ·first|exact .inl (by decide+kernel)|exact .inr (by decide+kernel)
 ·rw[isSubtype_type];kernel_rfl
def VZ:entryFor table "set_iterator.__iter__"=some Builtin.«dict_keyiterator.__iter__»:=entryFor_alias (id':="dict_keyiterator.__iter__") (by kernel_rfl) rfl (by decide+kernel) (by kernel_rfl)
def V0 (a:XY):argsOk "set_iterator.__iter__" ⟨[a],[]⟩:=by unfold argsOk;kernel_rfl
def V1:entryFor table "set.__iter__"=some Builtin.«frozenset.__iter__»:=entryFor_alias (id':="frozenset.__iter__") (by kernel_rfl) rfl (by decide+kernel) (by kernel_rfl)
def V2 (a:XY):argsOk "set.__iter__" ⟨[a],[]⟩:=by unfold argsOk;kernel_rfl
def mL (w:Y6)(h:Z9)(a:Ye)(es:Array (Int×XY))(ep:Nat)(t:abC):Prop:=
 ∃o,h.get? a=some o/\o.ExactSet/\o.data=.set es ep t/\t.fits es.size=true/\t.plain=true/\(AW w=true\/t.led=true)/\Qx t.place/\t.place.size=es.size
theorem mL.at {w:Y6}(x:mL w h a es ep t)(e:∀o,h.get? a=some o->h'.get? a=some o):mL w h' a es ep t:=by
 obtain⟨o,q,r⟩:=x;exact⟨o,e o q,r⟩
theorem mL.ty {w:Y6}(x:mL w s.heap a es ep t):s.TypeIs (.ref a) "set":=by
 obtain⟨o,e,c,_⟩:=x;exact⟨o,e,c.1⟩
theorem mL.lt {w:Y6}(x:mL w h a es ep t):a<h.objs.size:=by
 obtain⟨o,e,_⟩:=x;exact X_ e
noncomputable def vA (w:Y6)(a:Ye)(ep:Nat)(es:Array (Int×XY)):Array (Int×XY):=if AW w=true then adM (w.params.setOrder a ep) es else es
noncomputable def eY (w:Y6)(t:abC):Nat->Nat
 |0=>0
 |i+1=>if AW w=true then 0 else t.place.getD i 0+1
noncomputable def Ou (w:Y6)(a:Ye)(n ep:Nat)(t:abC)(i:Nat):Array XY:=(List.toArray [.int (eY w t i:Nat) 0,.int i 0,.ref a,.int n 0,.int ep 0])
def BN (w:Y6)(h:Z9)(it a:Ye)(n ep:Nat)(t:abC)(i:Nat):Prop:=∃o,h.get? it=some o/\o.cls=.type "set_iterator"/\o.data=.fields (Ou w a n ep t i)
theorem BN.at {w:Y6}(x:BN w h it a n ep t i)(e:∀o,h.get? it=some o->h'.get? it=some o):BN w h' it a n ep t i:=by
 obtain⟨o,q,r⟩:=x;exact⟨o,e o q,r⟩
def fq {A:YG}{α:Type}{x y:Sem α}{Q:α->Ya->Prop}(h:b=false)(q:Yg M A y Q E s):Yg M A (if b=true then x else y) Q E s:=by
 rw[h,hV XR];exact q
section
variable {w:Y6}{A:YG}
theorem QT (x:mL w s.heap a es ep t)(q:Q (.ref s.heap.objs.size) {s with heap:=s.heap.push {cls:=.type "set_iterator",data:=.fields (Ou w a es.size ep t 0)}}):Yg (Yw prog w) A (pyIter (.ref a)) Q E s:=by
 have ty:=x.ty;obtain⟨o,e1,e2,e3,e4,e5,e6,e7,e8⟩:=x;refine wpAny_pyIter_slot ty PySem.F.slot_set_iter (Zd PySem.F.slot_set_iter ty V1 ?_ (V2 _));unfold Builtin.«frozenset.__iter__» Builtin.Frozenset.slot0 slotArgs;simp only[List.isEmpty_nil,aaq,Yj,↓reduceIte,bind_assoc,aaC,bne_self_eq_false];unfold Builtin.Frozenset.addrOf Builtin.Frozenset.sizeOf;refine XM (XS ?_)
 try dsimp only
 refine XM (XS ?_);refine XM (XM (acV e1 e3 e4 (XS ?_)));unfold setDrawn setsByText;refine XM (XM (Zo e1 e3 e4 ?_));dsimp only;refine XM (XM (aal (XS (XS ?_))));have nd:(!(w.params.followText "set-order")&&(!t.plain&&decide (es.size>1)))=false:=by rw[e5];simp
 refine fq nd ?_;refine XM (XS ?_);unfold setEpoch;refine XM (XM (Zo e1 e3 e4 (XS ?_)));refine XM (YY (XS ⟨_,rfl,"set_iterator",_,⟨_,X8 _ rfl,rfl⟩,Pu.lookup,?_⟩));simpa [acx,Ou,eY] using q
theorem xF {Q:Option (XY×Nat)->Ya->Prop}(x:mL w s.heap a es ep t)(hi:i<es.size){e:Int×XY}(he:(vA w a ep es)[i]? = some e)(q:Q (some (e.2,eY w t (i+1))) s) :
  Yg (Yw prog w) A (setNext a (eY w t i) i ep) Q E s:=by
 obtain⟨o,e1,e2,e3,e4,e5,e6,e7,e8⟩:=x;unfold setNext;refine XM (Zo e1 e3 e4 ?_);dsimp only;unfold setsByText;refine XM (XM (aal (XS ?_)));unfold vA at he;by_cases b:AW w=true
 ·rw[hZ b] at he;rw[hZ (show (Yw prog w).w.params.followText "set-order"=true from b),hV (by simp)];unfold setWalk setsByText;refine XM (XM (Zo e1 e3 e4 ?_));dsimp only;refine XM (XM (aal (XS ?_)));rw[hZ (show (Yw prog w).w.params.followText "set-order"=true from b)];refine XM (aal (XS (XS ?_)));have WO:(adM ((Yw prog w).w.params.setOrder a ep) es)[i]? = some e:=he;rw[WO];have z:eY w t i=0:=by
   cases i with
   |zero=>rfl
   |succ i=>show (if AW w=true then 0 else _)=0;rw[hZ b]
  have z':eY w t (i+1)=0:=by show (if AW w=true then 0 else _)=0;rw[hZ b]
  rw[z'] at q;rw[z];exact q
 ·rw[hV b] at he;rw[hV (show ¬(Yw prog w).w.params.followText "set-order"=true from b)];have led:t.led=true:=e6.resolve_left b;have nd:(!t.plain&&decide (es.size>1))=false:=by rw[e5];rfl
  refine fq nd ?_;refine XM (abo (a:=()) (by show (if (!t.led && !es.isEmpty)=true then _ else _)=_;rw[led];rfl) (XS ?_));have hb:below t.place (eY w t i)=i:=by
   obtain⟨b1,b2,b3⟩:=oI (j:=eY w t i) e7;rcases abw (below t.place (eY w t i)) i with z|z|z
   ·exfalso;cases i with
    |zero=>lia
    |succ i=>
     have hs:eY w t (i+1)=t.place.getD i 0+1:=by show (if AW w=true then 0 else _)=_;rw[hV b]
     have g:t.place.getD i 0=t.place[i]'(by lia):=by simp[acm,show i<t.place.size from by lia]
     have:=b2 i (by lia) (by lia);rw[hs,g] at this;lia
   ·exact z
   ·exfalso;have:=b1 i (by lia) z;cases i with
    |zero=>exact absurd this (acS _)
    |succ i=>
     have hs:eY w t (i+1)=t.place.getD i 0+1:=by show (if AW w=true then 0 else _)=_;rw[hV b]
     have g:t.place.getD i 0=t.place[i]'(by lia):=by simp[acm,show i<t.place.size from by lia]
     have r:=(show t.place[i]'(by lia)<t.place[i+1]'(by lia) from e7 i (i+1) (by lia) (by lia) (by lia));rw[hs,g] at this;lia
  rw[hb,he,getElem?_pos t.place i (by lia)];have hs:eY w t (i+1)=t.place.getD i 0+1:=by show (if AW w=true then 0 else _)=_;rw[hV b]
  have g:t.place.getD i 0=t.place[i]'(by lia):=by simp[acm,show i<t.place.size from by lia]
  rw[hs,g] at q;exact q
theorem QU {Q:Option XY->Ya->Prop}(k:BN w s.heap it a es.size ep t i)(x:mL w s.heap a es ep t)(ne:it≠a)(hi:i<es.size){e:Int×XY}(he:(vA w a ep es)[i]? = some e)
  (q:∀h',BN w h' it a es.size ep t (i+1)->aa7 it s.heap h'->Q (some e.2) {s with heap:=h'}):Yg (Yw prog w) A (ab9 (.ref it)) Q E s:=by
 obtain⟨oi,i1,i2,i3⟩:=k;have ty:s.TypeIs (.ref it) "set_iterator":=⟨oi,i1,i2⟩;have x0:=x;obtain⟨o,e1,e2,e3,e4,e5,e6,e7,e8⟩:=x;unfold ab9;refine XM (aar (Y5 (name:=X9 "__next__") ty Pu (Zd Pu ty U6 ?_ (U7 _))));unfold Builtin.«set_iterator.__next__»;refine XM (XS ?_);refine XM (wpAny_fieldsOf i1 i3 ?_);change Yg _ _ (setEntries a >>= _) _ _ s;refine XM (acV e1 e3 e4 ?_);rw[hV (by simp)];change Yg _ _ (setNext a (eY w t i:Int).toNat (i:Int).toNat (ep:Int).toNat >>= _) _ _ s;rw[Ze,Ze,Ze];refine XM (xF x0 hi he ?_);dsimp only;change Yg _ _ (setField (.ref it) 0 _ >>= _) _ _ s;refine XM (acv i1 i3 (by simp[Ou]) ?_);have Vz:=Zv (Obj.mapFields (·.setIfInBounds 0 (acx (eY w t (i+1):Nat)))) i1 (acy (aaR i3 _));have UB:=aaR i3 (·.setIfInBounds 0 (acx (eY w t (i+1):Nat)));change Yg _ _ (setField (.ref it) 1 _ >>= _) _ _ _;refine XM (acv Vz UB (by simp[Ou]) ?_);refine XS ⟨_,rfl,XS (q _ ⟨_,Zv _ Vz (acy (aaR UB _)),(adG ..).trans ((adG ..).trans i2),?_⟩ ((Z5 ..).trans (Z5 ..)))⟩;rw[aaR UB];simp[Ou,acx]
end
end Hc.Sy
namespace Hc.Sy
open PySem.SetTable Hc.Sx PySem.W
section
variable {w:Y6}{A:YG}
theorem Dg {α:Type}(next:Nat->Nat):∀(n k:Nat) (left:List α) (out:Array α),left.length=n->(pickOrder.go next n k left out).toList.Perm (out.toList++left)
 |0,k,left,out,h=>by
  have:left=[]:=ZK h;subst this;unfold pickOrder.go;rw[Yu]
 |n+1,k,left,out,h=>by
  have hl:next k % left.length<left.length:=abv _ (by lia)
  unfold pickOrder.go;rw[XN hl];dsimp only;refine (Dg next n (k+1) _ _ (by rw[List.length_eraseIdx_of_lt hl];lia)).trans ?_;rw[aax,Yi];refine Zh _ ?_;rw[List.eraseIdx_eq_take_drop_succ,List.singleton_append];refine List.perm_middle.symm.trans ?_;rw[←ZC hl,YJ]
def wB {α:Type}(next:Nat->Nat)(xs:Array α):(adM next xs).toList.Perm xs.toList:=by
 have:=Dg next xs.size 0 xs.toList (List.toArray []) (by simp)
 simpa [adM] using this
theorem zP:(vA w a ep es).toList.Perm es.toList:=by
 unfold vA;split
 ·exact wB _ _
 ·exact ZE _
def zQ:(vA w a ep es).size=es.size:=by
 have:=(zP (w:=w) (a:=a) (ep:=ep) (es:=es)).length_eq;simpa using this
theorem xG {Q:Option (XY×Nat)->Ya->Prop}(x:mL w s.heap a es ep t)(q:Q none s):Yg (Yw prog w) A (setNext a (eY w t es.size) es.size ep) Q E s:=by
 obtain⟨o,e1,e2,e3,e4,e5,e6,e7,e8⟩:=x;unfold setNext;refine XM (Zo e1 e3 e4 ?_);dsimp only;unfold setsByText;refine XM (XM (aal (XS ?_)));by_cases b:AW w=true
 ·rw[hZ (show (Yw prog w).w.params.followText "set-order"=true from b),hV (by simp)];unfold setWalk setsByText;refine XM (XM (Zo e1 e3 e4 ?_));dsimp only;refine XM (XM (aal (XS ?_)));rw[hZ (show (Yw prog w).w.params.followText "set-order"=true from b)];refine XM (aal (XS (XS ?_)));have hz:(adM ((Yw prog w).w.params.setOrder a ep) es)[es.size]? = none:=by
   have:=(wB ((Yw prog w).w.params.setOrder a ep) es).length_eq;rw[abg (by simpa using Nat.le_of_eq this)]
  rw[hz];exact q
 ·rw[hV (show ¬(Yw prog w).w.params.followText "set-order"=true from b)];have led:t.led=true:=e6.resolve_left b;have nd:(!t.plain&&decide (es.size>1))=false:=by rw[e5];rfl
  refine fq nd ?_;refine XM (abo (a:=()) (by show (if (!t.led && !es.isEmpty)=true then _ else _)=_;rw[led];rfl) (XS ?_));have hb:es.size<=below t.place (eY w t es.size):=by
   obtain⟨b1,b2,b3⟩:=oI (j:=eY w t es.size) e7;rcases aaO (below t.place (eY w t es.size)) es.size with z|z
   ·exfalso;obtain⟨m,hm⟩:∃m,es.size=m+1:=⟨es.size-1,(by lia)⟩;have hs:eY w t es.size=t.place.getD m 0+1:=by rw[hm];show (if AW w=true then 0 else _)=_;rw[hV b]
    have g:t.place.getD m 0=t.place[m]'(by lia):=by simp[acm,show m<t.place.size from by lia]
    have:=b2 m (by lia) (by lia);rw[hs,g] at this;lia
   ·exact z
  rw[abg hb];exact q
theorem QV {Q:Option XY->Ya->Prop}(hh:A.handled=none)(k:BN w s.heap it a es.size ep t es.size)(x:mL w s.heap a es ep t)
  (q:∀h',Heap.ExtBut it s.heap h'->Q none {s with heap:=h'}):Yg (Yw prog w) A (ab9 (.ref it)) Q E s:=by
 obtain⟨oi,i1,i2,i3⟩:=k;have ty:s.TypeIs (.ref it) "set_iterator":=⟨oi,i1,i2⟩;have x0:=x;obtain⟨o,e1,e2,e3,e4,e5,e6,e7,e8⟩:=x;unfold ab9;refine XM (aar (Y5 (name:=X9 "__next__") ty Pu (Zd Pu ty U6 ?_ (U7 _))));unfold Builtin.«set_iterator.__next__»;refine XM (XS ?_);refine XM (wpAny_fieldsOf i1 i3 ?_);change Yg _ _ (setEntries a >>= _) _ _ s;refine XM (acV e1 e3 e4 ?_);rw[hV (by simp)];change Yg _ _ (setNext a (eY w t es.size:Int).toNat (es.size:Int).toNat (ep:Int).toNat >>= _) _ _ s;rw[Ze,Ze,Ze];refine XM (xG x0 ?_);dsimp only;change Yg _ _ (setField (.ref it) 2 .none >>= _) _ _ s;refine XM (acv i1 i3 (by simp[Ou]) ?_);change Yg _ _ (newExc (.type "StopIteration") [] >>= _) _ _ _;refine XM ?_;simp only[newExc,newTuple];refine XM (YY (hd:=by size_fits) ?_);refine XM (m:=adn _ _) (abo (a:=Value.none) (by first|rfl|(simp only[adn];rfl)) (YY (hd:=by size_fits) ?_));simp only[raiseNew];refine XM (wpAny_handled ?_);rw[show A.in1.handled=none from hh];refine XM (XS (wpAny_throw ?_));refine XM (acE (b:=true) (T:="StopIteration") ⟨_,X8 _ rfl,rfl⟩ isSubtype_stop ?_);exact XS (q _ (((Z5 ..).extBut.push _).push _))
theorem Ov (hh:A.handled=none)(Sn:a≠it):Walks prog w A it [it,a] [it] es.size (λi v=>∃e,(vA w a ep es)[i]? = some e/\v=e.2) (λi h=>BN w h it a es.size ep t i/\mL w h a es ep t) where
 sub:=λb hb=>by simp at hb;simp[hb]
 frame:=λ_ _ _ st hk=>⟨st.1.at λo e=>hk it (by simp) o e,st.2.at λo e=>hk a (by simp) o e⟩
 item:=λi s Q E hi st hQ=>by
  have EU:i<(vA w a ep es).size:=by rw[zQ];exact hi
  exact QU st.1 st.2 (acN Sn) hi (getElem?_pos _ i EU) λh' t' sb=>hQ _ h' s.toks ⟨_,getElem?_pos _ i EU,rfl⟩ ⟨t',st.2.at λo e=>sb.extBut _ _ Sn e⟩ λb o hb e=>sb.extBut b o (λh=>hb (by simp[h])) e
 done:=λs Q E st hQ=>QV hh st.1 st.2 λh' eb=>hQ h' s.toks λb o hb e=>eb b o (λh=>hb (by simp[h])) e
 self:=λi s Q E st hQ=>by
  obtain⟨oi,i1,i2,i3⟩:=st.1;have ty:s.TypeIs (.ref it) "set_iterator":=⟨oi,i1,i2⟩;refine wpAny_pyIter_slot ty U8 (Zd U8 ty VZ ?_ (V0 _));change Yg _ _ (ret (.ref it)) _ _ s;exact XS ⟨_,rfl,"set_iterator",_,ty,Pu.lookup,hQ⟩
theorem QW {Q:Bool->Ya->Prop}(hT:s.TypeIs (.ref a) "set")(h:Q false s):Yg (Yw prog w) A (aaF (.ref a)) Q E s:=by
 unfold aaF;refine XM (acW hT PySem.F.slot_set_len.lookup ?_);generalize hid:("set.__len__":String)=id0
 wp_delta
 rw[show splitId id0=some ("set","__len__") from by subst hid;decide+kernel];subst hid;refine XM (acE (T:="set") (b:=true) hT (by rw[isSubtype_type];kernel_rfl) ?_);refine wpAny_ite_split (λAO=>absurd AO (by decide)) (λ_=>?_);refine wpAny_ite_split (λ_=>?_) (λAO=>absurd (by decide+kernel) AO);refine XM (abk hT ?_);exact XS h
def TL:KdlSrc prog w "set" a a es.size (λi v=>∃e,(vA w a ep es)[i]? = some e/\v=e.2) (λh=>mL w h a es ep t) where
 type:=λ_ hm=>hm.ty
 there:=λ_ hm=>⟨hm.lt,hm.lt⟩
 keep:=λ_ _ hm hk=>hm.at λo e=>hk a (.inl rfl) o e
 notList:=by decide
 notTuple:=by decide
 hint:=λ_ _ _ _ hm hq=>QW hm.ty hq
 iter:=λ_ s hh hm=>⟨_,_,(λ_ _ hq=>QT hm hq),Ov hh (Ym hm.lt),⟨⟨_,X8 _ rfl,rfl,rfl⟩,hm.at λo e=>XQ _ e⟩⟩
end
end Hc.Sy
namespace Hc.Sy
open PySem.SetTable Hc.Sx PySem.W
noncomputable abbrev tI (prog:aaT)(w:Y6):acu prog w (List Int):=tupleKind (intKind prog w)
section
variable {w:Y6}{A:YG}
theorem uJ {α β:Type}(f:α->β->Sem (ForInStep β))(b:β)(xs:Array α)(h:∀x∈xs.toList,f x b=pure (.yield b)):forIn xs b f=pure b:=by
 rw[←Array.forIn_toList];generalize xs.toList=l at h
 induction l with
 |nil=>rfl
 |cons x l ih=>
  rw[aa4,h x X2,pure_bind];exact ih λy hy=>h y (X4 _ hy)
def Mz {aA:Array XY}{o:Obj}{Q:Option (Array XY)->Ya->Prop}(e1:s.heap.get? a=some o)(e3:o.data=.seq aA n)(q:Q (some aA) s):Yg (Yw prog w) A (seqItems? (.ref a)) Q E s:=by
 unfold seqItems?;refine XM (ady e1 ?_);rw[e3];exact XS q
theorem uK {ks:List Int}{vs:List XY}(h:ItemsAre (intKind prog w) ks vs):∀v∈vs,∃n t,v=.int n t:=by
 induction h with
 |nil=>intro v hv;cases hv
 | @cons k v' ks vs h1 _ ih=>
  intro v hv;rcases Yb.mp hv with rfl|hv
  ·obtain⟨t,rfl⟩:=Value.isInt_shape h1;exact⟨k,t,rfl⟩
  ·exact ih v hv
theorem V3:qG (tI prog w) where
 cls:=λ{A E s k a Q} hk q=>by
  obtain⟨o,aA,n,e1,e2,e3,e4⟩:=hk;have ty:s.TypeIs (.ref a) "tuple":=⟨o,e1,e2⟩;unfold ofAClassStatement;refine XM (abk ty ?_);change Yg _ _ (pure true >>= _) _ _ s;refine XM (XS ?_);change Yg _ _ (seqItems? (.ref a) >>= _) _ _ s;refine XM (Mz e1 e3 ?_);dsimp only;rw[uJ]
  ·exact XM (XS (XS q))
  ·intro x hx;obtain⟨n,t,rfl⟩:=uK e4 x hx;rfl
 byv:=λ{A E s k a Q} hk q=>by
  obtain⟨o,aA,n,e1,e2,e3,e4⟩:=hk;have ty:s.TypeIs (.ref a) "tuple":=⟨o,e1,e2⟩;unfold hashByValue;refine XM (acW ty PySem.F.slot_tuple_hash.lookup ?_);change Yg _ _ (seqItems? (.ref a) >>= _) _ _ s;refine XM (Mz e1 e3 ?_);dsimp only[Option.getD];rw[uJ]
  ·exact XM (XS (XS q))
  ·intro x hx;obtain⟨n,t,rfl⟩:=uK e4 x hx;rfl
 kept:=λ{h h' k a d o es ep t} hk ho hd hs=>by
  obtain⟨o1,aA,n,e1,e2,e3,e4⟩:=hk;have ne:a≠d:=λz=>by
   subst z;rw[e1] at ho;cases ho;rw[e3] at hd;cases hd
  exact⟨o1,aA,n,hs.extBut _ _ ne e1,e2,e3,e4⟩
end
end Hc.Sy
namespace L2
open Hc.Dw Hc.Ts
noncomputable def QX:V->Int
 | .int i=>i
 |_=>0
noncomputable def d_ (H:Hp)(b:Ye):List Int:=match H b with
 |some (.tup xs)=>xs.map QX
 |_=>[]
theorem zS (ns:List Int):(ns.map V.int).map QX=ns:=by
 induction ns with
 |nil=>rfl
 |cons n r ih=>rw[X5,X5,ih];rfl
theorem qh:∀{bs:List Ye} {aA:List XY},bw (bs.map V.ref) aA->aA=bs.map Value.ref
 | [],_,.nil=>rfl
 |b::bs,_,.cons r t=>by rw[X5,qh t];cases r;rfl
theorem wC:∀(bs:List Ye),bw (bs.map V.ref) (bs.map Value.ref)
 | []=>.nil
 |b::bs=>.cons rfl (wC bs)
theorem wD {bs:List Ye}{out:List XY}(h:out.Perm (bs.map Value.ref)):∃kW:List Ye,out=kW.map Value.ref/\kW.Perm bs:=by
 let g:XY->Ye:=λv=>match v with
  | .ref a=>a
  |_=>0
 refine⟨out.map g,?_,?_⟩
 ·rw[Yd]
  conv=>lhs;rw[←List.map_id out]
  apply ZL;intro v hv;obtain⟨b,_,rfl⟩:=Yn.mp (h.mem_iff.mp hv);rfl
 ·have:=h.map g;rw[Yd] at this;have e:bs.map (g∘Value.ref)=bs:=by
   conv=>rhs;rw[←List.map_id bs]
   apply ZL;intro b _;rfl
  rw[e] at this;exact this
theorem Kx (I:aP X pins σ H s){b:Ye}(h:H b=some (.tup (ns.map V.int)))(n:ns≠[]):zL s.heap (.ref b)/\xE s.heap (.ref b)=d_ H b:=by
 obtain⟨_,aA,rv,it,_⟩:=I.hok b _ h;have ia:=i8 rv;refine⟨⟨b,aA.toArray,ns,rfl,it,by simpa using ia,n⟩,?_⟩;rw[oW it (by simpa using ia)];unfold d_;rw[h];exact (zS ns).symm
theorem wF {v:XY}(t:zL h v)(k:∀b aA,h.IsTuple b aA->h'.IsTuple b aA):zL h' v/\xE h' v=xE h v:=by
 obtain⟨a,aA,ns,rfl,q,i,n⟩:=t;refine⟨⟨a,aA,ns,rfl,k a aA q,i,n⟩,?_⟩;rw[oW q i,oW (k a aA q) i]
theorem Dh {h:Z9}:∀{vs:List XY},(∀v∈vs,zL h v)->∃fs,PySem.W.KatTups h vs fs/\fs.length=vs.length/\∀f∈fs,∃n t,f=.int n t
 | [],_=>⟨[],.nil,rfl,λf hf=>by cases hf⟩
 |v::vs,hv=>by
  obtain⟨fs,k1,k2,k3⟩:=Dh (vs:=vs) λu hu=>hv u (X4 _ hu);obtain⟨a,aA,ns,rfl,⟨o,e,c,n,d⟩,i,ne⟩:=hv v X2;have:∃m t r,aA.toList=.int m t::r:=by
   generalize aA.toList=l at i;cases i with
   |nil=>exact absurd rfl ne
   |cons m t r=>exact⟨m,t,_,rfl⟩
  obtain⟨m,t,r,el⟩:=this;refine⟨.int m t::fs,.cons e c d (by rw[←YB,el];rfl) k1,by rw[X1,X1,k2],λf hf=>?_⟩;rcases Yb.mp hf with rfl|hf
  ·exact⟨m,t,rfl⟩
  ·exact k3 f hf
noncomputable def QY:XY->Ye
 | .ref a=>a
 |_=>0
theorem uL {O:adK}{p:Ye}{bs:List Ye}{Q:VK}(kf:Ye->O.α)(knd:abF)(I:aP X pins σ H s)(hz:bs.length<=1000000)(hu:X.A.units+64<abH)
  (kk:∀(A:YG) (E:XY->Ya->Prop) (mG:List Ye) (s6:Ya) (Q6:abF->Ya->Prop),mG.Perm bs->2<=mG.length->(∀b o,s.heap.get? b=some o->s6.heap.get? b=some o)->Q6 knd s6->Yg (Yw X.prog X.w) A (keyKind' (mG.map Value.ref).toArray) Q6 E s6)
  (kc:2<=bs.length->∀(A:YG) (E:XY->Ya->Prop) (s6:Ya),A.units<abH->(∀b o,s.heap.get? b=some o->s6.heap.get? b=some o)->mX (Yw X.prog X.w) A E s6 O (λx=>kf (QY x.1)) knd (λx=>∃b∈bs,x.1=.ref b))
  (col:∀(Q:List XY->Ya->Prop) (E:XY->Ya->Prop),(∀h1 tk (mG:List Ye),mG.Perm bs->(∀b o,s.heap.get? b=some o->h1.get? b=some o)->Q (mG.map Value.ref) {s with heap:=h1,toks:=tk})->Yg (Yw X.prog X.w) X.A.in1 (collect (.ref p)) Q E s)
  (q:∀(l:Ye) (kW:List Ye),H l=none->kW.Perm bs->kW.Pairwise (λx y=>O.blt (kf y) (kf x)=false)->Q (.ref l) (dF H l (.lst (kW.map V.ref)))) :
  Yg (Yw X.prog X.w) X.A (call (.builtin "sorted") [.ref p]) (EP X pins σ Q) X.xe s:=by
 refine Calls.call_function_entry kind_sorted plain_sorted entry_sorted (args_sorted1 _) ?_;unfold Builtin.«sorted»;refine XM (m:=checkCount "sorted" 1 1 _) (XS ?_);refine XM (col _ _ λh1 tk mG IS k1=>?_);have hz:mG.length<=1000000:=by rw[IS.length_eq];exact hz
 have O_:mG.length<=XU:=by rw[aaA];lia
 have I1:aP X pins σ H {s with heap:=h1,toks:=tk}:=I.kept (t':=tk) k1;refine XM (wpAny_newList ?_ (by rw[XO];exact O_));have PL:(h1.push {cls:=.type "list",data:=.seq (mG.map Value.ref).toArray}).get? h1.objs.size=some (seqObj "list" (mG.map Value.ref).toArray 0):=X8 _ rfl;have kt:∀(h6:Z9),(∀b o,b≠h1.objs.size->(h1.push {cls:=.type "list",data:=.seq (mG.map Value.ref).toArray}).get? b=some o->h6.get? b=some o)->∀b o,s.heap.get? b=some o->h6.get? b=some o:=λh6 k6 b o e=>
  k6 b o (Ym (X_ (k1 b o e))) (XQ _ (k1 b o e))
 refine XM (Y4 (Zd slot_list_sort ⟨_,PL,rfl⟩ entry_list_sort (Hx (s:={s with heap:=h1.push {cls:=.type "list",data:=.seq (mG.map Value.ref).toArray},toks:=tk}) (O:=O) (key:=λx=>kf (QY x.1)) (knd:=knd) (D:=λx=>∃b∈bs,x.1=.ref b) PL (by rw[XO];exact hz)
  (λh2 h6 Q6 k6 q6=>kk _ _ mG _ _ IS (by rw[XO] at h2;exact h2) (kt h6 k6) q6) (λh2 h6 k6=>kc (by rw[XO] at h2;rw[←IS.length_eq];exact h2) _ _ _ (by show X.A.units+1+1<abH;lia) (kt h6 k6)) (λv hv=>by
   obtain⟨b,hb,rfl⟩:=Yn.mp hv;exact⟨b,IS.mem_iff.mp hb,rfl⟩) λout hp hw=>⟨_,rfl,?_⟩) (args_list_sort _)))
 obtain⟨kW,e,Jh⟩:=wD hp;subst e;obtain⟨ee,he⟩:=sortedHeap_at (out:=(kW.map Value.ref).toArray) PL;have keep:∀b o,h1.get? b=some o->(sortedHeap (h1.push {cls:=.type "list",data:=.seq (mG.map Value.ref).toArray}) h1.objs.size (mG.map Value.ref) (kW.map Value.ref).toArray).get? b=some o:=λb o e=>by
  have hb:=X_ e;rw[sortedHeap_old (Ym hb) (by rw[aas];exact aci hb)];exact XQ _ e
 have IG:(kW.map V.ref).length<=XU:=by rw[XO,Jh.length_eq];exact O_
 refine XS ⟨_,rfl,.ref h1.objs.size,_,I1.laid (t':=tk) keep (X6 _) (show cD X.prog X.w _ _ _ (.lst _) from ⟨IG,kW.map Value.ref,ee,wC kW,by simpa using he⟩),rfl,q _ kW (I1.hok.fresh (X6 _)) (Jh.trans IS) ?_⟩;exact Z4.mp hw
theorem zT {p:Ye}{bs:List Ye}{Q:VK}(I:aP X pins σ H s)(hz:bs.length<=1000000)(hu:X.A.units+64<abH)(tu:∀b∈bs,∃ns:List Int,H b=some (.tup (ns.map V.int))/\ns≠[])
  (col:∀(Q:List XY->Ya->Prop) (E:XY->Ya->Prop),(∀h1 tk (mG:List Ye),mG.Perm bs->(∀b o,s.heap.get? b=some o->h1.get? b=some o)->Q (mG.map Value.ref) {s with heap:=h1,toks:=tk})->Yg (Yw X.prog X.w) X.A.in1 (collect (.ref p)) Q E s)
  (q:∀(l:Ye) (kW:List Ye),H l=none->kW.Perm bs->kW.Pairwise (λx y=>gY (d_ H y) (d_ H x)=false)->Q (.ref l) (dF H l (.lst (kW.map V.ref)))) :
  Yg (Yw X.prog X.w) X.A (call (.builtin "sorted") [.ref p]) (EP X pins σ Q) X.xe s:=by
 have tI:∀b∈bs,zL s.heap (.ref b)/\xE s.heap (.ref b)=d_ H b:=λb hb=>by
  obtain⟨ns,e,ne⟩:=tu b hb;exact Kx I e ne
 have kt:∀(h6:Z9),(∀b o,s.heap.get? b=some o->h6.get? b=some o)->∀b aA,s.heap.IsTuple b aA->h6.IsTuple b aA:=λh6 k6 b aA ⟨o,e,z⟩=>⟨o,k6 b o e,z⟩;refine uL (O:=BM) (d_ H) (tuples' true) I hz hu (λA E mG s6 Q6 IS h2 k6 q6=>?_) (λ_ A E s6 hA k6=>?_) col q
 ·obtain⟨fs,f1,f2,f3⟩:=Dh (h:=s6.heap) (vs:=mG.map Value.ref) λv hv=>by
   obtain⟨b,hb,rfl⟩:=Yn.mp hv;exact (wF (tI b (IS.mem_iff.mp hb)).1 (kt _ k6)).1
  exact PySem.W.kat_kind (T:=.type "int") f1 (by rw[f2,XO];lia) (λv hv=>by
   obtain⟨n,t,rfl⟩:=f3 v hv;exact PySem.W.Looks.of_pure rfl) (by decide) q6
 ·have c:=Kw (prog:=X.prog) (w:=X.w) (A:=A) (E:=E) (s:=s6) (hp:=s.heap) λv hv=>wF hv (kt _ k6);refine⟨λx y st Q dx dy kd qq=>?_⟩;obtain⟨b,hb,e1⟩:=dx;obtain⟨d,hd,e2⟩:=dy;refine c.lt x y st Q (by rw[e1];exact (tI b hb).1) (by rw[e2];exact (tI d hd).1) kd ?_;rw[e1,e2,(tI b hb).2,(tI d hd).2];rw[e1,e2] at qq;exact qq
end L2
namespace L2
open Hc.Dw Hc.Ts
noncomputable def aF (ns:List Int):U:=.tup (ns.map .int)
noncomputable def Hy:U->Option (List Int)
 | .tup xs=>match ka xs with
  |some (n::ns)=>some (n::ns)
  |_=>none
 |_=>none
noncomputable def wG:List U->Option (List (List Int))
 | []=>some []
 |u::us=>match Hy u,wG us with
  |some ns,some A4=>some (ns::A4)
  |_,_=>none
noncomputable def Ey (x:List Int):List (List Int)->List (List Int)
 | []=>[x]
 |y::r=>if gY y x=true then y::Ey x r else x::y::r
noncomputable def rf (l:List (List Int)):List (List Int):=l.foldr Ey []
theorem qi (x:List Int):∀l,(Ey x l).Perm (x::l)
 | []=>.refl _
 |y::r=>by
  unfold Ey;split
  ·exact ((qi x r).cons y).trans (.swap x y r)
  ·exact .refl _
theorem eC:∀l,(rf l).Perm l
 | []=>.refl _
 |x::l=>(qi x _).trans ((eC l).cons x)
def QZ (l:List (List Int)):Prop:=l.Pairwise λx y=>gY y x=false
theorem Di (x:List Int):∀{l},QZ l->QZ (Ey x l)
 | [],_=>ab6 _ _
 |y::r,h=>by
  obtain⟨h1,h2⟩:=aai.mp h;unfold Ey;split
  ·rename_i c;refine aai.mpr ⟨λz hz=>?_,Di x h2⟩;rcases Yb.mp ((qi x r).mem_iff.mp hz) with rfl|hz
   ·exact KeyOrd.klt_asymm (O:=BM) c
   ·exact h1 z hz
  ·rename_i c;have c:gY y x=false:=by simpa using c
   refine aai.mpr ⟨λz hz=>?_,h⟩;rcases Yb.mp hz with rfl|hz
   ·exact c
   ·exact YL (O:=BM) (a:=x) (b:=y) (c:=z) c (h1 z hz)
theorem uM:∀l,QZ (rf l)
 | []=>List.Pairwise.nil
 |x::l=>Di x (uM l)
theorem xH:∀{l m:List (List Int)},l.Perm m->QZ l->QZ m->l=m
 | [],m,p,_,_=>(List.nil_perm.mp p).symm
 |x::l,[],p,_,_=>absurd p.length_eq (by simp)
 |x::l,y::m,p,h1,h2=>by
  obtain⟨a1,a2⟩:=aai.mp h1;obtain⟨b1,b2⟩:=aai.mp h2;have e:x=y:=by
   have hx:x∈y::m:=p.mem_iff.mp X2;have hy:y∈x::l:=p.mem_iff.mpr X2;rcases Yb.mp hx with rfl|hx
   ·rfl
   ·rcases Yb.mp hy with rfl|hy
    ·rfl
    ·exact nJ x y (b1 x hx) (a1 y hy)
  subst e;rw[xH (p.cons_inv) a2 b2]
theorem Ky (h:Hy u=some ns):u=aF ns/\ns≠[]:=by
 unfold Hy at h;split at h
 ·split at h
  ·rename_i xs n r e;cases h;rw[oH e];exact⟨rfl,by simp⟩
  ·cases h
 ·cases h
theorem zU:∀{us:List U} {A4:List (List Int)},wG us=some A4->us=A4.map aF/\∀ns∈A4,ns≠[]
 | [],_,h=>by cases h;exact⟨rfl,λns hn=>by cases hn⟩
 |u::us,A4,h=>by
  unfold wG at h;split at h
  ·rename_i ns r e1 e2;cases h;obtain⟨e3,n3⟩:=Ky e1;obtain⟨e4,n4⟩:=zU e2;refine⟨by rw[X5,←e3,←e4],λz hz=>?_⟩;rcases Yb.mp hz with rfl|hz
   ·exact n3
   ·exact n4 z hz
  ·cases h
theorem Hz (h:Rp K H A (aF ns) v):∃b,v=.ref b/\H b=some (.tup (ns.map V.int))/\ns.length<=XU:=by
 unfold aF Rp at h;obtain⟨b,ys,e,q,l,r⟩:=h;rw[r.toI] at q;exact⟨b,e,q,by simpa using l⟩
def Ow {b:Ye}(q:H b=some (.tup (ns.map V.int)))(l:ns.length<=XU):Rp K H A (aF ns) (.ref b):=by
 unfold aF Rp;exact⟨b,_,rfl,q,by simpa using l,tY ns⟩
def sL {b:Ye}(q:H b=some (.tup (ns.map V.int))):d_ H b=ns:=by unfold d_;rw[q];exact zS ns
theorem zV:∀{A4:List (List Int)} {xs:List V},aU K H A (A4.map aF) xs->∃bs:List Ye,xs=bs.map V.ref/\bs.map (d_ H)=A4/\∀b∈bs,H b=some (.tup ((d_ H b).map V.int))/\(d_ H b).length<=XU
 | [],xs,h=>by rw[aaa] at h;unfold aU at h;subst h;exact⟨[],rfl,rfl,λb hb=>by cases hb⟩
 |ns::A4,xs,h=>by
  rw[X5] at h;unfold aU at h;obtain⟨x,r,rfl,h1,h2⟩:=h;obtain⟨b,rfl,q,l⟩:=Hz h1;obtain⟨bs,rfl,e,z⟩:=zV h2;refine⟨b::bs,rfl,by rw[X5,e,sL q],λc hc=>?_⟩;rcases Yb.mp hc with rfl|hc
  ·rw[sL q];exact⟨q,l⟩
  ·exact z c hc
theorem HA {bs:List Ye}(h:∀b∈bs,H b=some (.tup ((d_ H b).map V.int))/\(d_ H b).length<=XU):aU K H A ((bs.map (d_ H)).map aF) (bs.map V.ref):=by
 induction bs with
 |nil=>exact aU.nil
 |cons b bs ih=>exact aU.cons (Ow (h b X2).1 (h b X2).2) (ih λc hc=>h c (X4 _ hc))
end L2
namespace L2
open Hc.Dw Hc.Ts Hc.Sx Hc.Sy
noncomputable def uN (b9:List (List Int))(x:List Int):List (List Int):=if x∈b9 then b9 else b9++[x]
noncomputable def gZ (l:List (List Int)):List (List Int):=l.foldl uN []
def Ez (w:Y6)(l:Ye)(bs:List Ye)(h:Z9):Prop:=∃es ep t,mL w h l es ep t/\(es.toList.map (·.2)).Perm (bs.map Value.ref)
theorem HB {w:Y6}{vs:List XY}(h:aaU vs ns):ItemsAre (intKind prog w) ns vs:=by
 induction h with
 |nil=>exact .nil
 |cons n t _ ih=>exact .cons (intKind_is _ _ _ _) ih
section
variable {e:aaj}{pos pN p1:Pos}{b1:Bool}{ga:Ev->R (List U×Ev)}
noncomputable def oX (H:Hp)(bs:List Ye)(i:Nat):List Int×Ye:=(d_ H (bs.getD i 0),bs.getD i 0)
theorem wH (H:Hp)(bs:List Ye):∀n,n<=bs.length->(eP (oX H bs) n).map (·.1)=gZ ((bs.take n).map (d_ H))
 |0,_=>by simp[eP,gZ]
 |n+1,h=>by
  have hn:n<bs.length:=(by lia)
  have ih:=wH H bs n (by lia);have e1:bs.take (n+1)=bs.take n++[bs[n]]:=Z1 hn;have e2:oX H bs n=(d_ H bs[n],bs[n]):=by unfold oX;simp[ab2,XN hn]
  rw[e1,Yv];unfold gZ at ih ⊢;rw[List.foldl_append,←ih];show (mW (eP (oX H bs) n) (oX H bs n).1 (oX H bs n).2).map (·.1)=uN ((eP (oX H bs) n).map (·.1)) (d_ H bs[n]);rw[e2];unfold mW uN;dsimp only;by_cases c:d_ H bs[n]∈(eP (oX H bs) n).map (·.1)
  ·rw[hZ c,hZ c]
  ·rw[hV c,hV c,Yv];rfl
def zW (H:Hp)(bs:List Ye):(eP (oX H bs) bs.length).map (·.1)=gZ (bs.map (d_ H)):=by
 rw[wH H bs _ (X6 _),aam]
def MA (w:Y6)(K:XX):List V->Hp->VK->Prop:=λxs H Q=>∃(p:Ye) (bs:List Ye),xs=[.ref p]/\fS K H p (bs.map V.ref)/\(∀b∈bs,H b=some (.tup ((d_ H b).map V.int)))/\(gZ (bs.map (d_ H))).length<2046/\
 ∀(l:Ye) (mG:List Ye),H l=none->mG.map (d_ H)=gZ (bs.map (d_ H))->(∀b∈mG,b∈bs)->Q (.ref l) (dF H l (.ext (Ez w l mG)))
theorem EA (hc:X.calm=true)(hu:X.A.units+64<abH):eO X (.type "set") (MA X.w X.K):=by
 intro pins s σ H xs us Q I r h;obtain⟨p,bs,rfl,hs,tu,hb,q⟩:=h;obtain⟨u,rfl,rx⟩:=jF r;cases rx;obtain⟨aA,rv,pl,_⟩:=I.list hs;have e2:=qh rv;subst e2;have sz:(bs.map Value.ref).toArray.size=bs.length:=by simp
 refine zk (knd:=tI X.prog X.w) (val:=oX H bs) V3 (λ{h h' k a} hk m=>?_) (show X.A.units+1+1+1<abH by lia) (I.ok.hd hc) pl.isList (λi v hv=>?_) (λj hj=>?_) ?_ λh' tk hS hk=>?_
 ·obtain⟨o,aA,n,e1,e2,e3,e4⟩:=hk;obtain⟨o',B5,Lk,n',e3'⟩:=m a aA ⟨o,e1,e2,n,e3⟩;exact⟨o',aA,n',B5,Lk,e3',e4⟩
 ·rw[←YB] at hv;rw[Yq] at hv;unfold oX;cases z:bs[i]? with
  |none=>rw[z] at hv;cases hv
  |some b=>rw[z] at hv;simp only[ab2,z,acF];exact (Yl hv).symm
 ·have hj:j<bs.length:=by rw[sz] at hj;exact hj
  have em:bs.getD j 0=bs[j]:=by simp[ab2,XN hj]
  unfold oX;rw[em];obtain⟨_,aA,rv,it,_⟩:=I.hok _ _ (tu _ (YU hj));obtain⟨o,h1,h2,n,h3⟩:=it;exact⟨o,_,n,h1,h2,h3,by simpa using HB (i8 rv)⟩
 ·rw[sz];have:=congrArg Z2 (zW H bs);rw[XO] at this;lia
 ·rw[sz] at hS;obtain⟨o,es,ep,t,C,g1,g2,g3,g4,g5⟩:=hS;have UC:mL X.w h' s.heap.objs.size es ep t:=⟨o,g1,g2,g3,g4.fits,g4.pl,g5,g4.tab.ris,g4.tab.sz⟩;have mem:∀x∈eP (oX H bs) bs.length,x.1=d_ H x.2/\x.2∈bs:=λx hx=>by
   obtain⟨j,hj,rfl⟩:=mj _ _ x hx;refine⟨rfl,?_⟩;have em:bs.getD j 0=bs[j]:=by simp[ab2,XN hj]
   show bs.getD j 0∈bs;rw[em];exact YU hj
  refine⟨.ref s.heap.objs.size,_,I.laid (a:=s.heap.objs.size) (o:=.ext (Ez X.w s.heap.objs.size ((eP (oX H bs) bs.length).map (·.2)))) (t':=tk) hk (X6 _)
   ⟨⟨es,ep,t,UC,?_⟩,⟨o,g1⟩,λh1 h2 ⟨es,ep,t,r,z⟩ k=>⟨es,ep,t,r.at k,z⟩⟩,rfl,q _ _ (I.hok.fresh (X6 _)) ?_ λb hb=>?_⟩
  ·refine (g4.per.map (·.2)).trans (List.Perm.of_eq ?_);rw[Yd,Yd];rfl
  ·rw[←zW H bs,Yd];exact ZL λx hx=>(mem x hx).1.symm
  ·obtain⟨x,hx,rfl⟩:=Yn.mp hb;exact (mem x hx).2
def HC (w:Y6):List V->Hp->VK->Prop:=λxs H Q=>∃(p:Ye) (bs:List Ye),xs=[.ref p]/\H p=some (.ext (Ez w p bs))/\bs.length<=1000000/\(∀b∈bs,∃ns:List Int,H b=some (.tup (ns.map V.int))/\ns≠[])/\
  ∀(l:Ye) (kW:List Ye),H l=none->kW.Perm bs->kW.Pairwise (λx y=>gY (d_ H y) (d_ H x)=false)->Q (.ref l) (dF H l (.lst (kW.map V.ref)))
theorem BO (hc:X.calm=true)(hu:X.A.units+64<abH):eO X (.builtin "sorted") (HC X.w):=by
 intro pins s σ H xs us Q I r h;obtain⟨p,bs,rfl,hs,hz,tu,q⟩:=h;obtain⟨u,rfl,rx⟩:=jF r;cases rx;obtain⟨⟨es,ep,t,UC,per⟩,_,_⟩:=I.hok p _ hs;refine zT I hz hu tu (λQ E hq=>?_) q;have n:es.size=bs.length:=by have:=per.length_eq;simpa using this
 refine zO (A:=X.A.in1) TL (I.ok.hd hc) UC (by rw[n,aaA];lia) λh1 tk b9 k1 ia=>?_;have e:b9.toList=(vA X.w p ep es).toList.map (·.2):=by
  apply acn;intro i;rw[YB,Yq,YB];by_cases hi:i<b9.size
  ·rw[getElem?_pos b9 i hi];obtain⟨en,e1,e2⟩:=ia.2 i _ (getElem?_pos b9 i hi);rw[e1,e2];rfl
  ·rw[getElem?_neg b9 i hi,getElem?_neg _ i (by rw[zQ,←ia.1];exact hi)];rfl
 obtain⟨mG,e3,e4⟩:=wD ((zP.map (·.2)).trans per);rw[e,e3];exact hq h1 tk mG e4 k1
noncomputable def eD:List U->R U:=λus=>match us with
 | [.lst xs]=>match wG xs with
  |some A4=>if (gZ A4).length<2046 then .ok (.lst ((rf (gZ A4)).map aF)) else .stk
  |none=>.stk
 |_=>.stk
theorem oY:∀(l b9:List (List Int)) (x:List Int),x∈l.foldl uN b9->x∈b9\/x∈l
 | [],b9,x,h=>.inl h
 |y::l,b9,x,h=>by
  rcases oY l _ x h with z|z
  ·unfold uN at z;split at z
   ·exact .inl z
   ·rcases Yk.mp z with z|z
    ·exact .inl z
    ·exact .inr (by rw[Yf.mp z];exact X2)
  ·exact .inr (X4 _ z)
theorem zX {w:Y6}:oy K (λvs H Q=>MA w K vs H λx H2=>HC w [x] H2 Q) .O eD:=λA H vs us z Q h mu e q=>by
 unfold eD at e;split at e
 ·rename_i xs;split at e
  ·rename_i A4 e1;split at e
   ·rename_i hl;cases e;obtain⟨v,rfl,p⟩:=h.one;unfold Pk at p;obtain⟨a,ys,rfl,h1,l1,r1⟩:=p;obtain⟨e2,ne⟩:=zU e1;subst e2;obtain⟨bs,rfl,e4,e5⟩:=zV r1;refine⟨a,bs,rfl,fS.of h1,λb hb=>(e5 b hb).1,by rw[e4];exact hl,λl mG hn k2 sub=>?_⟩;have sm:=dI hn (.ext (Ez w l mG));have kb:∀b∈bs,d_ (dF H l (.ext (Ez w l mG))) b=d_ H b:=λb hb=>by
     rw[sL (sm _ _ (e5 b hb).1)]
    have ln:mG.length=(gZ A4).length:=by rw[←e4,←k2,XO]
    refine⟨l,mG,rfl,aQ,(by lia),λb hb=>⟨_,sm _ _ (e5 b (sub b hb)).1,?_⟩,λl' kW MN hp hw=>?_⟩
    ·have:d_ H b∈gZ (bs.map (d_ H)):=by rw[←k2];exact ZM hb
     rcases oY _ _ _ this with z|z
     ·cases z
     ·rw[e4] at z;exact ne _ z
    ·have WQ:(kW.map (d_ H)).Pairwise λx y=>gY y x=false:=by
      refine Z4.mpr (aa6 (λ{x y} hx hy z=>?_) hw);rw[kb x (sub x (hp.mem_iff.mp hx)),kb y (sub y (hp.mem_iff.mp hy))] at z;exact z
     have e7:kW.map (d_ H)=rf (gZ A4):=xH ((hp.map (d_ H)).trans (by rw[k2,e4];exact (eC _).symm)) WQ (uM _);have WR:=sm.trans (dI MN (.lst (kW.map V.ref)));have na:H l'=none:=by
      cases z:H l' with
      |none=>rfl
      |some o=>rw[sm _ _ z] at MN;cases MN
     refine q _ _ WR ⟨l',rfl,na,?_⟩;rw[←e7];refine c9 (λb hb=>?_) ?_ MN ?_
     ·have m:=mu b hb;obtain⟨o,z⟩:=m.ex;rw[sm b o z,←z];exact m
     ·have k3:kW.map (d_ H)=kW.map (d_ (dF H l (.ext (Ez w l mG)))):=ZL λb hb=>(kb b (sub b (hp.mem_iff.mp hb))).symm;rw[k3];refine HA λb hb=>?_;have DL:=sub b (hp.mem_iff.mp hb);rw[kb b DL];exact⟨sm _ _ (e5 b DL).1,(e5 b DL).2⟩
     ·have:XU=16777216:=rfl;rw[XO,XO,hp.length_eq];lia
   ·cases e
  ·cases e
 ·cases e
def jb (hc:X.calm=true)(hu:X.A.units+64<abH)(ha:DA X G [e] b1 true ga)(hm:X.mg "sorted"=none)(RN:X.mg "set"=none)(hg:Gl X "sorted":=by rfl)(Ll:Gl X "set":=by rfl)
  (he:X7 [e] X.env=(false,abh e X.env)::X7 [] X.env:=by rfl) (jZ:(aan pN (X7 [] X.env)).any (·.1)=false:=by rfl)
  (Ss:X7 [.Call (.Name "set" p2) [e] [] pN] X.env=(false,abh (.Call (.Name "set" p2) [e] [] pN) X.env)::X7 [] X.env:=by rfl) (IH:(aan pos (X7 [] X.env)).any (·.1)=false:=by rfl) :
  DE X G (.Call (.Name "sorted" p1) [.Call (.Name "set" p2) [e] [] pN] [] pos) b1 .O (fg eD ga):=⟨(j5 (BO hc hu) hg hm vT (aG (iV (EA hc hu) Ll RN N5 ha.un (by decide) (by decide) he jZ) cM Ss) (by decide) (by decide) Ss IH).to λ_ _ _ h=>xf (p:=true) (zX (K:=X.K)) h⟩
end
end L2
namespace L2
open Hc.Dw Hc.Ts
section
variable {e:aaj}{tl:TE}{AN cpos pos p1:Pos}{b1:Bool}{m1:Md}{g1:Ev->R (U×Ev)}
noncomputable def xI (ns:List Int):Bool:=decide (ns.length<=1000000)&&ns.all λn=>decide (0<=n/\n<=1000000000)
theorem lE (ns:List Int):∀j,j<=ns.length->preSum (λi=>ns.getD i 0) j=(ns.take j).sum
 |0,_=>rfl
 |j+1,h=>by
  unfold preSum;rw[lE ns j (by lia),Z1 (show j<ns.length by lia),List.sum_append];simp[ab2,XN (show j<ns.length by lia)]
theorem wI:∀{ns:List Int},(ns.all λn=>decide (0<=n/\n<=1000000000))=true->0<=ns.sum/\ns.sum<=ns.length*1000000000
 | [],_=>by simp
 |n::ns,h=>by
  rw[Z6,YD] at h;obtain⟨a,b⟩:=wI h.2;have:=of_decide_eq_true h.1;rw[ZY,X1];constructor
  ·lia
  ·push_cast;lia
end
end L2
namespace L2
open Hc.Dw Hc.Ts
noncomputable def uO:XY->Int×Tok
 | .int n t=>(n,t)
 |_=>(0,0)
theorem wJ (h:aaU aA ns):intItems (aA.map uO).toArray=aA.toArray/\∀i,numAt (aA.map uO).toArray i=ns.getD i 0:=by
 constructor
 ·unfold intItems;rw[List.map_toArray,Yd];congr 1
  induction h with
  |nil=>rfl
  |cons n t _ ih=>rw[X5,ih];rfl
 ·induction h with
  |nil=>intro i;unfold numAt;simp
  |cons n t _ ih=>
   intro i;cases i with
   |zero=>unfold numAt;simp[uO]
   |succ i=>
    have:=ih i;unfold numAt at this ⊢;simpa [ab2] using this
def MB (K:XX):List V->Hp->VK->Prop:=λxs H Q=>∃p ns,xs=[.ref p]/\fS K H p (ns.map V.int)/\xI ns=true/\Q (.int ns.sum) H
theorem qj (hc:X.calm=true):eO X (.builtin "sum") (MB X.K):=by
 intro pins s σ H xs us Q I r h;obtain⟨p,ns,rfl,hs,sm,q⟩:=h;obtain⟨u,rfl,rx⟩:=jF r;cases rx;obtain⟨aA,rv,pl,_⟩:=I.list hs;have hI:=i8 rv;obtain⟨t1,t2⟩:=wJ hI;have sz:(aA.map uO).toArray.size=ns.length:=by simp[hI.length]
 unfold xI at sm;rw[YD] at sm;have s1:=of_decide_eq_true sm.1;have fe:numAt (aA.map uO).toArray=λi=>ns.getD i 0:=funext t2;refine sum_intList (xs:=(aA.map uO).toArray) (I.ok.hd hc) (by rw[t1];exact pl.isList) (λj hj=>?_) λh' tk t' k=>?_
 ·rw[sz] at hj;have al:=sm.2;rw[fe];refine⟨?_,?_⟩
  ·have:=YT.mp al ns[j] (YU hj);have:=of_decide_eq_true this;unfold InLong;simp only[ab2,XN hj,acF];lia
  ·rw[lE ns (j+1) (by lia)];have WS:((ns.take (j+1)).all λn=>decide (0<=n/\n<=1000000000))=true:=YT.mpr λx hx=>YT.mp al x (Zq hx);obtain⟨p1,p2⟩:=wI WS;have:(ns.take (j+1)).length<=1000000:=by rw[Ys];lia
   unfold InLong;lia
 ·have e:preSum (numAt (aA.map uO).toArray) (aA.map uO).toArray.size=ns.sum:=by rw[fe,sz,lE ns ns.length (X6 _),aam]
  rw[e];exact⟨.int ns.sum,H,I.kept (t':=tk) k,⟨t',rfl⟩,q⟩
noncomputable def rg:List U->R U:=λus=>match us with
 | [.lst xs]=>match ka xs with
  |some ns=>if xI ns=true then .ok (.int ns.sum) else .stk
  |none=>.stk
 |_=>.stk
theorem uP:oy K (MB K) .S rg:=λA H vs us z Q h mu e q=>by
 unfold rg at e;split at e
 ·rename_i xs;split at e
  ·rename_i ns hb;split at e
   ·rename_i hl;cases e;obtain⟨v,rfl,p⟩:=h.one;unfold Pk at p;obtain⟨a,ys,rfl,h1,l1,r1⟩:=p;rw[oH hb] at r1;rw[r1.toI] at h1;exact⟨a,ns,rfl,fS.of h1,hl,q _ H (aX.refl _) (show Rp K H A _ _ from eR)⟩
   ·cases e
  ·cases e
 ·cases e
noncomputable def uQ:Int->List Int->Int
 |m,[]=>m
 |m,n::ns=>uQ (if m<n then n else m) ns
theorem zY (ns:List Int)(n0:Int):∀j,j<=ns.length->(n0::ns).getD (argBest (λi j=>decide ((n0::ns).getD i 0>(n0::ns).getD j 0)) j) 0=uQ n0 (ns.take j)
 |0,_=>by simp[argBest,uQ]
 |j+1,h=>by
  have ih:=zY ns n0 j (by lia);have hj:j<ns.length:=(by lia)
  have app:∀(l:List Int) (m x:Int),uQ m (l++[x])=if uQ m l<x then x else uQ m l:=by
   intro l
   induction l with
   |nil=>intro m x;rfl
   |cons y l ih=>intro m x;exact ih _ x
  rw[Z1 hj,app,←ih];have g:(n0::ns).getD (j+1) 0=ns[j]:=by simp[ab2,XN hj]
  rw[argBest];by_cases c:(n0::ns).getD (argBest (λi j=>decide ((n0::ns).getD i 0>(n0::ns).getD j 0)) j) 0<ns[j]
  ·rw[hZ c,hZ (by rw[g];exact hJ c),g]
  ·rw[hV c,hV (by rw[g,decide_eq_true_eq];exact c)]
def MC (K:XX):List V->Hp->VK->Prop:=λxs H Q=>∃p n0 ns,xs=[.ref p]/\fS K H p ((n0::ns).map V.int)/\Q (.int (uQ n0 ns)) H
theorem EB (hc:X.calm=true):eO X (.builtin "max") (MC X.K):=by
 intro pins s σ H xs us Q I r h;obtain⟨p,n0,ns,rfl,hs,q⟩:=h;obtain⟨u,rfl,rx⟩:=jF r;cases rx;obtain⟨aA,rv,pl,_⟩:=I.list hs;have hI:=i8 rv;obtain⟨t1,t2⟩:=wJ hI;have sz:(aA.map uO).toArray.size=ns.length+1:=by simp[hI.length]
 have fe:numAt (aA.map uO).toArray=λi=>(n0::ns).getD i 0:=funext t2;refine max_intList (xs:=(aA.map uO).toArray) (I.ok.hd hc) (by rw[t1];exact pl.isList) (by rw[sz];lia) λv h' tk hv k=>?_;obtain⟨t,rfl⟩:=intItems_at hv;rw[sz,adh,fe];dsimp only;rw[zY ns n0 _ (X6 _),aam];exact⟨.int _,H,I.kept (t':=tk) k,⟨t,rfl⟩,q⟩
noncomputable def wK:List U->R U:=λus=>match us with
 | [.lst xs]=>match ka xs with
  |some (n::ns)=>.ok (.int (uQ n ns))
  |_=>.stk
 |_=>.stk
theorem HD:oy K (MC K) .S wK:=λA H vs us z Q h mu e q=>by
 unfold wK at e;split at e
 ·rename_i xs;split at e
  ·rename_i n ns hb;cases e;obtain⟨v,rfl,p⟩:=h.one;unfold Pk at p;obtain⟨a,ys,rfl,h1,l1,r1⟩:=p;rw[oH hb] at r1;rw[r1.toI] at h1;exact⟨a,n,ns,rfl,fS.of h1,q _ H (aX.refl _) (show Rp K H A _ _ from eR)⟩
  ·cases e
 ·cases e
end L2
namespace Hc.Ts
open PySem.W
theorem zZ:∀a b,HT.lexLt a b=gY a b
 | [],[]=>rfl
 | [],_::_=>rfl
 |_::_,[]=>rfl
 |x::xs,y::ys=>by
  rw[HT.lexLt_cons,gY,zZ xs ys]
def nK (h:Z9)(a t b:Ye)(aA:Array XY)(ns:List Int):Prop:=h.IsTuple a (List.toArray [.ref t,.ref b])/\h.IsTuple t aA/\aaU aA.toList ns
theorem nK.keep {t b:Ye}{aA:Array XY}(x:nK h a t b aA ns)(k:∀b o,h.get? b=some o->h'.get? b=some o):nK h' a t b aA ns:=by
 obtain⟨⟨o1,e1,r1⟩,⟨o2,e2,r2⟩,i⟩:=x;exact⟨⟨o1,k _ _ e1,r1⟩,⟨o2,k _ _ e2,r2⟩,i⟩
section
variable {w:Y6}{A:YG}
theorem items_int {vs:List XY}(h:aaU vs ns):ItemsAre (intKind prog w) ns vs:=by
 induction h with
 |nil=>exact .nil
 |cons n t _ ih=>exact .cons (intKind_is _ _ _ _) ih
theorem Q0 {t:Ye}{aA:Array XY}(h:s.heap.IsTuple t aA)(i:aaU aA.toList ns):IsTupleKey (intKind prog w) s.heap ns t:=by
 obtain⟨o,e,c,n,d⟩:=h;exact⟨o,aA,n,e,c,d,items_int i⟩
def Kz {b:Ye}{Q:Bool->Ya->Prop}(q:Q true s):Yg (Yw prog w) A (eqBool (.ref b) (.ref b)) Q E s:=by
 unfold eqBool;refine Y4 ?_;rw[hZ (by simp)];exact XM (aa5 (XS q))
theorem HF {h0:Z9}{bs:List Ye}{kf:Ye->List Int}(hu:A.units<abH)(at_:∀a∈bs,∃t b aA,nK h0 a t b aA (kf a))(inj:∀a∈bs,∀c∈bs,kf a=kf c->a=c)(keep:∀b o,h0.get? b=some o->s.heap.get? b=some o)
  {key:Yr->List Int} (Lm:∀x:Yr,∀a∈bs,x.1=.ref a->key x=kf a):mX (Yw prog w) A E s BM key (tuples' false) (λx=>∃a∈bs,x.1=.ref a) where
 lt:=λx y st Q dx dy kd q=>by
  obtain⟨a,ha,e1⟩:=dx;obtain⟨c,hc,e2⟩:=dy;rw[Lm x a ha e1,Lm y c hc e2] at q;obtain⟨t1,b1,i1,p1⟩:=at_ a ha;obtain⟨t2,b2,i2,p2⟩:=at_ c hc;obtain⟨u1,v1,w1⟩:=p1.keep keep;obtain⟨u2,v2,w2⟩:=p2.keep keep;rw[lt'_eq];refine Yc (adt ?_);rw[kd,e1,e2];have WT:=u1;have WU:=u2;obtain⟨o1,g1,_,n1,d1⟩:=u1;obtain⟨o2,g2,_,n2,d2⟩:=u2;refine Yc (wpS_lift (aar (kat_lt g1 d1 g2 d2 ?_)));refine kat_cons (wpAny_eqBool_tuple (knd:=intKind prog w) hu (Q0 v1 w1) (Q0 v2 w2) ?_);by_cases hk:kf a=kf c
  ·have WV:=inj a ha c hc hk;subst WV;rw[hJ hk];refine kat_yes ?_;obtain⟨_,z1,_,_,z2⟩:=WT;obtain⟨_,z3,_,_,z4⟩:=WU;rw[z1] at z3;cases z3;rw[z2] at z4;cases z4;refine kat_cons (Kz (kat_yes (kat_nil ⟨rfl,?_⟩)));rw[show BM.blt (kf a) (kf a)=false from lD _] at q;exact Yh q
  ·rw[hU hk];refine kat_no (kat_one _ _ (HT.lt_tupInts v1 v2 w1 w2 hu ?_));rw[zZ];exact⟨rfl,Yh q⟩
theorem EC {bs:List Ye}{Q:abF->Ya->Prop}(h2:2<=bs.length)(at_:∀a∈bs,∃t b aA ns,nK s.heap a t b aA ns)(q:Q (tuples' false) s):Yg (Yw prog w) A (keyKind' (bs.map Value.ref).toArray) Q E s:=by
 have kt:∀l:List Ye,(∀a∈l,∃t b aA ns,nK s.heap a t b aA ns)->∃fs,KatTups s.heap (l.map Value.ref) fs/\fs.length=l.length/\∀f∈fs,∃t aA,f=.ref t/\s.heap.IsTuple t aA:=by
  intro l
  induction l with
  |nil=>exact λ_=>⟨[],.nil,rfl,λf hf=>by cases hf⟩
  |cons a l ih=>
   intro h;obtain⟨fs,k1,k2,k3⟩:=ih λc hc=>h c (X4 _ hc);obtain⟨t,b,aA,ns,⟨o,e,c,n,d⟩,v,_⟩:=h a X2;refine⟨.ref t::fs,.cons e c d rfl k1,by rw[X1,X1,k2],λf hf=>?_⟩;rcases Yb.mp hf with rfl|hf
   ·exact⟨t,aA,rfl,v⟩
   ·exact k3 f hf
 obtain⟨fs,k1,k2,k3⟩:=kt bs at_;refine kat_kind (T:=.type "tuple") k1 (by lia) (λv hv=>?_) (by decide) q;obtain⟨t,aA,rfl,o,e,c,_⟩:=k3 v hv;rw[←c];exact (Looks.ld e).andThen .now
end
end Hc.Ts
namespace L2
open Hc.Dw Hc.Ts
noncomputable def jc (H:Hp)(b:Ye):List Int:=match H b with
 |some (.tup [.ref t,_])=>d_ H t
 |_=>[]
def Dj (H:Hp)(b:Ye):Prop:=∃t x,H b=some (.tup [.ref t,.ref x])/\H t=some (.tup ((jc H b).map V.int))
def HG (K:XX):List V->Hp->VK->Prop:=λxs H Q=>∃(p:Ye) (bs:List Ye),xs=[.ref p]/\fS K H p (bs.map V.ref)/\bs.length<=1000000/\(∀b∈bs,Dj H b)/\(bs.map (jc H)).Nodup/\
  ∀(l:Ye) (kW:List Ye),H l=none->kW.Perm bs->kW.Pairwise (λx y=>gY (jc H y) (jc H x)=false)->Q (.ref l) (dF H l (.lst (kW.map V.ref)))
theorem wL {α β:Type}{f:α->β}:∀{l:List α},(l.map f).Nodup->∀a∈l,∀b∈l,f a=f b->a=b
 | [],_,a,ha,_,_,_=>by cases ha
 |x::l,h,a,ha,b,hb,e=>by
  rw[X5] at h;obtain⟨h1,h2⟩:=aaB.mp h;rcases Yb.mp ha with ea|B7
  ·rcases Yb.mp hb with eb|DL
   ·rw[ea,eb]
   ·exact absurd (by rw[←ea,e];exact ZM DL) h1
  ·rcases Yb.mp hb with eb|DL
   ·exact absurd (by rw[←eb,←e];exact ZM B7) h1
   ·exact wL h2 a B7 b DL e
theorem wM (I:aP X pins σ H s){b:Ye}(h:Dj H b):∃t x aA,nK s.heap b t x aA (jc H b):=by
 obtain⟨t,x,h1,h2⟩:=h;obtain⟨_,aA,rv,it,_⟩:=I.hok b _ h1;obtain⟨_,its2,rv2,it2,_⟩:=I.hok t _ h2;cases rv with
 |cons r1 rv=>
  cases rv with
  |cons r2 rv=>
   cases rv;cases r1;cases r2;exact⟨t,x,_,it,it2,by simpa using i8 rv2⟩
theorem BQ (hc:X.calm=true)(hu:X.A.units+64<abH):eO X (.builtin "sorted") (HG X.K):=by
 intro pins s σ H xs us Q I r h;obtain⟨p,bs,rfl,hs,hz,tu,nd,q⟩:=h;obtain⟨u,rfl,rx⟩:=jF r;cases rx;have O_:bs.length<=XU:=by rw[aaA];lia
 refine uL (O:=BM) (jc H) (tuples' false) I hz hu (λA E mG s6 Q6 IS h2 k6 q6=>?_) (λ_ A E s6 hA k6=>?_) (λQ E hq=>?_) q
 ·refine EC h2 (λa ha=>?_) q6;obtain⟨t,x,aA,z⟩:=wM I (tu a (IS.mem_iff.mp ha));exact⟨t,x,aA,_,z.keep k6⟩
 ·exact HF (h0:=s.heap) (kf:=jc H) hA (λa ha=>wM I (tu a ha)) (wL nd) k6 (λx a _ e=>by rw[e];rfl)
 ·obtain⟨aA,rv,pl,_⟩:=I.list hs;obtain⟨o,e,c,n,d⟩:=pl.isList;have e2:=qh rv;subst e2;exact wpAny_collect_seq p (.inl rfl) e c d (λh1 k1=>by simpa using hq h1 s.toks bs (ZE _) k1) (by rw[XZ,XO];exact O_)
noncomputable def kN (p:List Int×U):U:=.tup [aF p.1,p.2]
noncomputable def Dk:U->Option (List Int×U)
 | .tup [.tup ks,.tup us]=>(ka ks).map λns=>(ns,.tup us)
 |_=>none
noncomputable def nM:List U->Option (List (List Int×U))
 | []=>some []
 |u::us=>match Dk u,nM us with
  |some p,some ps=>some (p::ps)
  |_,_=>none
noncomputable def lF (ps:List (List Int×U))(k:List Int):U:=(ps.lookup k).getD .non
noncomputable def z9 (ps:List (List Int×U)):List (List Int×U):=(rf (ps.map (·.1))).map λk=>(k,lF ps k)
noncomputable def uR:List U->R U:=λus=>match us with
 | [.lst xs]=>match nM xs with
  |some ps=>if ps.length<=1000000/\(ps.map (·.1)).Nodup then .ok (.lst ((z9 ps).map kN)) else .stk
  |none=>.stk
 |_=>.stk
theorem HH {p:List Int×U}(h:Dk u=some p):u=kN p/\∃us,p.2=.tup us:=by
 unfold Dk at h;split at h
 ·rename_i ks us;cases e:ka ks with
  |none=>rw[e] at h;cases h
  |some ns=>
   rw[e] at h;cases h;unfold kN aF;rw[oH e];exact⟨rfl,us,rfl⟩
 ·cases h
theorem wN:∀{us:List U} {ps:List (List Int×U)},nM us=some ps->us=ps.map kN/\∀p∈ps,∃us,p.2=.tup us
 | [],ps,h=>by unfold nM at h;cases h;exact⟨rfl,λp hp=>by cases hp⟩
 |u::us,ps,h=>by
  unfold nM at h;split at h
  ·rename_i p XJ e1 e2;cases h;obtain⟨a1,a2⟩:=HH e1;obtain⟨b1,b2⟩:=wN e2;refine⟨by rw[X5,←a1,←b1],λq hq=>?_⟩;rcases Yb.mp hq with rfl|hq
   ·exact a2
   ·exact b2 q hq
  ·cases h
theorem KA {p:List Int×U}(h:Rp K H A (kN p) v)(t:∃us,p.2=.tup us):∃b,v=.ref b/\Dj H b/\jc H b=p.1:=by
 obtain⟨us,e⟩:=t;unfold kN at h;unfold Rp at h;obtain⟨b,xs,rfl,q,l,r⟩:=h;unfold aU at r;obtain⟨v1,r1,rfl,p1,r⟩:=r;unfold aU at r;obtain⟨v2,r2,rfl,p2,r⟩:=r;unfold aU at r;subst r;obtain⟨t,rfl,ht,_⟩:=Hz p1;rw[e] at p2;unfold Rp at p2;obtain⟨x,ys,rfl,_⟩:=p2;have k:jc H b=p.1:=by unfold jc;rw[q];exact sL ht
 exact⟨b,rfl,⟨t,x,q,by rw[k];exact ht⟩,k⟩
theorem wO {H:Hp}{A:Ye->Prop}:∀{ps:List (List Int×U)} {xs:List V},aU K H A (ps.map kN) xs->(∀p∈ps,∃us,p.2=.tup us)->∃bs:List Ye,xs=bs.map V.ref/\bs.map (jc H)=ps.map (·.1)/\(∀b∈bs,Dj H b)/\
  ((ps.map (·.1)).Nodup->∀b∈bs,Rp K H A (kN (jc H b,lF ps (jc H b))) (.ref b))
 | [],xs,h,_=>by rw[aaa] at h;unfold aU at h;subst h;exact⟨[],rfl,rfl,⟨λb hb=>(nomatch hb),λ_ b hb=>(nomatch hb)⟩⟩
 |p::ps,xs,h,t=>by
  rw[X5] at h;unfold aU at h;obtain⟨x,r,rfl,h1,h2⟩:=h;obtain⟨b,rfl,b2,b3⟩:=KA h1 (t p X2);obtain⟨bs,rfl,c2,c3,c4⟩:=wO h2 λq hq=>t q (X4 _ hq);refine⟨b::bs,rfl,by rw[X5,X5,b3,c2],λc hc=>?_,λnd c hc=>?_⟩
  ·rcases Yb.mp hc with rfl|hc
   ·exact b2
   ·exact c3 c hc
  ·rw[X5] at nd;obtain⟨n1,n2⟩:=aaB.mp nd;rcases Yb.mp hc with rfl|hc
   ·have e:lF (p::ps) (jc H c)=p.2:=by unfold lF;rw[b3,Zk,beq_self_eq_true];rfl
    rw[e,b3];exact h1
   ·have ne:jc H c≠p.1:=λz=>n1 (by rw[←z,←c2];exact ZM hc);have e:lF (p::ps) (jc H c)=lF ps (jc H c):=by unfold lF;rw[Zk,beq_eq_false_iff_ne.mpr ne]
    rw[e];exact c4 n2 c hc
theorem ED:oy K (HG K) .O uR:=λA H vs us z Q h mu e q=>by
 unfold uR at e;split at e
 ·rename_i xs;split at e
  ·rename_i ps e1;split at e
   ·rename_i hl;cases e;obtain⟨v,rfl,p⟩:=h.one;unfold Pk at p;obtain⟨a,ys,rfl,h1,l1,r1⟩:=p;obtain⟨e2,tp⟩:=wN e1;subst e2;obtain⟨bs,rfl,c2,c3,c4⟩:=wO r1 tp;have ln:bs.length=ps.length:=by have:=congrArg Z2 c2;simpa using this
    refine⟨a,bs,rfl,fS.of h1,(by lia),c3,by rw[c2];exact hl.2,λl kW hn hp hw=>?_⟩;have e7:kW.map (jc H)=rf (ps.map (·.1)):=xH ((hp.map (jc H)).trans (by rw[c2];exact (eC _).symm)) (Z4.mpr hw) (uM _);refine q _ _ (dI hn _) ⟨l,rfl,hn,?_⟩;have e8:(z9 ps).map kN=kW.map λb=>kN (jc H b,lF ps (jc H b)):=by
     unfold z9;rw[←e7,Yd,Yd];rfl
    rw[e8];refine c9 mu ?_ hn ?_
    ·have all:∀b∈kW,Rp K H A (kN (jc H b,lF ps (jc H b))) (.ref b):=λb hb=>c4 hl.2 b (hp.mem_iff.mp hb);clear hw e7 e8 hp
     induction kW with
     |nil=>exact aU.nil
     |cons b kW ih=>exact aU.cons (all b X2) (ih λc hc=>all c (X4 _ hc))
    ·have:XU=16777216:=rfl;rw[XO,hp.length_eq];lia
   ·cases e
  ·cases e
 ·cases e
end L2
namespace L2
def Ox (K:XX)(f:Bool->Bool):R2:=λx y H Q=>∃p xs ds dx,y=.ref p/\(fS K H p xs\/i6 K H p xs)/\bS K H dx x/\gu K H ds xs/\(∀d∈ds,cF d<=30)/\Q (.bl (f (ds.any λd=>iG d dx))) H
open Classical in
noncomputable def kS (aA:List XY)(ds:List D)(dx:D)(u:XY):Bool:=decide (∃(i:Nat) (d:D),aA[i]? = some u/\ds[i]? = some d/\iG d dx=true)
open Classical in
def sM {u:XY}:kS aA ds dx u=true↔∃(i:Nat) (d:D),aA[i]? = some u/\ds[i]? = some d/\iG d dx=true:=by
 unfold kS;exact decide_eq_true_iff
theorem sN (hl:aA.length=ds.length):aA.any (kS aA ds dx)=ds.any λd=>iG d dx:=by
 rw[Z_,Z0,Z0];constructor
 ·rintro⟨u,_,h⟩;obtain⟨i,d,_,h2,h3⟩:=sM.mp h;exact⟨d,YA h2,h3⟩
 ·rintro⟨d,hd,h⟩;obtain⟨i,hi,e⟩:=aao.mp hd;have MW:i<aA.length:=(by lia)
  exact⟨aA[i],YU MW,sM.mpr ⟨i,d,XN MW,by rw[XN hi,e],h⟩⟩
theorem oZ (I:aP X pins σ H s){A:YG}(hA:A.units+30<abH){x:V}{v:XY}(rx:bX x v)(hx:bS X.K H dx x)(rv:bw xs aA)(hs:gu X.K H ds xs)(hd:∀d∈ds,cF d<=30) :
  ∀u∈aA,abu A s u v (kS aA ds dx u):=λu hu=>by
 have l1:=rv.length;have l2:=hs.length;have at_:∀(i:Nat) (d:D),aA[i]? = some u->ds[i]? = some d->abu A s u v (iG d dx):=λi d h1 h2=>by
  have hi:i<aA.length:=(X3.mp h1).1;have h3:xs[i]? = some (xs[i]'(by lia)):=XN _;obtain⟨u',g1,g2⟩:=rv.get h3;rw[h1] at g1;cases g1;exact Bi I 30 d dx _ x u v A (hd d (YA h2)) hA (hs.get h2 h3) hx g2 rx
 by_cases c:∃(i:Nat) (d:D),aA[i]? = some u/\ds[i]? = some d/\iG d dx=true
 ·obtain⟨i,d,h1,h2,h3⟩:=c;have e:kS aA ds dx u=true:=sM.mpr ⟨i,d,h1,h2,h3⟩;rw[e,←h3];exact at_ i d h1 h2
 ·have e:kS aA ds dx u=false:=aa3.mpr λz=>c (sM.mp z);obtain⟨i,hi,eu⟩:=aao.mp hu;have h1:aA[i]? = some u:=by rw[XN hi,eu]
  have h2:ds[i]? = some (ds[i]'(by lia)):=XN _;have e2:iG (ds[i]'(by lia)) dx=false:=by
   cases z:iG (ds[i]'(by lia)) dx with
   |false=>rfl
   |true=>exact absurd ⟨i,_,h1,h2,z⟩ c
  rw[e,←e2];exact at_ i _ h1 h2
theorem BR (hu:X.A.units+64<abH):l7 X (aaz .In) (Ox X.K id):=by
 intro pins s σ H x y v u Q I rx ry h;obtain⟨p,xs,ds,dx,rfl,hq,hx,hs,hd,q⟩:=h;cases ry;rcases hq with hq|hq
 ·obtain⟨aA,r,pl,hz⟩:=I.list hq;refine SeqAt.in_listAt (kS aA ds dx) pl.isList (λw hw=>oZ I (by show X.A.units+1+30<abH;lia) rx hx r hs hd w (by simpa using hw)) ⟨.bl _,H,I,rfl,?_⟩;rw[show aA.toArray.any (kS aA ds dx)=aA.any (kS aA ds dx) by simp,sN (by rw[←r.length,←hs.length])];exact q
 ·obtain⟨aA,r,pl,hz⟩:=I.tuple hq;refine SeqAt.in_tupleAt (kS aA ds dx) pl (λw hw=>oZ I (by show X.A.units+1+30<abH;lia) rx hx r hs hd w (by simpa using hw)) ⟨.bl _,H,I,rfl,?_⟩;rw[show aA.toArray.any (kS aA ds dx)=aA.any (kS aA ds dx) by simp,sN (by rw[←r.length,←hs.length])];exact q
theorem wQ (hu:X.A.units+64<abH):l7 X (aaz .NotIn) (Ox X.K not):=by
 intro pins s σ H x y v u Q I rx ry h;obtain⟨p,xs,ds,dx,rfl,hq,hx,hs,hd,q⟩:=h;cases ry;rcases hq with hq|hq
 ·obtain⟨aA,r,pl,hz⟩:=I.list hq;refine SeqAt.notIn_listAt (kS aA ds dx) pl.isList (λw hw=>oZ I (by show X.A.units+1+30<abH;lia) rx hx r hs hd w (by simpa using hw)) ⟨.bl _,H,I,rfl,?_⟩;rw[show aA.toArray.any (kS aA ds dx)=aA.any (kS aA ds dx) by simp,sN (by rw[←r.length,←hs.length])];exact q
 ·obtain⟨aA,r,pl,hz⟩:=I.tuple hq;refine SeqAt.notIn_tupleAt (kS aA ds dx) pl (λw hw=>oZ I (by show X.A.units+1+30<abH;lia) rx hx r hs hd w (by simpa using hw)) ⟨.bl _,H,I,rfl,?_⟩;rw[show aA.toArray.any (kS aA ds dx)=aA.any (kS aA ds dx) by simp,sN (by rw[←r.length,←hs.length])];exact q
noncomputable def xJ:U->Option (List U)
 | .lst us=>some us
 | .tup us=>some us
 |_=>none
noncomputable def xK (f:Bool->Bool):U->U->R U:=λu w=>match toD u,(xJ w).bind eT with
 |some dx,some ds=>if (ds.all λd=>decide (cF d<=30))=true then .ok (.bl (f (ds.any λd=>iG d dx))) else .stk
 |_,_=>.stk
theorem uS {f:Bool->Bool}:iH K (Ox K f) .S (xK f):=λA H x y u w z Q hx hy mu e q=>by
 unfold xK at e;split at e
 ·rename_i dx ds h1 h2;split at e
  ·rename_i hd;cases e;cases w with
   |lst us=>
    unfold Pk at hy;obtain⟨a,xs,rfl,h3,l1,r1⟩:=hy;exact⟨a,xs,ds,dx,rfl,.inl (fS.of h3),xk hx h1,md r1 h2,λd m=>of_decide_eq_true (YT.mp hd d m),q _ H (aX.refl _) (show Rp K H A _ _ from iC)⟩
   |tup us=>
    unfold Pk at hy;obtain⟨a,xs,rfl,h3,l1,r1⟩:=hy;exact⟨a,xs,ds,dx,rfl,.inr (i6.of h3),xk hx h1,md r1 h2,λd m=>of_decide_eq_true (YT.mp hd d m),q _ H (aX.refl _) (show Rp K H A _ _ from iC)⟩
   |_=>cases h2
  ·cases e
 ·cases e
end L2
namespace L2
noncomputable def KC (j:Nat)(p:U->U->R U)(g2:Ev->R (U×Ev)):Ev->R (U×Ev):=λρ=>if live ρ j=true then (g2 ρ).bind λy=>match y.2[j]? with
 |some (some u)=>(p u y.1).bind λz=>.ok (z,y.2)
 |_=>.stk else .stk
section
variable {b:aaj}{pos p1:Pos}{b2:Bool}{m2 mr:Md}{g2:Ev->R (U×Ev)}
theorem Oy {op:Operator}(ho:l7 X (abi op) r)(hp:iH X.K r mr p)(hb:DE X G b b2 m2 g2)(hN:X.N[j]? = some x:=by rfl)(hv:DR X.env.scope x:=by first|exact Or.inl rfl|exact Or.inr (Or.inl rfl)|exact Or.inr (Or.inr rfl))(hd:(x==("__debug__":Str))=false:=by decide)(kI:(x==("__classdict__":Str))=false:=by decide)(c:G.is j=true:=by rfl):DE X G (.BinOp (.Name x p1) op b pos) b2 mr (KC j p g2):=⟨(Cc ho (i5 hN hv hd kI) hb.un).to λσ H Q h00=>by
 obtain⟨Z,A,ρ,q,f⟩:=h00;unfold KC at f;by_cases hl:live ρ j=true
 ·rw[hZ hl] at f;obtain⟨u0,hu0⟩:=xg hl;obtain⟨a0,h0,_⟩:=q.own c hu0;obtain⟨⟨w,ρ2⟩,e2,f⟩:=f.bind;refine⟨.ref a0,h0,Z,A,ρ,q,?_⟩;rw[e2];intro v2 H2 q2 x2 s2 yu;dsimp only at f;split at f
  ·rename_i u hu;obtain⟨a1,k1,_,_,_,k5⟩:=q2.own c hu;rw[h0] at k1;cases k1;obtain⟨z,e3,f⟩:=f.bind;refine hp A H2 _ v2 u w z Q k5.pk yu.pk q2.mu e3 λv H' sm vm=>?_;exact f v H' (q2.same sm) (x2.trans (fQ.same sm)) (p7 s2 sm) (vm.e q2 sm)
  ·exact f.elim
 ·rw[hV hl] at f;exact f.elim⟩
end
end L2
namespace L2
open Hc.Dw Hc.Ts
noncomputable def Oz:U->U->R Bool
 | .int a,.int b=>.ok (a==b)
 | .bl a,.bl b=>.ok (a==b)
 | .str a,.str b=>.ok (a==b)
 |_,_=>.stk
noncomputable def cx (f:Bool->Bool):U->U->R U:=λu w=>(Oz u w).bind λb=>.ok (.bl (f b))
theorem ba:iH K UO .S (cx id):=λA H x y u w z Q hx hy mu e q=>by
 unfold cx at e;obtain⟨b,e1,e2⟩:=R.bind_ok e;unfold Oz at e1;split at e1
 ·cases e1;cases e2;rw[hx.int,hy.int];refine⟨rfl,?_⟩;rw[sv];exact q _ H (aX.refl _) (show Rp K H A _ _ from iC)
 ·cases e1;cases e2;rw[hx.bl,hy.bl];refine⟨rfl,?_⟩;rw[wZ];exact q _ H (aX.refl _) (show Rp K H A _ _ from iC)
 ·cases e1;cases e2;rw[hx.str,hy.str];refine⟨rfl,?_⟩;rw[sC];exact q _ H (aX.refl _) (show Rp K H A _ _ from iC)
 ·cases e1
theorem xM:iH K UP .S (cx not):=λA H x y u w z Q hx hy mu e q=>by
 unfold cx at e;obtain⟨b,e1,e2⟩:=R.bind_ok e;unfold Oz at e1;split at e1
 ·cases e1;cases e2;rw[hx.int,hy.int];refine⟨rfl,?_⟩;rw[sv];exact q _ H (aX.refl _) (show Rp K H A _ _ from iC)
 ·cases e1;cases e2;rw[hx.bl,hy.bl];refine⟨rfl,?_⟩;rw[wZ];exact q _ H (aX.refl _) (show Rp K H A _ _ from iC)
 ·cases e1;cases e2;rw[hx.str,hy.str];refine⟨rfl,?_⟩;rw[sC];exact q _ H (aX.refl _) (show Rp K H A _ _ from iC)
 ·cases e1
end L2
namespace Hc.Zp
open PySem.W
abbrev nN (h:Z9)(z TI TO:Ye)(v:XY)(f:Bool):Prop:=h.get? z=some {cls:=.type "zip",dict:=none,data:=.fields (List.toArray [v,.bool f,.bool false,.ref TI,.ref TO]),slots:=(List.toArray [])}
section
variable {w:Y6}{A:YG}
theorem Dl {z TI TO:Ye}{f:Bool}{oa:Obj}{Q:Bool->Ya->Prop}(hz:nN s.heap z TI TO (acx a) f)(ha:s.heap.get? a=some oa)(hQ:∀h',nN h' z TI TO (acx a) true->aa7 z s.heap h'->Q false {s with heap:=h'}):Yg (Yw prog w) A (YH (.ref z)) Q E s:=by
 unfold YH;refine XM (Zf hz rfl (x:=acx a) rfl ?_);show Yg _ _ (loadIfAlive ((a:Int).toNat) >>= _) _ _ _;rw[Ze];refine XM (kdx_alive ha ?_);simp only[Option.isNone_some,Yj,if_false];refine XM (Zf hz rfl (x:=.bool f) rfl ?_);cases f with
 |true=>
  rw[hV (show ¬((Value.bool true != Value.bool true)=true) from XR)];exact XS (hQ s.heap hz (Heap.SameBut.refl _ _))
 |false=>
  rw[hZ (show (Value.bool false != Value.bool true)=true from rfl)];exact XM (aah hz (by simp) λh₃ WW WX=>XS (hQ h₃ WW WX))
def EE {z TI TO:Ye}{f:Bool}{oa:Obj}{xs:Array XY}{x y:XY}(D:abE z TI TO i1 i2 a1 a2)(hz:nN s.heap z TI TO (acx a) f)(ha:s.heap.get? a=some oa)(B6:aag s.heap TI (.ref i1) (.ref i2))(h1:dX l1 s.heap i1 a1 k)(h2:dX l2 s.heap i2 a2 k)(g1:eU l1 s.heap a1 xs)(g2:eU l2 s.heap a2 ys)(hx:xs[k]? = some x)(hy:ys[k]? = some y)(hQ:∀h',nN h' z TI TO (acx a) true->dX l1 h' i1 a1 (k+1)->dX l2 h' i2 a2 (k+1)->aag h' s.heap.objs.size x y->(∀c o,c≠z->c≠i1->c≠i2->s.heap.get? c=some o->h'.get? c=some o)->Q (.ref s.heap.objs.size) {s with heap:=h'}) :
  Yg (Yw prog w) A (Builtin.«zip.__next__» ⟨[.ref z],[]⟩) (λfin s'=>∃v,fin=.done (.ret v)/\Q v s') E s:=by
 show Yg _ _ (field (Value.ref z) 2 >>= _) _ _ _;refine XM (Zf hz rfl (x:=.bool false) rfl ?_);show Yg _ _ (field (Value.ref z) 3 >>= _) _ _ _;refine XM (Zf hz rfl (x:=.ref TI) rfl (XM (Z7 B6 rfl ?_)));show Yg _ _ (YH (Value.ref z) >>= _) _ _ _;refine XM (Dl hz ha λw1 z1 b1=>?_);simp only[Yj,if_false];refine XM ?_;simp only[List.forIn_toArray,aa4,ado];refine XM (XM (Y4 ?_));show Yg _ _ (Yy (Value.ref i1) >>= _) _ _ _;refine XM (iY (h1.at λo e=>b1.extBut _ _ D.i1z e) (g1.at λo e=>b1.extBut _ _ D.l1z e) hx λw2 n2 b2=>XS ?_);refine XS ?_;refine XM (XM (Y4 ?_));show Yg _ _ (Yy (Value.ref i2) >>= _) _ _ _;refine XM (iY (h2.at λo e=>b2.extBut _ _ D.i12.symm (b1.extBut _ _ D.i2z e)) (g2.at λo e=>b2.extBut _ _ D.l2i1 (b1.extBut _ _ D.l2z e)) hy λw4 n4 b4=>XS ?_);refine XS ?_;refine XS ?_;show Yg _ _ (newTuple [x,y] >>= _) _ _ _;refine XM (wpAny_newTuple ?_);have sz:w4.objs.size=s.heap.objs.size:=by rw[b4.1,b2.1,b1.1]
 have kp:∀c o,c≠z->c≠i1->c≠i2->s.heap.get? c=some o->w4.get? c=some o:=λc o c1 c3 c4 e=>b4.extBut _ _ c4 (b2.extBut _ _ c3 (b1.extBut _ _ c1 e));have z4:nN w4 z TI TO (acx a) true:=b4.extBut _ _ D.i2z.symm (b2.extBut _ _ D.i1z.symm z1);refine XS ⟨_,rfl,?_⟩;show Q (.ref w4.objs.size) _;rw[sz];exact hQ _ (XQ _ z4) (n2.at λo e=>XQ _ (b4.extBut _ _ D.i12 e)) (n4.at λo e=>XQ _ e) (by rw[←sz];exact X8 _ rfl) λc o c1 c3 c4 e=>XQ _ (kp c o c1 c3 c4 e)
theorem HJ {z TI TO:Ye}{f:Bool}{oa:Obj}{xs:Array XY}{Q:Fin->Ya->Prop}(hh:A.handled=none)(D:abE z TI TO i1 i2 a1 a2)(hz:nN s.heap z TI TO (acx a) f)(ha:s.heap.get? a=some oa)(B6:aag s.heap TI (.ref i1) (.ref i2))(h1:dX l1 s.heap i1 a1 k)(h2:dX l2 s.heap i2 a2 k)(g1:eU l1 s.heap a1 xs)(g2:eU l2 s.heap a2 ys)(AQ:xs[k]? = none\/ys[k]? = none)(hE:∀h' e,(∀c o,c≠z->c≠TO->c≠i1->c≠i2->s.heap.get? c=some o->h'.get? c=some o)->(∃o,h'.get? e=some o/\o.cls=.type "StopIteration")->E (.ref e) {s with heap:=h'}) :
  Yg (Yw prog w) A (Builtin.«zip.__next__» ⟨[.ref z],[]⟩) Q E s:=by
 show Yg _ _ (field (Value.ref z) 2 >>= _) _ _ _;refine XM (Zf hz rfl (x:=.bool false) rfl ?_);show Yg _ _ (field (Value.ref z) 3 >>= _) _ _ _;refine XM (Zf hz rfl (x:=.ref TI) rfl (XM (Z7 B6 rfl ?_)));show Yg _ _ (YH (Value.ref z) >>= _) _ _ _;refine XM (Dl hz ha λw1 z1 b1=>?_);simp only[Yj,if_false];refine XM ?_;simp only[List.forIn_toArray,aa4,ado];refine XM (XM (Y4 ?_));show Yg _ _ (Yy (Value.ref i1) >>= _) _ _ _;cases hx:xs[k]? with
 |none=>
  exact XM (oK hh (h1.at λo e=>b1.extBut _ _ D.i1z e) (g1.at λo e=>b1.extBut _ _ D.l1z e) hx λw2 e b2 he=>hE w2 e (λc o c1 _ c3 _ x=>b2 _ _ c3 (b1.extBut _ _ c1 x)) he)
 |some x=>
  have hy:ys[k]? = none:=by rcases AQ with h|h;rw[hx] at h;cases h;exact h
  refine XM (iY (h1.at λo e=>b1.extBut _ _ D.i1z e) (g1.at λo e=>b1.extBut _ _ D.l1z e) hx λw2 n2 b2=>XS ?_);refine XS ?_;refine XM (XM (Y4 ?_));show Yg _ _ (Yy (Value.ref i2) >>= _) _ _ _;exact XM (oK hh (h2.at λo e=>b2.extBut _ _ D.i12.symm (b1.extBut _ _ D.i2z e)) (g2.at λo e=>b2.extBut _ _ D.l2i1 (b1.extBut _ _ D.l2z e)) hy λw4 e b4 he=>hE w4 e (λc o c1 _ c3 c4 x=>b4 _ _ c4 (b2.extBut _ _ c3 (b1.extBut _ _ c1 x))) he)
end
def KD:typeLookup (.type "zip") "__len__"=pure none:=by rw[acU,abr];kernel_rfl
def OA:typeLookup (.type "zip") "__length_hint__"=pure none:=by rw[acU,abr];kernel_rfl
section
variable {w:Y6}{A:YG}
def HK {r:Ye}(hT:s.TypeIs (.ref r) "zip"){Q:Bool->Ya->Prop}(h:Q true s):Yg (Yw prog w) A (aaF (.ref r)) Q E s:=by
 unfold aaF;refine XM (acW hT KD ?_);refine XM (acW hT OA ?_);exact XS h
end
def ZS (h:Z9)(z TI TO i1 i2 S:Ye)(k:Nat):Prop:=(k=0/\IsZip h z TI TO .none/\∃p q,aag h TO p q)\/∃(a:Ye) (f:Bool) (oa:Obj),nN h z TI TO (acx a) f/\h.get? a=some oa/\S<a
structure ZW (l1 l2:Bool)(z TI TO i1 i2 a1 a2 S:Ye)(xs ys:Array XY)(h:Z9)(k:Nat):Prop where
 st:ZS h z TI TO i1 i2 S k
 ti:aag h TI (.ref i1) (.ref i2)
 t1:dX l1 h i1 a1 k
 t2:dX l2 h i2 a2 k
 g1:eU l1 h a1 xs
 g2:eU l2 h a2 ys
structure ZB (z TI TO i1 i2 a1 a2 S:Ye):Prop where
 z:z<S
 ti:TI<S
 to:TO<S
 i1:i1<S
 i2:i2<S
 a1:a1<S
 a2:a2<S
theorem ZW.keep {z TI TO S:Ye}{xs:Array XY}(Z:ZW l1 l2 z TI TO i1 i2 a1 a2 S xs ys h k)(B:ZB z TI TO i1 i2 a1 a2 S)(up:∀b o,b≠S->h.get? b=some o->h'.get? b=some o):ZW l1 l2 z TI TO i1 i2 a1 a2 S xs ys h' k:=by
 refine⟨?_,up _ _ (Ym B.ti) Z.ti,Z.t1.at λo e=>up _ o (Ym B.i1) e,Z.t2.at λo e=>up _ o (Ym B.i2) e,Z.g1.at λo e=>up _ o (Ym B.a1) e,Z.g2.at λo e=>up _ o (Ym B.a2) e⟩;rcases Z.st with⟨k0,hz,p,q,e⟩|⟨a,f,oa,hz,ha,la⟩
 ·exact .inl ⟨k0,up _ _ (Ym B.z) hz,p,q,up _ _ (Ym B.to) e⟩
 ·exact .inr ⟨a,f,oa,up _ _ (Ym B.z) hz,up _ _ (Y2 la) ha,la⟩
section
variable {w:Y6}{A:YG}{z TI TO S:Ye}{xs:Array XY}
theorem EF {x y:XY}{Q:Option XY->Ya->Prop}(D:abE z TI TO i1 i2 a1 a2)(B:ZB z TI TO i1 i2 a1 a2 S)(hS:S<s.heap.objs.size)(Z:ZW l1 l2 z TI TO i1 i2 a1 a2 S xs ys s.heap k)(hx:xs[k]? = some x)(hy:ys[k]? = some y)
  (hQ:∀h',ZW l1 l2 z TI TO i1 i2 a1 a2 S xs ys h' (k+1)->aag h' s.heap.objs.size x y->(∀c o,c≠z->c≠TO->c≠i1->c≠i2->s.heap.get? c=some o->h'.get? c=some o)->Q (some (.ref s.heap.objs.size)) {s with heap:=h'}) :
  Yg (Yw prog w) A (ab9 (.ref z)) Q E s:=by
 rcases Z.st with⟨k0,hz,p,q,e⟩|⟨a,f,oa,hz,ha,la⟩
 ·exact wd D hz Z.ti e Z.t1 Z.t2 Z.g1 Z.g2 hx hy λh' c1 c2 c3 c4 c5 kp=>hQ h' ⟨.inr ⟨_,false,_,c1,c5,hS⟩,kp _ _ D.TIz D.TITO D.TIi1 D.TIi2 Z.ti,c3,c4,Z.g1.at λo e=>kp _ o D.l1z D.l1TO D.l1i1 D.l1i2 e,Z.g2.at λo e=>kp _ o D.l2z D.l2TO D.l2i1 D.l2i2 e⟩ c5 kp
 ·have hT:s.TypeIs (.ref z) "zip":=⟨_,hz,rfl⟩;unfold ab9;exact XM (aar (Y5 (name:=X9 "__next__") hT aaD (Zd aaD hT acD (EE D hz ha Z.ti Z.t1 Z.t2 Z.g1 Z.g2 hx hy λh' c1 c3 c4 c5 kp=>XS (hQ h' ⟨.inr ⟨a,true,oa,c1,kp a oa (Y2 (aau B.z la)) (Y2 (aau B.i1 la)) (Y2 (aau B.i2 la)) ha,la⟩,kp _ _ D.TIz D.TIi1 D.TIi2 Z.ti,c3,c4,Z.g1.at λo e=>kp _ o D.l1z D.l1i1 D.l1i2 e,Z.g2.at λo e=>kp _ o D.l2z D.l2i1 D.l2i2 e⟩ c5 λc o n1 _ n3 n4 e=>kp c o n1 n3 n4 e)) (acp _))))
theorem EG {Q:Option XY->Ya->Prop}(hh:A.handled=none)(D:abE z TI TO i1 i2 a1 a2)(Z:ZW l1 l2 z TI TO i1 i2 a1 a2 S xs ys s.heap k)(AQ:xs[k]? = none\/ys[k]? = none)
  (hQ:∀h',(∀c o,c≠z->c≠TO->c≠i1->c≠i2->s.heap.get? c=some o->h'.get? c=some o)->Q none {s with heap:=h'}):Yg (Yw prog w) A (ab9 (.ref z)) Q E s:=by
 rcases Z.st with⟨k0,hz,p,q,e⟩|⟨a,f,oa,hz,ha,la⟩
 ·exact we hh D hz Z.ti e Z.t1 Z.t2 Z.g1 Z.g2 AQ hQ
 ·have hT:s.TypeIs (.ref z) "zip":=⟨_,hz,rfl⟩;unfold ab9;refine XM (aar (Y5 (name:=X9 "__next__") hT aaD (Zd aaD hT acD (HJ hh D hz ha Z.ti Z.t1 Z.t2 Z.g1 Z.g2 AQ λh' e hk ⟨o,ho,hc⟩=>?_) (acp _))));exact XM (acE (T:="StopIteration") (b:=true) ⟨o,ho,hc⟩ isSubtype_stop (XS (hQ _ hk)))
end
structure ZG (xs ys:Array XY)(lo:Ye)(h:Z9)(as:List Ye):Prop where
 above:∀a∈as,lo<a
 rise:as.Pairwise (·<·)
 pairs:∀(j:Nat) (a:Ye),as[j]? = some a->∃x y,xs[j]? = some x/\ys[j]? = some y/\aag h a x y
section
variable {w:Y6}{A:YG}{R:Result->Ya->Prop}{z TI TO S:Ye}{xs:Array XY}
theorem HL (hh:A.handled=none)(D:abE z TI TO i1 i2 a1 a2)(B:ZB z TI TO i1 i2 a1 a2 S)(n:Nat)(PM:n=min xs.size ys.size)(hn:n<=XU)(res:XY){h₁:Z9}
  (hR:∀h' tk b9 c as,(∀b o,b≠S->b≠z->b≠TO->b≠i1->b≠i2->h₁.get? b=some o->h'.get? b=some o)->h'.get? S=some {cls:=.type "list",dict:=none,data:=.seq b9 c,slots:=(List.toArray [])}->as.length=n->ZG xs ys S h' as->
   b9.toList=as.map Value.ref->R (.ok (.ret res)) {s with heap:=h',toks:=tk}) :
  ∀(k i:Nat) (h:Z9) (tk c:Nat) (b9:Array XY) (as:List Ye),n-i=k->i<=n->ZW l1 l2 z TI TO i1 i2 a1 a2 S xs ys h i->(∀b o,b≠S->b≠z->b≠TO->b≠i1->b≠i2->h₁.get? b=some o->h.get? b=some o)->
   h.get? S=some {cls:=.type "list",dict:=none,data:=.seq b9 c,slots:=(List.toArray [])}->b9.toList=as.map Value.ref->as.length=i->ZG xs ys S h as->
   acg (Yw prog w) A (.builtin "list.extend.loop" ⟨[.ref S,.ref z,res],[]⟩) R {s with heap:=h,toks:=tk}:=by
 have nz:∀{b:Ye},S<b->b≠z/\b≠TO/\b≠i1/\b≠i2:=λ{b} hb=>⟨Y2 (aau B.z hb),Y2 (aau B.to hb),Y2 (aau B.i1 hb),Y2 (aau B.i2 hb)⟩;have Sz:S≠z/\S≠TO/\S≠i1/\S≠i2:=⟨Y2 B.z,Y2 B.to,Y2 B.i1,Y2 B.i2⟩;intro k
 induction k with
 |zero=>
  intro i h tk c b9 as hk hi g_ IT hS jr Pa hG;have rJ:i=n:=(by lia)
  refine Zl adu ?_;rw[Y_ Z8 _];show Yg _ A.in1 (ab9 (.ref z) >>= _) _ _ _;refine XM (EG (s:={s with heap:=h,toks:=tk}) (A:=A.in1) hh D g_ (by
   rcases adb xs.size ys.size with q|q
   ·exact .inl (abg (by lia))
   ·exact .inr (abg (by lia))) λh' he=>?_)
  refine XS (hR h' tk b9 c as (λb o n1 n2 n3 n4 n5 e=>he b o n2 n3 n4 n5 (IT b o n1 n2 n3 n4 n5 e)) (he S _ Sz.1 Sz.2.1 Sz.2.2.1 Sz.2.2.2 hS) (by lia) ⟨hG.above,hG.rise,λj a hj=>?_⟩ jr);obtain⟨x,y,e1,e2,e3⟩:=hG.pairs j a hj;obtain⟨q1,q2,q3,q4⟩:=nz (hG.above a (YA hj));exact⟨x,y,e1,e2,he a _ q1 q2 q3 q4 e3⟩
 |succ k ih=>
  intro i h tk c b9 as hk hi g_ IT hS jr Pa hG;have yt:i<n:=(by lia)
  obtain⟨x,hx⟩:∃p,xs[i]? = some p:=⟨xs[i]'(by lia),Yx (by lia)⟩;obtain⟨y,hy⟩:∃p,ys[i]? = some p:=⟨ys[i]'(by lia),Yx (by lia)⟩;have hsz:b9.size=i:=by rw[←X0,jr,XO,Pa]
  have UD:S<h.objs.size:=X_ hS;refine Zl adu ?_;rw[Y_ Z8 _];show Yg _ A.in1 (ab9 (.ref z) >>= _) _ _ _;refine XM (EF (s:={s with heap:=h,toks:=tk}) (S:=S) D B UD g_ hx hy λh' vJ ht PD=>?_);dsimp only at ht PD ⊢;have AY:=PD S _ Sz.1 Sz.2.1 Sz.2.2.1 Sz.2.2.2 hS;have up:∀b o,b≠S->h'.get? b=some o->(h'.update S (aaJ (·.push (Value.ref h.objs.size)))).get? b=some o:=λb o hb e=>(aaG _ _ (acN hb)).trans e;show Yg _ A.in1 (updateSeq S (·.push (Value.ref h.objs.size)) >>= _) _ _ _;refine XM ?_;refine wpAny_updateSeq AY rfl (XS ⟨aa_ Z8 _,ih (i+1) _ tk _ (b9.push (Value.ref h.objs.size)) (as++[h.objs.size]) (by lia) yt (vJ.keep B up)
   (λb o n1 n2 n3 n4 n5 e=>up b o n1 (PD b o n2 n3 n4 n5 (IT b o n1 n2 n3 n4 n5 e))) (Zv _ AY rfl) (by rw[aax,jr,Yv];rfl) (by rw[XW,Pa];rfl) ⟨?_,?_,?_⟩⟩) (by rw[hsz];lia) (by show (b9.push (Value.ref h.objs.size)).size<=XU+1;rw[Array.size_push,hsz];lia)
  ·intro a ha;rcases Yk.mp ha with ha|ha
   ·exact hG.above a ha
   ·rw[Yf.mp ha];exact UD
  ·refine List.pairwise_append.mpr ⟨hG.rise,ab6 _ _,λa ha b hb=>?_⟩;rw[Yf.mp hb];obtain⟨j,hj⟩:=aaQ.mp ha;obtain⟨_,_,_,_,e⟩:=hG.pairs j a hj;exact X_ e
  ·intro j b hj;rcases abw j as.length with h1|h1|h1
   ·rw[Y7 h1] at hj;obtain⟨x',y',e1,e2,e3⟩:=hG.pairs j b hj;have hb:=hG.above b (YA hj);obtain⟨q1,q2,q3,q4⟩:=nz hb;exact⟨x',y',e1,e2,up b _ (Y2 hb) (PD b _ q1 q2 q3 q4 e3)⟩
   ·subst h1;have hb:h.objs.size=b:=by simpa using hj
    subst hb;exact⟨x,y,by rw[Pa];exact hx,by rw[Pa];exact hy,up _ _ (Y2 UD) ht⟩
   ·have RO:(as++[h.objs.size])[j]? = none:=abq (by rw[XW,ZP];lia);rw[RO] at hj;cases hj
end
end Hc.Zp
namespace Hc.Zp
open PySem.W
section
variable {w:Y6}{A:YG}{z TI TO S:Ye}{xs:Array XY}
theorem BS {R:Result->Ya->Prop}(hh:A.handled=none)(D:abE z TI TO i1 i2 a1 a2)(B:ZB z TI TO i1 i2 a1 a2 S)(PM:n=min xs.size ys.size)(hn:n<=XU)(hz:IsZip s.heap z TI TO .none)(Z:ZW l1 l2 z TI TO i1 i2 a1 a2 S xs ys s.heap 0)(res:XY)(c₀:Nat)(hS:s.heap.get? S=some {cls:=.type "list",data:=.seq (List.toArray []) c₀})
  (hR:∀h' tk b9 c as,(∀b o,b≠S->b≠z->b≠TO->b≠i1->b≠i2->s.heap.get? b=some o->h'.get? b=some o)->h'.get? S=some {cls:=.type "list",dict:=none,data:=.seq b9 c,slots:=(List.toArray [])}->as.length=n->ZG xs ys S h' as->
   b9.toList=as.map Value.ref->R (.ok (.ret res)) {s with heap:=h',toks:=tk}) :
  Yg (Yw prog w) A.in1 (ZU (.ref S) (.ref z) res)
   (λfin s'=>match fin with|.done f=>R (.ok f) s'|.again c'=>c'.quiet=true/\acg (Yw prog w) A c' R s') (λe s'=>R (.error e) s') s:=by
 have key:∀(h:Z9) (c₁ tk:Nat),(∀b o,b≠S->s.heap.get? b=some o->h.get? b=some o)->
   h.get? S=some {cls:=.type "list",data:=.seq (List.toArray []) c₁}->acg (Yw prog w) A (.builtin "list.extend.loop" ⟨[.ref S,.ref z,res],[]⟩) R {s with heap:=h,toks:=tk}:=λh c₁ tk hk UE=>
  HL (l1:=l1) (l2:=l2) (s:=s) (h₁:=s.heap) hh D B n PM hn res hR n 0 h tk c₁ (List.toArray []) [] (Nat.sub_zero _) (ZT _) (Z.keep B hk) (λb o n1 _ _ _ _ e=>hk b o n1 e) UE rfl rfl ⟨(λ_ ha=>nomatch ha),List.Pairwise.nil,(λj a hj=>by simp at hj)⟩
 unfold ZU;refine XM (abk (T:="zip") ⟨_,hz,rfl⟩ ?_);have h1:adI (.ref S) (.ref z)=false:=by simp[adI,Y2 B.z]
 have h2:(Value.type "zip"==Value.type "list")=false:=by decide
 have h3:(Value.type "zip"==Value.type "tuple")=false:=by decide
 simp only[h1,h2,h3,Bool.or_false,Yj,if_false];refine XM (wpAny_pyIter_zip hz ?_);refine XM (Y4 (HK ⟨_,hz,rfl⟩ ?_));refine wpAny_ite_split (λ_=>?_) (λ_=>XS ⟨aa_ Z8 _,key _ c₀ _ (λb o _ e=>e) hS⟩);refine XM (aa5 ?_);refine XM ?_;show Yg _ _ (updateSeq S (·.push .none) >>= λ_=>updateSeq S (·.pop)) _ _ _;refine XM (wpAny_updateSeq hS rfl ?_);have VA:=Zv (aaJ (·.push Value.none)) hS rfl;refine wpAny_updateSeq (hz:=by seq_fits) VA rfl ?_;have WY:=Zv (aaJ (·.pop)) VA rfl;refine XS ⟨aa_ Z8 _,key _ _ _ (λb o hb e=>?_) WY⟩;exact (aaG _ _ (acN hb)).trans ((aaG _ _ (acN hb)).trans e)
theorem z_ {R:List XY->Ya->Prop}(hh:A.handled=none)(D:abE z TI TO i1 i2 a1 a2)(B:ZB z TI TO i1 i2 a1 a2 s.heap.objs.size)(PM:n=min xs.size ys.size)(hn:n<=XU)(hz:IsZip s.heap z TI TO .none)(B6:aag s.heap TI (.ref i1) (.ref i2)){p q:XY}(IK:aag s.heap TO p q)(t1:dX l1 s.heap i1 a1 0)(t2:dX l2 s.heap i2 a2 0)(g1:eU l1 s.heap a1 xs)(g2:eU l2 s.heap a2 ys)
  (h:∀(h':Z9) (tk:Nat) (as:List Ye),(∀b o,b≠z->b≠TO->b≠i1->b≠i2->s.heap.get? b=some o->h'.get? b=some o)->as.length=n->ZG xs ys s.heap.objs.size h' as->R (as.map Value.ref) {s with heap:=h',toks:=tk}) :
  Yg (Yw prog w) A (collect (.ref z)) R E s:=by
 unfold collect;refine XM (adm (Zl F.entry_proto_collect ?_));rw[Y_ F.plain_proto_collect _];show Yg _ A.in1 (newList [] >>= λl=>again (.builtin "list.__iadd__" ⟨[l,.ref z],[]⟩)) _ _ s;refine XM (YY ?_);refine XS ⟨aa_ acj _,Zl F.entry_list_iadd ?_⟩;rw[Y_ acj _];have up:∀b o,s.heap.get? b=some o->(s.heap.push {cls:=.type "list",data:=.seq ([]:List XY).toArray}).get? b=some o:=λb o e=>XQ _ e;have UE:(s.heap.push {cls:=.type "list",data:=.seq ([]:List XY).toArray}).get? s.heap.objs.size=some {cls:=.type "list",data:=.seq (List.toArray [])}:=X8 _ rfl;show Yg _ A.in1 (ZU (.ref s.heap.objs.size) (.ref z) (.ref s.heap.objs.size)) _ _ _;have key:=BS (prog:=prog) (w:=w) (A:=A) (s:={s with heap:=s.heap.push {cls:=.type "list",data:=.seq ([]:List XY).toArray}}) (l1:=l1) (l2:=l2)
  (R:=λ(q:Result) (s':Ya)=>∃(h':Z9) (tk:Nat) (se:Array XY) (c':Nat) (as:List Ye),q=.ok (.ret (.ref s.heap.objs.size))/\s'={s with heap:=h',toks:=tk} /\
   (∀b o,b≠z->b≠TO->b≠i1->b≠i2->s.heap.get? b=some o->h'.get? b=some o)/\h'.get? s.heap.objs.size=some {cls:=.type "list",dict:=none,data:=.seq se c',slots:=(List.toArray [])}/\as.length=n/\ZG xs ys s.heap.objs.size h' as/\se.toList=as.map Value.ref)
  hh D B PM hn (up _ _ hz) ⟨.inl ⟨rfl,up _ _ hz,p,q,up _ _ IK⟩,up _ _ B6,t1.at λo e=>up _ o e,t2.at λo e=>up _ o e,g1.at λo e=>up _ o e,g2.at λo e=>up _ o e⟩ (.ref s.heap.objs.size) 0 UE
  (λh' tk se c' as hk AY hl hG jr=>⟨h',tk,se,c',as,rfl,rfl,λb o n1 n2 n3 n4 e=>hk b o (Ym (X_ e)) n1 n2 n3 n4 (up b o e),AY,hl,hG,jr⟩)
 refine Zc key (λfin s' x=>?_) λe s' x=>?_
 ·cases fin with
  |done f=>
   obtain⟨h',tk,se,c',as,e,rfl,hk,AY,hl,hG,jr⟩:=x;cases e;show Yg _ A (load s.heap.objs.size >>= _) _ _ _;refine XM (ady AY ?_);refine XS ?_;show R se.toList _;rw[jr];exact h h' tk as hk hl hG
  |again c₁=>
   refine⟨x.1,aaL x.2 λq s₂ y=>?_⟩;obtain⟨h',tk,se,c',as,rfl,rfl,hk,AY,hl,hG,jr⟩:=y;show Yg _ A (load s.heap.objs.size >>= _) _ _ _;refine XM (ady AY ?_);refine XS ?_;show R se.toList _;rw[jr];exact h h' tk as hk hl hG
 ·obtain⟨_,_,_,_,_,e',_⟩:=x;cases e'
end
theorem rS (l1 l2:Bool)(z TI TO i1 i2 a1 a2:Ye)(xs ys:Array XY)(n:Nat)(D:abE z TI TO i1 i2 a1 a2)(PM:n=min xs.size ys.size)(hn:n<=XU) :
  Meets (Builtin.«tuple.__new__» ⟨[.type "tuple",.ref z],[]⟩)
   (λA R s=>A.handled=none/\ZB z TI TO i1 i2 a1 a2 s.heap.objs.size/\IsZip s.heap z TI TO .none/\aag s.heap TI (.ref i1) (.ref i2)/\(∃p q,aag s.heap TO p q)/\dX l1 s.heap i1 a1 0/\dX l2 s.heap i2 a2 0/\eU l1 s.heap a1 xs/\eU l2 s.heap a2 ys/\
    ∀(h':Z9) (tk:Nat) (as:List Ye),(∀b o,b≠z->b≠TO->b≠i1->b≠i2->s.heap.get? b=some o->h'.get? b=some o)->as.length=n->ZG xs ys s.heap.objs.size h' as->
    R (.ok (.ret (.ref h'.objs.size))) {s with heap:=h'.push {cls:=.type "tuple",data:=.seq (as.map Value.ref).toArray},toks:=tk}):=
 .of_wp λprog w A R s h=>by
  obtain⟨hp,g,d,tk,os⟩:=s;obtain⟨hh,B,hz,B6,⟨p,q,IK⟩,t1,t2,g1,g2,h⟩:=h;have Ul:=sub_tuple_self;have RB:=init_tuple_lookup;have Wf:=madeHere_tuple;have hT:Shared.TypeIs ⟨hp,g,d,tk,os⟩ (.ref z) "zip":=⟨_,hz,rfl⟩;wp_walk using abk hT,z_ (A:=A.in1) hh D B PM hn hz B6 IK t1 t2 g1 g2;intro h' RC as hk hl hG;show Yg _ _ (Zg (as.map Value.ref).toArray >>= λv=>ret v) _ _ _;unfold Zg;refine XM (YY ?_ (by show (as.map Value.ref).toArray.size<=XU;simp only[XZ,XO];lia));exact XS ⟨_,rfl,h h' RC as hk hl hG⟩
end Hc.Zp
namespace L2
open Hc.Zp
theorem aP.laids {t':Nat}(I:aP X pins σ H s)(k:∀b o,s.heap.get? b=some o->h'.get? b=some o)(up:∀b u,H b=some u->H' b=some u)(new:∀b u,H' b=some u->H b=some u\/(s.heap.objs.size<=b/\cD X.prog X.w H' h' b u)) :
  aP X pins σ H' {s with heap:=h',toks:=t'}:=by
 refine I.step (g':=s.gens) (d':=s.drawn) (ch:=[]) (λb hb=>by cases hb) (λb o _ _ hc e _=>k b o e) (λb o _ _ hc e _=>⟨o.slots,k b o e⟩) (λb o _ e n=>?_) (λb o hc e=>⟨o,k b o e⟩)
  (λb xs e=>up _ _ e) (λb o u e=>up _ _ e) (λb ps e=>⟨(List.toArray []),by rw[up _ _ e];simp⟩) (λm hm=>?_) (λb u e=>?_) I.bare
 ·cases q:H' b with
  |none=>rfl
  |some u=>
   rcases new b u q with z|z
   ·rw[n] at z;cases z
   ·exact absurd (X_ e) (Nat.not_lt.mpr z.1)
 ·obtain⟨o,es,ep,ho,r⟩:=hm;exact⟨o,es,ep,k _ o ho,r⟩
 ·rcases new b u e with z|z
  ·exact (I.hok b u z).stay (λc v hc q=>k c v q) (λc q=>up _ _ q) λc xs q=>up _ _ q
  ·exact z.2
end L2
namespace L2
open Hc.Zp
noncomputable def xN (H:Hp):List Ye->List V->List V->Hp
 |a::as,x::xs,y::ys=>dF (xN H as xs ys) a (.tup [x,y])
 |_,_,_=>H
theorem uT {H:Hp}{b:Ye}:∀{as:List Ye} {xs ys:List V},b∉as->xN H as xs ys b=H b
 |a::as,x::xs,y::ys,h=>by
  unfold xN;rw[aS λz=>h (by rw[z];exact X2)];exact uT λz=>h (X4 _ z)
 | [],_,_,_=>rfl
 |_::_,[],_,_=>rfl
 |_::_,_::_,[],_=>rfl
theorem Dm {H:Hp}:∀{as:List Ye} {xs ys:List V} {j:Nat} {a:Ye} {x y:V},as.Pairwise (·<·)->as[j]? = some a->xs[j]? = some x->ys[j]? = some y->xN H as xs ys a=some (.tup [x,y])
 |a0::as,x0::xs,y0::ys,0,a,x,y,_,h1,h2,h3=>by
  cases h1;cases h2;cases h3;unfold xN;exact aQ
 |a0::as,x0::xs,y0::ys,j+1,a,x,y,p,h1,h2,h3=>by
  unfold xN;have IU:as[j]? = some a:=h1;rw[aS (Y2 ((aai.mp p).1 a (YA IU)))];exact Dm (aai.mp p).2 IU h2 h3
 | [],_,_,_,_,_,_,_,h,_,_=>by cases h
 |_::_,[],_,_,_,_,_,_,_,h,_=>by cases h
 |_::_,_::_,[],_,_,_,_,_,_,_,h=>by cases h
def KG (K:XX)(ta:TA):TE:=λσ H Q=>ta σ H λvs H1=>∃l1 l2 a1 a2 xs ys,vs=[.ref a1,.ref a2]/\Bz l1 K H1 a1 xs/\Bz l2 K H1 a2 ys/\xs.length<=XU/\
 ∀(ts:List Ye) (l:Ye) (H2:Hp),aX H1 H2->ts.length=min xs.length ys.length->(∀(j:Nat) (a:Ye),ts[j]? = some a->∃x y,xs[j]? = some x/\ys[j]? = some y/\H2 a=some (.tup [x,y]))->H1 l=none->H2 l=some (.tup (ts.map V.ref))->Q (.ref l) H2
theorem MD:∀as:List Ye,bw (as.map V.ref) (as.map Value.ref)
 | []=>.nil
 |_::as=>.cons rfl (MD as)
section
variable {p1 p3 p4 pos:Pos}{a b:aaj}
theorem EH {ta:TA}(hc:X.calm=true)(ha:PA X [a,b] ta)(hm:X.mg "tuple"=none)(RN:X.mg "zip"=none)(hg:Gl X "tuple":=by rfl)(Ll:Gl X "zip":=by rfl)(hs:X7 [a,b] X.env=[(false,abh a X.env),(false,abh b X.env)]:=by rfl)(cL:X7 [b] X.env=[(false,abh b X.env)]:=by rfl)
  (he:X7 [.Call (.Name "zip" p3) [a,b] [] p4] X.env=(false,abh (.Call (.Name "zip" p3) [a,b] [] p4) X.env)::X7 [] X.env:=by rfl) (jZ:(aan pos (X7 [] X.env)).any (·.1)=false:=by rfl) (Pb:aan pos (X7 [] X.env)=[]:=by rfl) :
  PE X (.Call (.Name "tuple" p1) [.Call (.Name "zip" p3) [a,b] [] p4] [] pos) (KG X.K ta):=by
 intro pins s σ H Q I h;refine aad (nj I hg hm b_ ?_ (by decide) (by decide));refine ZR ?_ he jZ;rw[he];show Yg _ _ (spliced ((false,abh _ X.env)::aan pos (X7 [] X.env))) _ _ s;rw[Pb];refine Calls.spliced_cons ?_;refine aad (nj I Ll RN Gi ?_ (by decide) (by decide));refine ZR (fj (ha p4 pins s σ H _ I h) λus s1 ⟨vs,H1,I1,r1,q1⟩=>?_) (by rw[hs,cL]) (by rw[cL];rfl);obtain⟨l1,l2,a1,a2,xs,ys,rfl,g1,g2,hl,q⟩:=q1;cases r1 with
 |cons r rr=>
  cases rr with
  |cons r' rr=>
   cases rr;cases r;cases r';obtain⟨is1,v1,m1⟩:=I1.sq g1;obtain⟨is2,v2,m2⟩:=I1.sq g2;have lt:∀(l:Bool) (c:Ye) (zs:Array XY),eU l s1.heap c zs->c<s1.heap.objs.size:=λl c zs hq=>by
    cases l with
    |true=>obtain⟨_,e,_⟩:=hq;exact X_ e
    |false=>obtain⟨_,e,_⟩:=hq;exact X_ e
   refine wg m1 m2 λh' z1 z2 z3 z4 z5 kp=>?_;refine XS ?_;have VB:(a1:Nat)<s1.heap.objs.size:=lt l1 a1 _ m1;have VC:(a2:Nat)<s1.heap.objs.size:=lt l2 a2 _ m2;have ne:∀(c k:Nat),c<s1.heap.objs.size->c≠s1.heap.objs.size+k:=λc k h=>by lia
   have Pc:∀(c d k:Nat),s1.heap.objs.size+4<d->c<s1.heap.objs.size+4->c<d:=λc d k h1 h2=>by lia
   have n1:=v1.length;have n2:=v2.length;have lz:(s1.heap.objs.size+4:Nat)<h'.objs.size:=X_ z1;have B:ZB (s1.heap.objs.size+4) (s1.heap.objs.size+2) (s1.heap.objs.size+3) s1.heap.objs.size (s1.heap.objs.size+1) a1 a2 h'.objs.size:=⟨lz,Pc _ _ 0 lz (by lia),Pc _ _ 0 lz (by lia),Pc _ _ 0 lz (by lia),Pc _ _ 0 lz (by lia),Pc _ _ 0 lz (YE VB (Zm _ _)),Pc _ _ 0 lz (YE VC (Zm _ _))⟩;refine callType_new F.called_tuple (by decide) (F.typeCall_tuple_1 _) (F.newCall_tuple_1 _) (λobj=>F.args_object_init_2 obj _) F.entry_tuple_new
    (rS l1 l2 _ _ _ _ _ a1 a2 is1.toArray is2.toArray (min is1.length is2.length) (zipApart_new VB VC) (by simp) (by lia)) ⟨I1.ok.hd hc,B,z1,z2,⟨_,_,z3⟩,z4,z5,m1.at λo e=>kp _ o e,m2.at λo e=>kp _ o e,λh2 tk as hk Pa hG=>⟨⟨_,X8 _ rfl,rfl⟩,?_⟩⟩
   have old:∀c o,s1.heap.get? c=some o->(h2.push {cls:=.type "tuple",data:=.seq (as.map Value.ref).toArray}).get? c=some o:=λc o e=>by
    have lc:(c:Nat)<s1.heap.objs.size:=X_ e;exact XQ _ (hk c o (ne c 4 lc) (ne c 3 lc) (ne c 0 lc) (ne c 1 lc) (kp c o e))
   have Ua:∀c∈as,s1.heap.objs.size<c:=λc hc=>aau (Pc _ _ 0 lz (by lia)) (hG.above c hc);have fr:∀{c:Ye},s1.heap.objs.size<=c->H1 c=none:=λhc=>I1.hok.fresh hc;have at_:∀j c,as[j]? = some c->∃x y u1 u2,xs[j]? = some x/\ys[j]? = some y/\bX x u1/\bX y u2/\aag h2 c u1 u2:=λj c hj=>by
    obtain⟨u1,u2,e1,e2,e3⟩:=hG.pairs j c hj;have e1:is1[j]? = some u1:=by simpa using e1
    have e2:is2[j]? = some u2:=by simpa using e2
    obtain⟨j1,_⟩:=X3.mp e1;obtain⟨j2,_⟩:=X3.mp e2;have hx:xs[j]? = some (xs[j]'(by lia)):=XN (by lia);have hy:ys[j]? = some (ys[j]'(by lia)):=XN (by lia);obtain⟨w1,f1,r1⟩:=v1.get hx;obtain⟨w2,f2,r2⟩:=v2.get hy;rw[e1] at f1;cases f1;rw[e2] at f2;cases f2;exact⟨_,_,u1,u2,hx,hy,r1,r2,e3⟩
   have la:∀c∈as,c<h2.objs.size:=λc hc=>by
    obtain⟨j,hj⟩:=aaQ.mp hc;obtain⟨_,_,_,_,_,_,_,_,e⟩:=at_ j c hj;exact X_ e
   have nl:h2.objs.size∉as:=λz=>ZJ _ (la _ z);have Pd:s1.heap.objs.size<=h2.objs.size:=by
    have e2:=hk (s1.heap.objs.size+2) _ (by show ¬((s1.heap.objs.size+2:Nat)=s1.heap.objs.size+4);lia) (by show ¬((s1.heap.objs.size+2:Nat)=s1.heap.objs.size+3);lia) (by show ¬((s1.heap.objs.size+2:Nat)=s1.heap.objs.size);lia) (by show ¬((s1.heap.objs.size+2:Nat)=s1.heap.objs.size+1);lia) z2;have e3:(s1.heap.objs.size+2:Nat)<h2.objs.size:=X_ e2;lia
   have Sv:∀j c x y,as[j]? = some c->xs[j]? = some x->ys[j]? = some y->dF (xN H1 as xs ys) h2.objs.size (.tup (as.map V.ref)) c=some (.tup [x,y]):=λj c x y e1 e2 e3=>by
    rw[aS λz=>nl (by rw[←z];exact YA e1)];exact Dm hG.rise e1 e2 e3
   have VD:∀c u,H1 c=some u->dF (xN H1 as xs ys) h2.objs.size (.tup (as.map V.ref)) c=some u:=λc u e=>by
    have n0:¬s1.heap.objs.size<=c:=λz=>by rw[fr z] at e;cases e
    rw[aS λz=>n0 (by rw[z];exact Pd),uT λz=>n0 (abM (Ua c z))];exact e
   refine⟨.ref h2.objs.size,dF (xN H1 as xs ys) h2.objs.size (.tup (as.map V.ref)),I1.laids (t':=tk) old VD λc u e=>?_,rfl,q as h2.objs.size _ VD (by rw[Pa,n1,n2]) (λj c hj=>?_) (fr Pd) aQ⟩
   ·by_cases c1:c=h2.objs.size
    ·subst c1;rw[aQ] at e;cases e;refine .inr ⟨Pd,?_⟩;refine⟨by rw[XO];lia,as.map Value.ref,MD as,?_,0,?_⟩
     ·exact IsTup.new h2 (as.map Value.ref).toArray
     ·exact X8 h2 rfl
    ·by_cases c2:c∈as
     ·obtain⟨j,hj⟩:=aaQ.mp c2;obtain⟨x,y,u1,u2,e1,e2,r1,r2,e3⟩:=at_ j c hj;rw[Sv j c x y hj e1 e2] at e;cases e;have e4:(h2.push {cls:=.type "tuple",data:=.seq (as.map Value.ref).toArray}).get? c=some _:=XQ _ e3;exact .inr ⟨abM (Ua c c2),by rw[aaA];simp,[u1,u2],.cons r1 (.cons r2 .nil),⟨_,e4,rfl,_,rfl⟩,_,e4⟩
     ·rw[aS c1,uT c2] at e;exact .inl e
   ·obtain⟨x,y,_,_,e1,e2,_,_,_⟩:=at_ j c hj;exact⟨x,y,e1,e2,Sv j c x y hj e1 e2⟩
end
theorem uU {K:XX}{H:Hp}{A:Ye->Prop}:∀{us:List U} {vs:List V},us.length=vs.length->(∀(i:Nat) (u:U),us[i]? = some u->∃v,vs[i]? = some v/\Rp K H A u v)->aU K H A us vs
 | [],[],_,_=>aU.nil
 |u::us,v::vs,l,h=>by
  obtain⟨v',e,r⟩:=h 0 u rfl;cases e;exact aU.cons r (uU (Nat.succ.inj l) λi u e=>h (i+1) u e)
 | [],_::_,l,_=>by cases l
 |_::_,[],l,_=>by cases l
noncomputable def Aa (ga:Ev->R (List U×Ev)):Ev->R (U×Ev):=λρ=>(En ga ρ).bind λx=>.ok (.tup x.1,x.2)
section
variable {p1 p3 p4 pos:Pos}{a b:aaj}{b1:Bool}{ga:Ev->R (List U×Ev)}
theorem EI (hc:X.calm=true)(ha:DA X G [a,b] b1 false ga)(hm:X.mg "tuple"=none)(RN:X.mg "zip"=none)(hg:Gl X "tuple":=by rfl)(Ll:Gl X "zip":=by rfl)(hs:X7 [a,b] X.env=[(false,abh a X.env),(false,abh b X.env)]:=by rfl)(cL:X7 [b] X.env=[(false,abh b X.env)]:=by rfl)
  (he:X7 [.Call (.Name "zip" p3) [a,b] [] p4] X.env=(false,abh (.Call (.Name "zip" p3) [a,b] [] p4) X.env)::X7 [] X.env:=by rfl) (jZ:(aan pos (X7 [] X.env)).any (·.1)=false:=by rfl) (Pb:aan pos (X7 [] X.env)=[]:=by rfl) :
  DE X G (.Call (.Name "tuple" p1) [.Call (.Name "zip" p3) [a,b] [] p4] [] pos) b1 .S (Aa ga):=⟨(EH hc ha.un hm RN hg Ll hs cL he jZ Pb).to λσ H Q h00=>by
 obtain⟨Z,A,ρ,q,f⟩:=h00;unfold Aa En at f;refine⟨Z,A,ρ,q,?_⟩;cases e1:ga ρ with
 |stk=>rw[e1] at f;exact f.elim
 |exc=>rw[e1] at f;exact f.elim
 |ok y=>
  obtain⟨us,ρ1⟩:=y;rw[e1] at f;intro vs H1 q1 x1 s1 vm;dsimp only[L2.R.bind] at f;split at f
  ·rename_i z e2;split at e2
   ·rename_i u w';split at e2
    ·rename_i as bs ea eb;cases e2;have r:=vm.rps;unfold aU at r;obtain⟨v,vr,rfl,r1,r2⟩:=r;unfold aU at r2;obtain⟨v',vr',rfl,r3,r4⟩:=r2;unfold aU at r4;subst r4;obtain⟨l1,a1,xs,rfl,n1,z1,k1,_⟩:=xo ea r1;obtain⟨l2,a2,ys,rfl,n2,z2,k2,_⟩:=xo eb r3;refine⟨l1,l2,a1,a2,xs,ys,rfl,k1,k2,by rw[←z1.length];exact n1,λts l H2 sm tl WZ hn hl=>?_⟩;refine f _ _ (q1.same sm) (x1.trans (fQ.same sm)) (p7 s1 sm) (vV.ofS ?_);have ln:(abp (λa b=>U.tup [a,b]) as bs).length=ts.length:=by rw[abJ,tl,z1.length,z2.length]
     unfold Rp;refine⟨l,_,rfl,hl,?_,?_⟩
     ·rw[abJ];exact YX (Nat.min_le_left _ _) n1
     ·refine uU (by rw[XO];exact ln) λi u hu=>?_;rw[acz] at hu;cases hA:as[i]? with
      |none=>rw[hA] at hu;cases hu
      |some ua=>cases hB:bs[i]? with
       |none=>rw[hA,hB] at hu;cases hu
       |some ub=>
        rw[hA,hB] at hu;cases hu;obtain⟨x,AZ,px⟩:=z1.get hA;obtain⟨y,hy1,py⟩:=z2.get hB;have hi:i<ts.length:=by
         rw[←ln];have:(abp (λa b=>U.tup [a,b]) as bs)[i]? = some (.tup [ua,ub]):=by rw[acz,hA,hB]
         exact (X3.mp this).1
        obtain⟨x',y',g1,g2,g3⟩:=WZ i ts[i] (XN hi);rw[AZ] at g1;cases g1;rw[hy1] at g2;cases g2;refine⟨.ref ts[i],by rw[Yq,XN hi];rfl,?_⟩;unfold Rp;exact⟨_,_,rfl,g3,by have:XU=16777216:=rfl;rw[this];simp,aU.cons (px.same sm) (aU.cons (py.same sm) aU.nil)⟩
    ·cases e2
   ·cases e2
  ·exact f.elim
  ·exact f.elim⟩
end
end L2
section
set_option maxHeartbeats 400000
namespace L2
open PySem PySem.Spec PyProof.Rows PySem.W
noncomputable abbrev Gm.w (G:Gm)(W:Hp->Prop):Gm:=⟨G.own,G.io,W⟩
section
variable {w:Y6}{K:Frag}{base:Z9}{bQ:XY}{A:YG}{outer:List Env}{s0:Ya}{H0:Hp}{E:XK}
variable {np cpos pos:Pos}{e0:aaj}{t:TA}{m:Md}{c:String}
def Ab (hx:mg x=some (.ref C))(hq:excIn K C zm "ValueError.__new__"=true)(hh:A.handled=none)
  (ha:PA (jC (CH P w C) P w K mg base N qual scope f bQ A outer s0 H0 E) [e0] t) (ht:∀σ H (Q:List V->Hp->Prop),(∀xs H',xs.length<=XU->aX H H'->Q xs H')->t σ H Q) (hW:∀H',G.W H'->E (.ref C) none H')
  (hg:Gl (jC (CH P w C) P w K mg base N qual scope f bQ A outer s0 H0 E) x:=by rfl) (hd:(x==("__debug__":Str))=false:=by decide)
  (he:X7 [e0] (aae qual scope s0.heap.objs.size f bQ)=(false,abh e0 (aae qual scope s0.heap.objs.size f bQ))::X7 [] (aae qual scope s0.heap.objs.size f bQ):=by rfl) :
  DS (jC (CH P w C) P w K mg base N qual scope f bQ A outer s0 H0 E) G m (.Raise (some (.Call (.Name x np) [e0] [] cpos)) none pos) (λ_=>.exc c .non):=
 ⟨(Gq hx hq hh ha hg hd he).to λD σ H ⟨Z,A',ρ,q,f⟩=>ht σ H _ λxs H' l sm=>⟨l,hW _ (f H' λa o h=>sm a o (q.bas a o h))⟩⟩
end
section
variable {w:Y6}{K:Frag}{base:Z9}
theorem Df.fnX (G:Gm)(m:Md)(s:Ev->SR)(d:Df K mg x st)(S:aW N ps (aq st))(hb:∀(kV kX pm:XY) (an:Option Ye) (bQ ct:XY) (us:List XY),us.length=ps.length->bindArgs (Zu x x (ff st) (cJ st) (aq st) .none kV kX pm an bQ ct) ⟨us,[]⟩=pure (ps.zip us))(DJ:G.io=false)(lT:∀i,i<ps.length->G.is i=false)(gf:∀(f:Ye) (bQ:XY) (A:YG) (outer:List Env) (s0:Ya) (H:Hp) (E:XK),eV k (A.deeper (aae x (aq st) s0.heap.objs.size f bQ))->
   Bp (jC (CH P w C) P w K mg base N x (aq st) f bQ A outer s0 H E) (G.w λH'=>E (.ref C) none H') m (cJ st) s) :
  ∃(f:Ye) (fd:aa9),mg x=some (.ref f)/\Zn K (.ref f)=true/\j4 K fd ps []/\j3 P w K mg base (CH P w C) (k+1) f fd ps (Tr K ps.length C λus=>∃c u,dq m N.length s us=.exc c u):=by
 obtain⟨f,fd,mm,F⟩:=d.ex;refine⟨f,fd,mm,F.kp,F.binds hb,?_⟩;obtain⟨oc,od,kV,kX,pm,an,bQ,ct,osl,rfl,lk,kI⟩:=F.ex;refine Lu (k:=k) (N:=N) lk kI S (λvs H Q E ⟨us,A,r,_,l,_⟩=>by rw[←r.length];exact l) λA outer s1 H vs Q E hr ⟨us,A0,r,mu,l,⟨c,u,hx⟩,hE⟩=>⟨_,(gf f bQ A outer s1 H E hr).un,?_⟩;refine⟨⟨A0,H,0⟩,A0,_,Eu (G:=G.w λH'=>E (.ref C) none H') (N:=N) r mu DJ (λi hi=>lT i (by rw[←l];exact hi)),?_⟩;unfold dq at hx;cases e:s (bx N.length us) with
 |exc=>exact λH' hb=>hE H' hb
 |nx=>rw[e] at hx;dsimp only at hx;split at hx<;>cases hx
 |rt=>rw[e] at hx;cases hx
 |bk=>rw[e] at hx;cases hx
 |ct=>rw[e] at hx;cases hx
 |stk=>rw[e] at hx;cases hx
end
end L2
end
noncomputable section
namespace Hc
open PySem L2
noncomputable abbrev uW:Gm:=⟨[false,true,false],false,λ_=>False⟩
noncomputable def jd:Ev->SR:=(aE (a9 1 (eW ak))
 (aE (nv (d6 (af 0)) (cA 2)
 (dR (JO (gB (aI (cx id) (zqb 2 0) (gC (.str "lay")))) (gB (aI (cx id) (zqb 2 0) (gC (.str "mix"))))) (iD (gM "list" 1 iK (ae (zqb 2 2) ak))) (dR (gB (aI (cx id) (zqb 2 0) (gC (.str "look")))) (iD (gM "list" 1 fW (ae (eh (d6 (zqb 2 2)) [none] (cA 0) bY (zqb 0 1)) ak))) aR)))
 (bg (af 1))))
noncomputable def dN:List U->R U:=dq .O 3 jd
noncomputable abbrev Ac:Gm:=⟨[false,true,false],false,λ_=>False⟩
noncomputable def lG:Ev->SR:=(aE (a9 1 (eW ak))
 (aE (a9 2 (eW (ae (af 0) ak)))
 (aE (gD (gB (aI Je (fg gw (ae (af 2) ak)) (zqc 0)))
 (aE (iD (gM "list" 1 iK (ae (af 2) ak)))
 (a9 2 (fR 1 dN (ae (af 2) ak)))) 1000)
 (bg (af 1)))))
noncomputable def cR:List U->R U:=dq .O 3 lG
noncomputable abbrev BU:Gm:=⟨[false],false,λ_=>False⟩
noncomputable def nO:Ev->SR:=(bg (fg rg (ae (eh (d6 (fR 1 cR (ae (af 0) ak))) [none] (cA 0) bY (fg gw (ae (af 0) ak))) ak)))
noncomputable def je:List U->R U:=dq .S 1 nO
noncomputable abbrev rj:Gm:=⟨[false,false],false,λ_=>False⟩
noncomputable def cS:Nat->Ev->SR
 |0=>λ_=>.stk
 |n+1=>let r_with_more:=dq .S 2 (cS n)
  (aE (dR (gB (aI (cx id) (zqb 0 0) (gC (.str "end")))) (bg (bu (ae (gC (.str "lay")) (ae (zqb 0 1) (ae (af 1) ak))))) aR)
 (aE (dR (gB (aI (cx id) (zqb 0 0) (gC (.str "look")))) (bg (bu (ae (gC (.str "look")) (ae (zqb 0 1) (ae (fg d9 (ae (eh (d6 (zqb 0 2)) [none,none,some 1] (kL 2 (dk (cA 0) (dk (cA 1) kK))) bY (bu (ae (af 0) (ae (fR 2 r_with_more (ae (af 1) (ae (af 2) ak))) ak)))) ak)) ak))))) aR)
 (aE (dR (gB (aI (cx id) (zqb 0 0) (gC (.str "again")))) (bg (af 0)) aR)
 (bg (bu (ae (zqb 0 0) (ae (zqb 0 1) (ae (fR 2 r_with_more (ae (zqb 0 2) (ae (af 1) ak))) ak))))))))
noncomputable def a8 (n:Nat):List U->R U:=dq .S 2 (cS n)
noncomputable abbrev nP:Gm:=⟨[false,false,false],false,λ_=>False⟩
noncomputable def ft:Ev->SR:=(aE (nv (d6 (fR 1 cR (ae (af 1) ak))) (cA 2)
 (dR (vv (gB (fg zc (ae (eh (d6 (af 2)) [none,some 0] (cA 0) (gB (aI (cx id) (zqb 0 0) (gC (.str "end")))) (aI (cx id) (fg gw (ae (zqb 0 1) ak)) (af 1))) ak)))) (bg (gC (.bl false))) aR))
 (bg (gC (.bl true))))
noncomputable def aH:List U->R U:=dq .S 3 ft
noncomputable abbrev uX:Gm:=⟨[false],false,λ_=>False⟩
noncomputable def fZ:Ev->SR:=(bg (Tb (aI Je (fR 1 je (ae (af 0) ak)) (zqc 60)) (aI Je (fg gw (ae (fR 1 cR (ae (af 0) ak)) ak)) (zqc 12))))
noncomputable def a7:List U->R U:=dq .S 1 fZ
noncomputable abbrev nQ:Gm:=⟨[false,false,false,false],false,λ_=>False⟩
noncomputable def nR:Ev->SR:=(aE (dR (vv (gB (fR 2 aH (ae (af 0) (ae (af 1) ak))))) (λ_=>.exc "NoPlan" .non) aR)
 (aE (a9 3 (fR 2 (a8 20) (ae (af 1) (ae (af 2) ak))))
 (aE (dR (gB (fR 1 a7 (ae (af 3) ak))) (λ_=>.exc "TooMany" .non) aR)
 (bg (af 3)))))
noncomputable def c_:List U->R U:=dq .S 4 nR
noncomputable abbrev uY:Gm:=⟨[false,false],false,λ_=>False⟩
noncomputable def f6:Ev->SR:=(aE (dR (gB (aI JZ (af 1) (fg gw (ae (af 0) ak)))) (bg (aI cz (af 0) (af 1))) aR)
 (bg (zqc 0)))
noncomputable def dO:List U->R U:=dq .S 2 f6
noncomputable abbrev xO:Gm:=⟨[false,false,false],false,λ_=>False⟩
noncomputable def iM:Ev->SR:=(aE (a9 2 (fR 2 dO (ae (af 0) (ae (af 1) ak))))
 (aE (dR (gB (aI Tn (af 2) (aI JY (zqc 10) (zqc 18)))) (bg (eW (ae (aI tW (af 2) (aI JY (zqc 10) (zqc 18))) (ae (gC (.bl true)) ak)))) aR)
 (bg (eW (ae (aI y6 (af 2) (zqc 2147483647)) (ae (gC (.bl false)) ak))))))
noncomputable def dY:List U->R U:=dq .O 3 iM
noncomputable abbrev Ad:Gm:=⟨[true,false,false,false],true,λ_=>False⟩
noncomputable def jJ:Ev->SR:=(aE (dR (gB (zqb 0 1)) (aE (a9 2 (aI y6 (zqb 0 0) (af 1)))
 (aE (y3 0 (aI y4 (zqb 0 0) (af 1)) (zqc 0))
 (bg (af 2)))) aR)
 (aE (y3 0 (aI y6 (aI di (aI mT (zqb 0 0) (zqc 48271)) (zqc 29)) (zqc 2147483647)) (zqc 0))
 (aE (a9 3 (aI y6 (aI di (aI di (aI mT (zqb 0 0) (zqb 0 0)) (aI mT (zqc 39373) (zqb 0 0))) (zqc 7)) (zqc 2147483629)))
 (aE (a9 3 (aI y6 (aI di (aI mT (af 3) (af 3)) (aI mT (zqc 16807) (af 3))) (zqc 2147483587)))
 (bg (aI y6 (aI y4 (af 3) (zqc 8)) (af 1)))))))
noncomputable def ar:List U->R (U×U):=iu 4 jJ
noncomputable abbrev gG:Gm:=⟨[true,false,false],true,λ_=>False⟩
noncomputable def ky:Ev->SR:=(aE (a9 2 (dw 2 0 ar (ae (zqc 4) ak)))
 (aE (dR (gB (aI JZ (af 2) (zqc 2))) (bg (fg d9 (ae (rP gG (fA (ae (af 1) ak)) [none,some 0] (cA 0) bY (dw 2 1 ar (ae (zqc 2) ak))) ak))) aR)
 (bg (fg d9 (ae (rP gG (fA (ae (af 1) ak)) [none,some 0,some 2] (cA 0) bY (dw 2 1 ar (ae (aI cz (eW (ae (zqc 3) (ae (zqc 10) ak))) (aI tW (af 2) (zqc 2))) ak))) ak)))))
noncomputable def fu:List U->R (U×U):=iu 3 ky
noncomputable abbrev kz:Gm:=⟨[true,false,true],true,λ_=>False⟩
noncomputable def kA:Ev->SR:=(aE (a9 2 (F0 (ae (af 1) ak)))
 (bg (fg d9 (ae (rP kz (fA (ae (af 1) ak)) [none,some 2,some 0] (cA 0) bY (gM "list" 1 qb (ae (dw 2 2 ar (ae (fg gw (ae (af 1) ak)) ak)) ak))) ak))))
noncomputable def bb:List U->R (U×U):=iu 3 kA
noncomputable abbrev Ae:Gm:=⟨[false,false],false,λ_=>False⟩
noncomputable def lH:Ev->SR:=(bg (fg d9 (ae (eh (d6 (af 1)) [none,some 0] (cA 0) bY (aI cz (af 1) (af 0))) ak)))
noncomputable def cu:List U->R U:=dq .S 2 lH
noncomputable abbrev jf:Gm:=⟨[true,false,false,false,false,false,false,false,false,true],true,λ_=>False⟩
noncomputable def de:Ev->SR:=(aE (a9 2 (F5 (ae (af 1) ak)))
 (aE (a9 3 (dw 2 0 ar (ae (zqc 6) ak)))
 (aE (dR (gB (aI (cx id) (af 3) (zqc 0))) (bg (fg d9 (ae (eh (fA (ae (af 1) ak)) [none,some 2] (cA 0) bY (aI di (qD oG (af 1) (dJ (af 0)) d5) (qD oG (af 1) d5 (dJ (af 0))))) ak))) aR)
 (aE (dR (gB (aI (cx id) (af 3) (zqc 1))) (aE (a9 4 (dw 2 0 bb (ae (af 1) ak)))
 (bg (bu (ae (af 2) (ae (af 4) ak))))) aR)
 (aE (dR (gB (aI (cx id) (af 3) (zqc 2))) (aE (a9 5 (aI y4 (af 1) (zqc 2)))
 (bg (bu (ae (af 2) (ae (aI di (aI di (qD oG (af 2) (dJ (af 5)) (dJ (aI mT (zqc 2) (af 5)))) (qD oG (af 2) d5 (dJ (af 5)))) (qD oG (af 2) (dJ (aI mT (zqc 2) (af 5))) d5)) ak))))) aR)
 (aE (dR (gB (aI (cx id) (af 3) (zqc 3))) (aE (a9 6 (eW (ae (bu ak) ak)))
 (aE (a9 7 (fg vZ (ae (af 1) (ae (aI di (zqc 2) (dw 2 0 ar (ae (zqc 3) ak))) ak))))
 (aE (nv (fA (ae (af 7) ak)) (cA 8)
 (aE (a9 9 (eW ak))
 (aE (nv (d6 (af 6)) (cA 4)
 (iD (gM "list" 9 fW (ae (eh (fA (ae (aI di (af 8) (zqc 1)) ak)) [none,some 4,some 8] (cA 0) bY (aI di (aI di (qD oG (af 1) d5 (dJ (af 0))) (bu (ae (af 2) ak))) (qD oG (af 1) (dJ (af 0)) d5))) ak))))
 (yV 6 9))))
 (bg (fg d9 (ae (eh (d6 (af 6)) [none,some 2,some 7] (cA 0) bY (aI di (af 0) (qD oG (af 1) (dJ (af 2)) d5))) ak)))))) aR)
 (bg (fg d9 (ae (rP jf (fA (ae (aI di (zqc 1) (dw 2 0 ar (ae (zqc 4) ak))) ak)) [none,some 0,some 1] (cA 0) bY (dw 2 1 bb (ae (af 2) ak))) ak)))))))))
noncomputable def bf:List U->R (U×U):=iu 10 de
noncomputable abbrev BV:Gm:=⟨[true,false,false],true,λ_=>False⟩
noncomputable def nU:Ev->SR:=(aE (a9 2 (dw 2 0 bb (ae (af 1) ak)))
 (bg (bu (ae (gC (.str "end")) (ae (qD oG (af 2) d5 (dJ (aI di (zqc 1) (dw 2 0 ar (ae (aI cz (eW (ae (zqc 2) (ae (af 1) ak))) (dw 2 0 ar (ae (zqc 2) ak))) ak))))) ak)))))
noncomputable def fv:List U->R (U×U):=iu 3 nU
noncomputable abbrev jK:Gm:=⟨[true,false,false,false,false,false,false,true,false,false,false],true,λ_=>False⟩
noncomputable abbrev rk:Gm:=⟨[true,false,false,false,false,false,false,false,true],true,λ_=>False⟩
mutual
noncomputable def fB:Nat->Ev->SR
 |0=>λ_=>.stk
 |n+1=>let r__law_plan:=iu 9 (cv n)
  (aE (a9 4 (fg gw (ae (zqb 1 0) ak)))
 (aE (a9 5 (qD oG (dw 2 0 bb (ae (af 4) ak)) d5 (dJ (aI di (zqc 1) (aI mT (dw 2 0 ar (ae (zqc 2) ak)) (fg J0 (ae (aI Je (af 4) (zqc 1)) ak)))))))
 (aE (a9 6 (fg eD (ae (eh (d6 (af 1)) [none,some 5] (cA 0) bY (fR 2 cu (ae (af 0) (ae (af 1) ak)))) ak)))
 (aE (dR (gB (aI Je (fg gw (ae (af 6) ak)) (zqc 4))) (bg (dw 2 0 fv (ae (af 4) ak))) aR)
 (aE (a9 7 (eW ak))
 (aE (nv (d6 (af 6)) (cA 8)
 (aE (a9 9 (eh (d6 (af 1)) [none,some 8,some 5] (cA 0) (gB (aI (Po id) (fR 2 cu (ae (af 0) (ae (af 2) ak))) (af 1))) (af 0)))
 (iD (gM "list" 7 iK (ae (bu (ae (af 8) (ae (dw 4 0 r__law_plan (ae (af 9) (ae (aI tW (af 2) (zqc 1)) (ae (af 3) ak)))) ak))) ak)))))
 (aE (dR (gB (aI (cx id) (dw 2 0 ar (ae (zqc 6) ak)) (zqc 0))) (aE (a9 10 (fg d9 (ae (rP jK (d6 (af 5)) [none,some 0] (cA 0) bY (dw 2 1 ar (ae (zqc 10) ak))) ak)))
 (dR (gB (aI (xK not) (af 10) (af 6))) (a9 7 (fg uR (ae (KC 7 di (eW (ae (bu (ae (af 10) (ae (dw 2 0 fv (ae (af 4) ak)) ak))) ak))) ak))) aR)) aR)
 (bg (bu (ae (gC (.str "look")) (ae (af 5) (ae (fg d9 (ae (af 7) ak)) ak))))))))))))
noncomputable def cv:Nat->Ev->SR
 |0=>λ_=>.stk
 |n+1=>let r__law_look:=iu 11 (fB n)
  let r__law_plan:=iu 9 (cv n)
  (aE (a9 4 (fg gw (ae (zqb 1 0) ak)))
 (aE (a9 5 (dw 2 0 ar (ae (zqc 12) ak)))
 (aE (dR (JO (gB (aI JZ (af 2) (zqc 2))) (gB (aI (cx id) (af 5) (zqc 0)))) (bg (dw 2 0 fv (ae (af 4) ak))) aR)
 (aE (dR (JN (gB (aI (cx id) (af 5) (zqc 1))) (gB (af 3))) (bg (bu (ae (gC (.str "again")) ak))) aR)
 (aE (dR (gB (aI JZ (af 5) (zqc 4))) (aE (a9 6 (dw 2 0 bb (ae (af 4) ak)))
 (bg (bu (ae (gC (.str "lay")) (ae (af 6) (ae (dw 4 0 r__law_plan (ae (fg eD (ae (eh (d6 (af 1)) [none,some 6] (cA 0) bY (fR 2 cu (ae (af 0) (ae (af 1) ak)))) ak)) (ae (aI tW (af 2) (zqc 1)) (ae (af 3) ak)))) ak)))))) aR)
 (aE (dR (gB (aI JZ (af 5) (zqc 8))) (aE (a9 7 (dw 2 0 bf (ae (af 4) ak)))
 (aE (a9 8 (eW ak))
 (aE (nv (d6 (af 7)) (cA 6)
 (iD (gM "list" 8 fW (ae (eh (d6 (af 1)) [none,some 6] (cA 0) bY (fR 2 cu (ae (af 0) (ae (af 1) ak)))) ak))))
 (bg (bu (ae (gC (.str "mix")) (ae (af 7) (ae (dw 4 0 r__law_plan (ae (fg eD (ae (af 8) ak)) (ae (aI tW (af 2) (zqc 1)) (ae (af 3) ak)))) ak)))))))) aR)
 (bg (dw 4 0 r__law_look (ae (af 1) (ae (af 2) (ae (af 3) ak)))))))))))
end
noncomputable def jL (n:Nat):List U->R (U×U):=iu 11 (fB n)
noncomputable def bM (n:Nat):List U->R (U×U):=iu 9 (cv n)
noncomputable abbrev rn:Gm:=⟨[false],false,λ_=>False⟩
noncomputable def cT:Nat->Ev->SR
 |0=>λ_=>.stk
 |n+1=>let r__law_size:=dq .S 1 (cT n)
  (aE (dR (gB (aI (xK id) (zqb 0 0) (bu (ae (gC (.str "lay")) (ae (gC (.str "mix")) ak))))) (bg (aI di (zqc 1) (fR 1 r__law_size (ae (zqb 0 2) ak)))) aR)
 (aE (dR (gB (aI (cx id) (zqb 0 0) (gC (.str "look")))) (bg (aI di (zqc 1) (fg rg (ae (eh (d6 (zqb 0 2)) [none] (cA 0) bY (fR 1 r__law_size (ae (zqb 0 1) ak))) ak)))) aR)
 (bg (zqc 1))))
noncomputable def cG (n:Nat):List U->R U:=dq .S 1 (cT n)
noncomputable abbrev xP:Gm:=⟨[true,false,false,false,false],true,λ_=>False⟩
noncomputable def iN:Ev->SR:=(aE (a9 4 (dw 4 0 (bM 8) (ae (fg eD (ae (af 1) ak)) (ae (af 2) (ae (af 3) ak)))))
 (bg (NL (gB (aI JZ (fR 1 (cG 20) (ae (af 4) ak)) (zqc 61))) (af 4) (bu (ae (gC (.str "end")) (ae (bu (ae (zqc 0) ak)) ak))))))
noncomputable def cP:List U->R (U×U):=iu 5 iN
noncomputable abbrev lJ:Gm:=⟨[true,false,false,false],true,λ_=>False⟩
noncomputable def lL:Ev->SR:=(aE (a9 2 (aI di (zqc 1) (dw 2 0 ar (ae (zqc 5) ak))))
 (aE (a9 3 (rP lJ (fA (ae (aI di (zqc 1) (dw 2 0 ar (ae (af 1) ak))) ak)) [none,some 0,some 2] (cA 0) bY (dw 2 1 fu (ae (af 2) ak))))
 (bg (fg eD (ae (af 3) ak)))))
noncomputable def fD:List U->R (U×U):=iu 4 lL
noncomputable abbrev rq:Gm:=⟨[false,false],false,λ_=>False⟩
noncomputable def dU:Nat->Ev->SR
 |0=>λ_=>.stk
 |n+1=>let r__law_same:=dq .S 2 (dU n)
  (aE (dR (gB (BC "tuple" "list" (af 1))) (aE (dR (JO (gB (aI (cx not) (qE "tuple" (af 0)) (qE "tuple" (af 1)))) (gB (aI (cx not) (qE "list" (af 0)) (qE "list" (af 1))))) (bg (gC (.bl false))) aR)
 (aE (dR (gB (aI (cx not) (fg gw (ae (af 0) ak)) (fg gw (ae (af 1) ak)))) (bg (gC (.bl false))) aR)
 (bg (fg zc (ae (eh (En (ae (af 0) (ae (af 1) ak))) [none,none] (kL 2 (dk (cA 0) (dk (cA 1) kK))) bY (fR 2 r__law_same (ae (af 0) (ae (af 1) ak)))) ak))))) aR)
 (bg (NJ (aI (cx id) (af 0) (af 1)) (aI (cx id) (qE "bool" (af 0)) (qE "bool" (af 1))))))
noncomputable def bT (n:Nat):List U->R U:=dq .S 2 (dU n)
noncomputable abbrev jM:Gm:=⟨[true,false,false,false],true,λ_=>False⟩
noncomputable def cU:Nat->Ev->SR
 |0=>λ_=>.stk
 |n+1=>let r__law_full:=iu 4 (cU n)
  (aE (dR (gB (aI (cx id) (zqb 1 0) (gC (.str "again")))) (bg (af 1)) aR)
 (aE (dR (gB (aI (cx id) (zqb 1 0) (gC (.str "end")))) (aE (a9 3 (eh (fA (ae (af 2) ak)) [none,some 1] (cA 0) (gB (aI (xK not) (af 0) (zqb 1 1))) (af 0)))
 (bg (bu (ae (gC (.str "end")) (ae (aI di (zqb 1 1) (fg d9 (ae (af 3) ak))) ak))))) aR)
 (aE (dR (gB (aI (cx id) (zqb 1 0) (gC (.str "look")))) (bg (bu (ae (gC (.str "look")) (ae (zqb 1 1) (ae (fg d9 (ae (rP jM (d6 (zqb 1 2)) [none,none,some 0,some 2] (kL 2 (dk (cA 0) (dk (cA 1) kK))) bY (bu (ae (af 0) (ae (dw 3 2 r__law_full (ae (af 1) (ae (af 3) ak))) ak)))) ak)) ak))))) aR)
 (bg (bu (ae (zqb 1 0) (ae (zqb 1 1) (ae (dw 3 0 r__law_full (ae (zqb 1 2) (ae (af 2) ak))) ak))))))))
noncomputable def cH (n:Nat):List U->R (U×U):=iu 4 (cU n)
noncomputable abbrev rz:Gm:=⟨[true,false,false,true,false],true,λ_=>False⟩
noncomputable def cI:Nat->Ev->SR
 |0=>λ_=>.stk
 |n+1=>let r__law_less:=iu 5 (cI n)
  (aE (dR (JO (gB (aI (cx id) (zqb 1 0) (gC (.str "again")))) (gB (aI (cx id) (af 2) (zqc 1)))) (bg (af 1)) aR)
 (aE (dR (gB (aI (cx id) (zqb 1 0) (gC (.str "end")))) (bg (bu (ae (gC (.str "end")) (ae (qD oG (zqb 1 1) d5 (dJ (aI di (zqc 1) (dw 2 0 ar (ae (aI tW (af 2) (zqc 1)) ak))))) ak)))) aR)
 (aE (dR (gB (aI (cx id) (zqb 1 0) (gC (.str "look")))) (aE (a9 3 (fg y8 (ae (zqb 1 2) ak)))
 (aE (a9 4 (dw 2 0 ar (ae (fg gw (ae (af 3) ak)) ak)))
 (aE (y3 3 (bu (ae (aI cz (aI cz (af 3) (af 4)) (zqc 0)) (ae (dw 3 0 r__law_less (ae (aI cz (aI cz (af 3) (af 4)) (zqc 1)) (ae (af 2) ak))) ak))) (af 4))
 (bg (bu (ae (gC (.str "look")) (ae (zqb 1 1) (ae (fg d9 (ae (af 3) ak)) ak)))))))) aR)
 (bg (bu (ae (zqb 1 0) (ae (zqb 1 1) (ae (dw 3 0 r__law_less (ae (zqb 1 2) (ae (af 2) ak))) ak))))))))
noncomputable def cw (n:Nat):List U->R (U×U):=iu 5 (cI n)
noncomputable abbrev Af:Gm:=⟨[true,false,false,false,false],true,λ_=>False⟩
noncomputable def lM:Ev->SR:=(aE (a9 3 (bu (ae (gC (.str "end")) (ae (dw 2 0 bb (ae (af 1) ak)) ak))))
 (aE (nv (fA (ae (af 2) ak)) (cA 4)
 (a9 3 (bu (ae (gC (.str "lay")) (ae (dw 2 0 bb (ae (af 1) ak)) (ae (af 3) ak))))))
 (bg (af 3))))
noncomputable def cV:List U->R (U×U):=iu 5 lM
noncomputable abbrev kC:Gm:=⟨[true,false,false,false,false],true,λ_=>False⟩
noncomputable def f7:Ev->SR:=(aE (a9 3 (dw 2 0 ar (ae (zqc 4) ak)))
 (aE (dR (gB (aI (cx id) (af 3) (zqc 0))) (bg (dw 3 0 cV (ae (af 2) (ae (dw 2 0 ar (ae (zqc 10) ak)) ak)))) aR)
 (aE (dR (gB (aI (cx id) (af 3) (zqc 1))) (aE (a9 4 (rP kC (fA (ae (aI di (zqc 1) (dw 2 0 ar (ae (zqc 10) ak))) ak)) [none,some 0,some 2] (cA 0) bY (bu (ae (bu (ae (af 0) ak)) (ae (dw 3 1 cV (ae (af 2) (ae (dw 2 1 ar (ae (zqc 4) ak)) ak))) ak)))))
 (bg (bu (ae (gC (.str "look")) (ae (bu (ae (dw 2 0 ar (ae (af 2) ak)) ak)) (ae (fg d9 (ae (af 4) ak)) ak)))))) aR)
 (bg (dw 3 0 (cH 8) (ae (dw 4 0 cP (ae (af 1) (ae (zqc 4) (ae (aI (cx id) (dw 2 0 ar (ae (zqc 3) ak)) (zqc 0)) ak)))) (ae (af 2) ak)))))))
noncomputable def dC:List U->R (U×U):=iu 5 f7
noncomputable abbrev uZ:Gm:=⟨[false,false,false,false,false,false],false,λ_=>False⟩
noncomputable def dH:Nat->Ev->SR
 |0=>λ_=>.stk
 |n+1=>let r__law_put:=dq .S 6 (dH n)
  (aE (dR (gB (aI (cx id) (zqb 0 0) (gC (.str "again")))) (bg (af 0)) aR)
 (aE (dR (gB (aI (cx id) (zqb 0 0) (gC (.str "end")))) (bg (NL (gB (aI JZ (fg gw (ae (zqb 0 1) ak)) (af 1))) (gC .non) (bu (ae (gC (.str "lay")) (ae (zqb 0 1) (ae (af 2) ak)))))) aR)
 (aE (dR (gB (aI (cx id) (zqb 0 0) (gC (.str "look")))) (aE (a9 3 (eh (d6 (zqb 0 2)) [none,none,some 1,some 2] (kL 2 (dk (cA 0) (dk (cA 1) kK))) bY (fR 3 r__law_put (ae (af 1) (ae (af 2) (ae (af 3) ak))))))
 (aE (a9 4 (eh (d6 (zqb 0 2)) [none] (cA 0) bY (zqb 0 0)))
 (bg (NL (gB (aI (xK id) (gC .non) (af 3))) (gC .non) (bu (ae (gC (.str "look")) (ae (zqb 0 1) (ae (Aa (ae (af 4) (ae (af 3) ak))) ak)))))))) aR)
 (aE (a9 5 (fR 3 r__law_put (ae (zqb 0 2) (ae (af 1) (ae (af 2) ak)))))
 (bg (NL (gB (aI (FW id) (af 5) (gC .non))) (gC .non) (bu (ae (zqb 0 0) (ae (zqb 0 1) (ae (af 5) ak))))))))))
noncomputable def df (n:Nat):List U->R U:=dq .S 6 (dH n)
noncomputable abbrev mY:Gm:=⟨[false,false,false],false,λ_=>False⟩
noncomputable def eZ:Nat->Ev->SR
 |0=>λ_=>.stk
 |n+1=>let r__law_extent:=dq .S 3 (eZ n)
  (aE (dR (gB (aI (xK id) (zqb 0 0) (bu (ae (gC (.str "again")) (ae (gC (.str "end")) ak))))) (bg (bu (ae (zqc 1) (ae (zqc 1) ak)))) aR)
 (aE (a9 1 (eW (ae (zqb 0 2) ak)))
 (aE (dR (gB (aI (cx id) (zqb 0 0) (gC (.str "look")))) (a9 1 (eh (d6 (zqb 0 2)) [none] (cA 0) bY (zqb 0 1))) aR)
 (aE (a9 2 (eh (d6 (af 1)) [none] (cA 0) bY (fR 1 r__law_extent (ae (af 0) ak))))
 (bg (bu (ae (aI di (zqc 1) (fg rg (ae (eh (d6 (af 2)) [none] (cA 0) bY (zqb 0 0)) ak))) (ae (aI di (zqc 1) (fg wK (ae (eh (d6 (af 2)) [none] (cA 0) bY (zqb 0 1)) ak))) ak))))))))
noncomputable def bF (n:Nat):List U->R U:=dq .S 3 (eZ n)
noncomputable abbrev BW:Gm:=⟨[false,false,false,false,false,false],false,λ_=>False⟩
noncomputable def gH:Ev->SR:=(aE (a9 3 (fR 3 (df 20) (ae (af 0) (ae (af 1) (ae (af 2) ak)))))
 (aE (dR (gB (aI (FW id) (af 3) (gC .non))) (bg (gC (.str "plan"))) aR)
 (aE (NQ (kL 2 (dk (cA 4) (dk (cA 5) kK))) (fR 1 (bF 30) (ae (af 3) ak)))
 (bg (NL (JO (gB (aI Je (af 4) (zqc 60))) (gB (aI Je (af 5) (zqc 12)))) (gC (.str "many")) (af 3))))))
noncomputable def eE:List U->R U:=dq .S 6 gH
noncomputable def bN:List U->R U:=λus=>match us with
 | [m,p,q]=>match aH [m,p] with
  | .ok (.bl false)=>.ok (.str "plan")
  | .ok (.bl true)=>(match a8 20 [p,q] with
   | .ok j=>(match a7 [j] with
    | .ok (.bl true)=>.ok (.str "many")
    | .ok (.bl false)=>.ok j
    |_=>.stk)
   |_=>.stk)
  |_=>.stk
 |_=>.stk
noncomputable abbrev Q1:Gm:=⟨[false,false,true,false,false,false,false],false,λ_=>False⟩
noncomputable def HM:Ev->SR:=(aE (nv (fA (ae (fg y9 (ae (zqc 1) (ae (fg vZ (ae (fg gw (ae (af 0) ak)) (ae (zqc 3) ak))) ak))) ak)) (cA 1)
 (aE (a9 2 (fR 2 dY (ae (af 0) (ae (af 1) ak))))
 (aE (a9 3 (dw 2 2 fD (ae (zqc 3) ak)))
 (aE (a9 4 (fg gw (ae (zqb 3 0) ak)))
 (aE (a9 5 (dw 3 2 dC (ae (af 3) (ae (af 4) ak))))
 (aE (dR (gB (aI (cx id) (dw 2 2 ar (ae (zqc 4) ak)) (zqc 0))) (a9 5 (dw 3 2 (cw 20) (ae (af 5) (ae (af 4) ak)))) aR)
 (aE (a9 6 (dw 4 2 cP (ae (af 3) (ae (zqc 4) (ae (aI (cx id) (dw 2 2 ar (ae (zqc 3) ak)) (zqc 0)) ak)))))
 (aE (dR (gB (aI (cx id) (dw 2 2 ar (ae (zqc 3) ak)) (zqc 0))) (a9 6 (dw 3 2 cV (ae (af 4) (ae (dw 2 2 ar (ae (zqc 10) ak)) ak)))) aR)
 (dR (vv (gB (fR 2 (bT 70) (ae (fR 3 bN (ae (af 4) (ae (af 5) (ae (af 6) ak)))) (ae (fR 3 eE (ae (af 5) (ae (af 4) (ae (af 6) ak)))) ak))))) (bg (gC (.bl false))) aR)))))))))
 (bg (gC (.bl true))))
noncomputable def Ag:List U->R U:=dq .S 7 HM
end Hc
end
namespace Hc
open L2
noncomputable abbrev dZ:ab7:=top 12
noncomputable abbrev iZ:ab7:=top 13
noncomputable abbrev jg:ab7:=top 14
noncomputable abbrev fE:ab7:=top 16
noncomputable abbrev cN:ab7:=top 17
noncomputable abbrev fF:ab7:=top 18
noncomputable abbrev dP:ab7:=top 19
noncomputable abbrev gI:ab7:=top 21
noncomputable abbrev i0:ab7:=top 22
noncomputable abbrev kh:ab7:=top 23
noncomputable abbrev jN:ab7:=top 24
noncomputable abbrev gJ:ab7:=top 25
noncomputable abbrev jh:ab7:=top 26
noncomputable abbrev cW:ab7:=top 27
noncomputable abbrev my:ab7:=top 28
noncomputable abbrev e_:ab7:=top 29
noncomputable abbrev f9:ab7:=top 30
noncomputable abbrev g6:ab7:=top 31
noncomputable abbrev i4:ab7:=top 32
noncomputable abbrev ji:ab7:=top 33
noncomputable abbrev jj:ab7:=top 34
noncomputable abbrev g7:ab7:=top 35
noncomputable abbrev gb:ab7:=top 36
noncomputable abbrev jk:ab7:=top 37
noncomputable abbrev ki:ab7:=top 38
noncomputable abbrev gK:ab7:=top 39
noncomputable abbrev iO:ab7:=top 40
noncomputable abbrev dg:ab7:=top 41
noncomputable abbrev mB:ab7:=top 42
noncomputable abbrev kj:ab7:=top 43
noncomputable abbrev Ah:ab7:=top 44
abbrev Bd (x:Str)(ps:List Str)(s:ab7):Prop:=∀(kV kX pm:XY) (an:Option Ye) (bQ ct:XY) (us:List XY),us.length=ps.length->bindArgs (Zu x x (ff s) (cJ s) (aq s) .none kV kX pm an bQ ct) ⟨us,[]⟩=pure (ps.zip us)
def nV {P:List Str}{sc:acY}(a:sc.kind=.function:=by rfl)(b:sc.isCoroutine=false:=by rfl)(c:sc.isGenerator=false:=by rfl)(d:N.Nodup:=by decide+kernel)(e:N.take P.length=P:=by rfl)(f:∀x∈P,sc.names.lookup x=some .local\/sc.names.lookup x=some .cell:=by decide+kernel)(g:∀y∈sc.names,y.2≠.free:=by decide+kernel):aW N P sc:=⟨a,b,c,d,e,f,g⟩
def rm {A:YG}(r:eV k A)(h:j<=k:=by first|decide|lia):eV j A:=r.mono h
def iA:aW ["plans","inner","plan"] ["plans"] (aq dZ):=nV
theorem rT:Bd "plans_within" ["plans"] dZ:=λ_ _ _ _ _ _ us hl=>match us,hl with|[_],_=>rfl
def iP:aW ["plan","levels","level"] ["plan"] (aq iZ):=nV
theorem xQ:Bd "levels_of" ["plan"] iZ:=λ_ _ _ _ _ _ us hl=>match us,hl with|[_],_=>rfl
def Ai:aW ["plan"] ["plan"] (aq jg):=nV
theorem Aj:Bd "plans_in" ["plan"] jg:=λ_ _ _ _ _ _ us hl=>match us,hl with|[_],_=>rfl
def o3:aW ["plan","more"] ["plan","more"] (aq fE):=nV
theorem o5:Bd "with_more" ["plan","more"] fE:=λ_ _ _ _ _ _ us hl=>match us,hl with|[_,_],_=>rfl
def iF:aW ["many","plan","level"] ["many","plan"] (aq cN):=nV
theorem mM:Bd "tells_all_places" ["many","plan"] cN:=λ_ _ _ _ _ _ us hl=>match us,hl with|[_,_],_=>rfl
def rV:aW ["plan"] ["plan"] (aq fF):=nV
theorem rW:Bd "is_too_great" ["plan"] fF:=λ_ _ _ _ _ _ us hl=>match us,hl with|[_],_=>rfl
def g8:aW ["many","plan","more","joined"] ["many","plan","more"] (aq dP):=nV
theorem lP:Bd "followed" ["many","plan","more"] dP:=λ_ _ _ _ _ _ us hl=>match us,hl with|[_,_,_],_=>rfl
def rX:aW ["script","k"] ["script","k"] (aq gI):=nV
theorem rY:Bd "_law_cell_at" ["script","k"] gI:=λ_ _ _ _ _ _ us hl=>match us,hl with|[_,_],_=>rfl
def mZ:aW ["script","k","cell"] ["script","k"] (aq i0):=nV
theorem vB:Bd "_law_state" ["script","k"] i0:=λ_ _ _ _ _ _ us hl=>match us,hl with|[_,_],_=>rfl
def iQ:aW ["state","many","found","mixed"] ["state","many"] (aq kh):=nV
theorem xR:Bd "_law_take" ["state","many"] kh:=λ_ _ _ _ _ _ us hl=>match us,hl with|[_,_],_=>rfl
def rA:aW ["state","many","way"] ["state","many"] (aq jN):=nV
theorem Ak:Bd "_law_row" ["state","many"] jN:=λ_ _ _ _ _ _ us hl=>match us,hl with|[_,_],_=>rfl
def m9:aW ["state","many","left"] ["state","many"] (aq gJ):=nV
theorem vC:Bd "_law_order" ["state","many"] gJ:=λ_ _ _ _ _ _ us hl=>match us,hl with|[_,_],_=>rfl
def xS:aW ["row","order"] ["row","order"] (aq jh):=nV
theorem xT:Bd "_law_laid" ["row","order"] jh:=λ_ _ _ _ _ _ us hl=>match us,hl with|[_,_],_=>rfl
def bE:aW ["state","many","stays","way","order","half","some","size","k","longer"] ["state","many"] (aq cW):=nV
theorem rZ:Bd "_law_shuffle" ["state","many"] cW:=λ_ _ _ _ _ _ us hl=>match us,hl with|[_,_],_=>rfl
def rB:aW ["state","many","order"] ["state","many"] (aq my):=nV
theorem Al:Bd "_law_end" ["state","many"] my:=λ_ _ _ _ _ _ us hl=>match us,hl with|[_,_],_=>rfl
def cC:aW ["state","rows","deep","again","many","places","seen","ways","some","left","more"] ["state","rows","deep","again"] (aq e_):=nV
theorem o7:Bd "_law_look" ["state","rows","deep","again"] e_:=λ_ _ _ _ _ _ us hl=>match us,hl with|[_,_,_,_],_=>rfl
def dD:aW ["state","rows","deep","again","many","way","order","shuffle","fresh"] ["state","rows","deep","again"] (aq f9):=nV
theorem o_:Bd "_law_plan" ["state","rows","deep","again"] f9:=λ_ _ _ _ _ _ us hl=>match us,hl with|[_,_,_,_],_=>rfl
def pb:aW ["plan"] ["plan"] (aq g6):=nV
theorem pd:Bd "_law_size" ["plan"] g6:=λ_ _ _ _ _ _ us hl=>match us,hl with|[_],_=>rfl
def m_:aW ["state","rows","deep","again","plan"] ["state","rows","deep","again"] (aq i4):=nV
theorem vD:Bd "_law_drawn" ["state","rows","deep","again"] i4:=λ_ _ _ _ _ _ us hl=>match us,hl with|[_,_,_,_],_=>rfl
def eN:aW ["e","marks"] ["e"] (aq ji):=nV
theorem pf:Bd "_law_mark" ["e"] ji:=λ_ _ _ _ _ _ us hl=>match us,hl with|[_],_=>rfl
def kD:aW ["state","most","many","rows"] ["state","most"] (aq jj):=nV
theorem xU:Bd "_law_rows" ["state","most"] jj:=λ_ _ _ _ _ _ us hl=>match us,hl with|[_,_],_=>rfl
def ph:aW ["found","due"] ["found","due"] (aq g7):=nV
theorem pj:Bd "_law_same" ["found","due"] g7:=λ_ _ _ _ _ _ us hl=>match us,hl with|[_,_],_=>rfl
def kE:aW ["state","plan","many","left"] ["state","plan","many"] (aq gb):=nV
theorem pq:Bd "_law_full" ["state","plan","many"] gb:=λ_ _ _ _ _ _ us hl=>match us,hl with|[_,_,_],_=>rfl
def iR:aW ["state","plan","many","ways","at"] ["state","plan","many"] (aq jk):=nV
theorem pz:Bd "_law_less" ["state","plan","many"] jk:=λ_ _ _ _ _ _ us hl=>match us,hl with|[_,_,_],_=>rfl
def iS:aW ["state","many","deep","plan","k"] ["state","many","deep"] (aq ki):=nV
theorem xV:Bd "_law_lays" ["state","many","deep"] ki:=λ_ _ _ _ _ _ us hl=>match us,hl with|[_,_,_],_=>rfl
def jX:aW ["state","rows","many","way","ways"] ["state","rows","many"] (aq gK):=nV
theorem vE:Bd "_law_first" ["state","rows","many"] gK:=λ_ _ _ _ _ _ us hl=>match us,hl with|[_,_,_],_=>rfl
def g9:aW ["plan","many","more","parts","seen","part"] ["plan","many","more"] (aq iO):=nV
theorem rC:Bd "_law_put" ["plan","many","more"] iO:=λ_ _ _ _ _ _ us hl=>match us,hl with|[_,_,_],_=>rfl
def eF:aW ["plan","parts","found"] ["plan"] (aq dg):=nV
theorem lQ:Bd "_law_extent" ["plan"] dg:=λ_ _ _ _ _ _ us hl=>match us,hl with|[_],_=>rfl
def jO:aW ["plan","many","more","found","count","deep"] ["plan","many","more"] (aq mB):=nV
theorem Am:Bd "_law_due" ["plan","many","more"] mB:=λ_ _ _ _ _ _ us hl=>match us,hl with|[_,_,_],_=>rfl
def kF:aW ["many","plan","more","e"] ["many","plan","more"] (aq kj):=nV
theorem xW:Bd "_law_told" ["many","plan","more"] kj:=λ_ _ _ _ _ _ us hl=>match us,hl with|[_,_,_],_=>rfl
def kG:aW ["script","k","state","rows","many","plan","more"] ["script"] (aq Ah):=nV
structure mC (mg:Str->Option XY):Prop where
 znq:mg "all"=none
 zgq:mg "bool"=none
 zpq:mg "int"=none
 zbq:mg "isinstance"=none
 zjq:mg "len"=none
 zhq:mg "list"=none
 zkq:mg "max"=none
 ziq:mg "min"=none
 zeq:mg "range"=none
 zoq:mg "set"=none
 zdq:mg "sorted"=none
 zmq:mg "sum"=none
 zfq:mg "tuple"=none
 zlq:mg "zip"=none
 zcq:∃tk,mg "MOST_PLANS"=some (.int 60 tk)
 zaq:∃tk,mg "MOST_WITHIN"=some (.int 12 tk)
end Hc
namespace Hc
open L2
noncomputable abbrev MS:List (Str×Bool):=[("NoPlan",false),("NoWay",false),("NoEnd",false),("NoFormula",false),("TooMany",true),("NoName",false),("BadNote",false)]
noncomputable abbrev MP:List (Str×Bool):=[("NoPlan",true),("NoWay",false),("NoEnd",false),("NoFormula",false),("TooMany",false),("NoName",false),("BadNote",false)]
section
variable {w:Y6}{base:Z9}
theorem Q2 {k:Bool}{A B:Prop}(hk:k=false)(h:B):if k=true then A else B:=by
 subst hk;exact h
theorem KI (T:mC mg)(XT:vz K mg C "TooMany" MS)(d:Df K mg "_law_mark" ji):∃(f:Ye) (fd:aa9),mg "_law_mark"=some (.ref f)/\Zn K (.ref f)=true/\j4 K fd ["e"] []/\CI P w K mg base vR 1 f fd ["e"] (Gw C "many"):=by
 obtain⟨f,fd,m,F⟩:=d.ex;refine⟨f,fd,m,F.kp,F.binds pf,?_⟩;obtain⟨oc,od,kV,kX,pm,an,bQ,ct,osl,rfl,lk,kI⟩:=F.ex;have Z:=XT.ec;have m1:=XT.marks ("NoPlan",false) (by simp);have m2:=XT.marks ("NoWay",false) (by simp);have m3:=XT.marks ("NoEnd",false) (by simp);have m4:=XT.marks ("NoFormula",false) (by simp);have m5:=XT.marks ("TooMany",true) (by simp);have m6:=XT.marks ("NoName",false) (by simp);have m7:=XT.marks ("BadNote",false) (by simp);refine Gs (N:=["e","marks"]) lk kI eN (λvs H Q E ⟨ea,e,_⟩=>by rw[e];rfl) λA outer s H vs Q E hr ⟨ea,e,hx,hq⟩=>?_;subst e;refine⟨_,fT (yG (A7 (A6 (zu (i:=0) (C:=C) (b:=true) Z T.zbq XT.zve XT.ve))) (fU (i7 dG)) oj)
  (fT (nk (i:=1) eN.nd rfl (Or.inl rfl) (nq (aG (dB (i:=0) (C:=C) Z T.zbq m1) (aG (dB (i:=0) (C:=C) Z T.zbq m2) (aG (dB (i:=0) (C:=C) Z T.zbq m3) (aG (dB (i:=0) (C:=C) Z T.zbq m4) cM))))))
  (fT (nk (i:=1) eN.nd rfl (Or.inl rfl) (Cc Fq (pv 1) (nq (aG (dB (i:=0) (C:=C) Z T.zbq m5) (aG (dB (i:=0) (C:=C) Z T.zbq m6) (aG (dB (i:=0) (C:=C) Z T.zbq m7) cM))))))
  (fT (yG (w6 yI (yJ YV PySem.F.slot_list_count PySem.F.type_list_count wm (pv 1) (aG yF cM)) A5 (aM _)) (fU (i7 dG)) oj)
  (fU (i7 (Fj w_ (nq (aG dG (aG dG (aG dG (aG dG (aG dG (aG dG (aG dG cM)))))))) (yJ YV PySem.F.slot_list_index PySem.F.type_list_index wo (pv 1) (aG yF cM)) (λ_ _=>rfl))))))),?_⟩
 refine⟨ea,rfl,hx,true,rfl,L2.iteF ?_⟩;refine⟨ea,rfl,hx,ea,rfl,hx,ea,rfl,hx,ea,rfl,hx,(by decide:4<=XU),λp1 n1=>?_⟩;have s1:aX H (dF H p1 (.lst [.bl false,.bl false,.bl false,.bl false])):=aX.updN (λ_ _ e=>e) n1;have AZ:=s1 _ _ hx;refine⟨.ref p1,rfl,ea,rfl,AZ,ea,rfl,AZ,ea,rfl,AZ,(by decide:3<=XU),λp2 n2=>?_⟩;have s2:=s1.updN (o:=.lst [.bl true,.bl false,.bl false]) n2;have UG:dF (dF H p1 (.lst [.bl false,.bl false,.bl false,.bl false])) p2 (.lst [.bl true,.bl false,.bl false]) p1=some (.lst [.bl false,.bl false,.bl false,.bl false]):=by
  rw[aS (bG (aQ) n2)];exact aQ
 refine⟨p1,p2,[.bl false,.bl false,.bl false,.bl false],[.bl true,.bl false,.bl false],rfl,rfl,UG,aQ,(by decide:7<=XU),λp3 n3=>?_⟩;have s3:=s2.updN (o:=.lst [.bl false,.bl false,.bl false,.bl false,.bl true,.bl false,.bl false]) n3;refine⟨.ref p3,rfl,.inl ⟨rfl,_,.inl (.inl aQ)⟩,p3,_,.bl true,rfl,rfl,aQ,rfl,rfl,?_⟩;refine⟨rfl,_,rfl,Q2 (by decide+kernel) ?_⟩;refine⟨(by decide:7<=XU),λp4 n4=>?_⟩;have s4:=s3.updN (o:=.lst [.str "plan",.str "way",.str "end",.str "formula",.str "many",.str "name",.str "note"]) n4;have h3:∀(H0:Hp) (o o':HO),(dF H0 p3 o) p4=none->dF (dF H0 p3 o) p4 o' p3=some o:=λH0 o o' n=>(aS (bG (aQ) n)).trans aQ;refine⟨.ref p3,rfl,.inl ⟨rfl,_,.inl (.inl (h3 _ _ _ n4))⟩,p3,_,.bl true,4,rfl,rfl,h3 _ _ _ n4,rfl,rfl,(by decide),rfl,?_,?_⟩
 ·intro m hm
  match m,hm with
  |0,_=>rfl
  |1,_=>rfl
  |2,_=>rfl
  |3,_=>rfl
 ·exact⟨p4,_,4,.str "many",rfl,rfl,.inl (.inl aQ),rfl,hq _ s4⟩
theorem HN (T:mC mg)(XT:vz K mg C "NoPlan" MP)(d:Df K mg "_law_mark" ji):∃(f:Ye) (fd:aa9),mg "_law_mark"=some (.ref f)/\Zn K (.ref f)=true/\j4 K fd ["e"] []/\CI P w K mg base vR 1 f fd ["e"] (Gw C "plan"):=by
 obtain⟨f,fd,m,F⟩:=d.ex;refine⟨f,fd,m,F.kp,F.binds pf,?_⟩;obtain⟨oc,od,kV,kX,pm,an,bQ,ct,osl,rfl,lk,kI⟩:=F.ex;have Z:=XT.ec;have m1:=XT.marks ("NoPlan",true) (by simp);have m2:=XT.marks ("NoWay",false) (by simp);have m3:=XT.marks ("NoEnd",false) (by simp);have m4:=XT.marks ("NoFormula",false) (by simp);have m5:=XT.marks ("TooMany",false) (by simp);have m6:=XT.marks ("NoName",false) (by simp);have m7:=XT.marks ("BadNote",false) (by simp);refine Gs (N:=["e","marks"]) lk kI eN (λvs H Q E ⟨ea,e,_⟩=>by rw[e];rfl) λA outer s H vs Q E hr ⟨ea,e,hx,hq⟩=>?_;subst e;refine⟨_,fT (yG (A7 (A6 (zu (i:=0) (C:=C) (b:=true) Z T.zbq XT.zve XT.ve))) (fU (i7 dG)) oj)
  (fT (nk (i:=1) eN.nd rfl (Or.inl rfl) (nq (aG (dB (i:=0) (C:=C) Z T.zbq m1) (aG (dB (i:=0) (C:=C) Z T.zbq m2) (aG (dB (i:=0) (C:=C) Z T.zbq m3) (aG (dB (i:=0) (C:=C) Z T.zbq m4) cM))))))
  (fT (nk (i:=1) eN.nd rfl (Or.inl rfl) (Cc Fq (pv 1) (nq (aG (dB (i:=0) (C:=C) Z T.zbq m5) (aG (dB (i:=0) (C:=C) Z T.zbq m6) (aG (dB (i:=0) (C:=C) Z T.zbq m7) cM))))))
  (fT (yG (w6 yI (yJ YV PySem.F.slot_list_count PySem.F.type_list_count wm (pv 1) (aG yF cM)) A5 (aM _)) (fU (i7 dG)) oj)
  (fU (i7 (Fj w_ (nq (aG dG (aG dG (aG dG (aG dG (aG dG (aG dG (aG dG cM)))))))) (yJ YV PySem.F.slot_list_index PySem.F.type_list_index wo (pv 1) (aG yF cM)) (λ_ _=>rfl))))))),?_⟩
 refine⟨ea,rfl,hx,true,rfl,L2.iteF ?_⟩;refine⟨ea,rfl,hx,ea,rfl,hx,ea,rfl,hx,ea,rfl,hx,(by decide:4<=XU),λp1 n1=>?_⟩;have s1:aX H (dF H p1 (.lst [.bl true,.bl false,.bl false,.bl false])):=aX.updN (λ_ _ e=>e) n1;have AZ:=s1 _ _ hx;refine⟨.ref p1,rfl,ea,rfl,AZ,ea,rfl,AZ,ea,rfl,AZ,(by decide:3<=XU),λp2 n2=>?_⟩;have s2:=s1.updN (o:=.lst [.bl false,.bl false,.bl false]) n2;have UG:dF (dF H p1 (.lst [.bl true,.bl false,.bl false,.bl false])) p2 (.lst [.bl false,.bl false,.bl false]) p1=some (.lst [.bl true,.bl false,.bl false,.bl false]):=by
  rw[aS (bG (aQ) n2)];exact aQ
 refine⟨p1,p2,[.bl true,.bl false,.bl false,.bl false],[.bl false,.bl false,.bl false],rfl,rfl,UG,aQ,(by decide:7<=XU),λp3 n3=>?_⟩;have s3:=s2.updN (o:=.lst [.bl true,.bl false,.bl false,.bl false,.bl false,.bl false,.bl false]) n3;refine⟨.ref p3,rfl,.inl ⟨rfl,_,.inl (.inl aQ)⟩,p3,_,.bl true,rfl,rfl,aQ,rfl,rfl,?_⟩;refine⟨rfl,_,rfl,Q2 (by decide+kernel) ?_⟩;refine⟨(by decide:7<=XU),λp4 n4=>?_⟩;have s4:=s3.updN (o:=.lst [.str "plan",.str "way",.str "end",.str "formula",.str "many",.str "name",.str "note"]) n4;have h3:∀(H0:Hp) (o o':HO),(dF H0 p3 o) p4=none->dF (dF H0 p3 o) p4 o' p3=some o:=λH0 o o' n=>(aS (bG (aQ) n)).trans aQ;refine⟨.ref p3,rfl,.inl ⟨rfl,_,.inl (.inl (h3 _ _ _ n4))⟩,p3,_,.bl true,0,rfl,rfl,h3 _ _ _ n4,rfl,rfl,(by decide),rfl,?_,?_⟩
 ·intro m hm;exact absurd hm (acS _)
 ·exact⟨p4,_,0,.str "plan",rfl,rfl,.inl (.inl aQ),rfl,hq _ s4⟩
def gW.mark {A:YG}(e:Option XY)(r:eV k A):gW k (A.mark e):=⟨r.dp,r.un⟩
theorem gW.mono1 {A:YG}(r:gW k A)(h:1<=k):gW 1 A:=⟨by have:=r.dp;lia,by have:=r.un;lia⟩
noncomputable abbrev NF:List Str:=["many","plan","more","joined"]
noncomputable def Jf:Ev->R (Bool×Ev):=vv (gB (fR 2 aH (ae (af 0) (ae (af 1) ak))))
noncomputable def AX:Ev->R (Bool×Ev):=gB (fR 1 a7 (ae (af 3) ak))
noncomputable def sJ:Ev->SR:=a9 3 (fR 2 (a8 20) (ae (af 1) (ae (af 2) ak)))
noncomputable def OB:Ev->SR:=aE (dR Jf (λ_=>.exc "NoPlan" .non) aR) (λ_=>.stk)
noncomputable def OC:Ev->SR:=aE (dR Jf (λ_=>.stk) aR) (aE sJ (aE (dR AX (λ_=>.exc "TooMany" .non) aR) (λ_=>.stk)))
theorem OD (T:mC mg)(XP:vz K mg C "NoPlan" MP)(PN:Fn P w K mg base "tells_all_places" 3 ["many","plan"] (jG K 2 aH .S))(d:Df K mg "followed" dP) :
  ∃(f:Ye) (fd:aa9),mg "followed"=some (.ref f)/\Zn K (.ref f)=true/\j4 K fd ["many","plan","more"] []/\j3 P w K mg base (CH P w C) 22 f fd ["many","plan","more"] (Tr K 3 C λus=>∃c u,dq .S 4 OB us=.exc c u):=by
 refine Df.fnX (N:=NF) (ps:=["many","plan","more"]) (st:=dP) (k:=21) nQ .S OB d g8 lP rfl (by decide) ?_;intro f bQ A outer s0 H E hr;exact aj (bI (tK (jT (aY PN (hr.mono (by first|decide|lia)) (aa (ao 0) (aa (ao 1) ah))))) (au (Ab XP.cls XP.exc hr.hd (aG dG cM) (λσ H Q h=>h _ _ (by decide) (λ_ _ e=>e)) (λ_ z=>z))) aK) fi
theorem OE (T:mC mg)(XT:vz K mg C "TooMany" MS)(PN:Fn P w K mg base "tells_all_places" 3 ["many","plan"] (jG K 2 aH .S))(UH:Fn P w K mg base "with_more" 21 ["plan","more"] (jG K 2 (a8 20) .S))(UI:Fn P w K mg base "is_too_great" 4 ["plan"] (jG K 1 a7 .S))(d:Df K mg "followed" dP) :
  ∃(f:Ye) (fd:aa9),mg "followed"=some (.ref f)/\Zn K (.ref f)=true/\j4 K fd ["many","plan","more"] []/\j3 P w K mg base (CH P w C) 22 f fd ["many","plan","more"] (Tr K 3 C λus=>∃c u,dq .S 4 OC us=.exc c u):=by
 refine Df.fnX (N:=NF) (ps:=["many","plan","more"]) (st:=dP) (k:=21) nQ .S OC d g8 lP rfl (by decide) ?_;intro f bQ A outer s0 H E hr;exact aj (bI (tK (jT (aY PN (hr.mono (by first|decide|lia)) (aa (ao 0) (aa (ao 1) ah))))) fi aK)
  (aj (bA (i:=3) g8.nd (aY UH (hr.mono (by first|decide|lia)) (aa (ao 1) (aa (ao 2) ah))))
  (aj (bI (jT (aY UI (hr.mono (by first|decide|lia)) (aa (ao 3) ah))) (au (Ab XT.cls XT.exc hr.hd (aG dG cM) (λσ H Q h=>h _ _ (by decide) (λ_ _ e=>e)) (λ_ z=>z))) aK) fi))
end
section
variable {m p:U}{j:U}
noncomputable abbrev r0 (m p q:U):Ev:=[some m,some p,some q,none]
noncomputable abbrev r1 (m p q j:U):Ev:=[some m,some p,some q,some j]
def BX (e:aH [m,p]=.ok (.bl b)):Jf (r0 m p q)=.ok (!b,r0 m p q):=by
 have h0:fR 2 aH (ae (af 0) (ae (af 1) ak)) (r0 m p q)=(aH [m,p]).bind λz=>.ok (z,r0 m p q):=rfl;unfold Jf vv gB;rw[h0,e];rfl
def ME (e:a8 20 [p,q]=.ok j):sJ (r0 m p q)=.nx (r1 m p q j):=by
 have h0:fR 2 (a8 20) (ae (af 1) (ae (af 2) ak)) (r0 m p q)=(a8 20 [p,q]).bind λz=>.ok (z,r0 m p q):=rfl;unfold sJ a9;rw[h0,e];rfl
def HP (e:a7 [j]=.ok (.bl b)):AX (r1 m p q j)=.ok (b,r1 m p q j):=by
 have h0:fR 1 a7 (ae (af 3) ak) (r1 m p q j)=(a7 [j]).bind λz=>.ok (z,r1 m p q j):=rfl;unfold AX gB;rw[h0,e];rfl
def TM (e:aH [m,p]=.ok (.bl false)):∃c u,dq .S 4 OB [m,p,q]=.exc c u:=by
 refine⟨"NoPlan",.non,?_⟩;have e0:OB (bx 4 [m,p,q])=.exc "NoPlan" .non:=by
  show OB (r0 m p q)=_;unfold OB aE dR;rw[BX e];rfl
 unfold dq;rw[e0]
theorem TN (e:aH [m,p]=.ok (.bl true))(e1:a8 20 [p,q]=.ok j)(e2:a7 [j]=.ok (.bl true)):∃c u,dq .S 4 OC [m,p,q]=.exc c u:=by
 refine⟨"TooMany",.non,?_⟩;have e0:OC (bx 4 [m,p,q])=.exc "TooMany" .non:=by
  show OC (r0 m p q)=_;have a1:dR Jf (λ_=>.stk) aR (r0 m p q)=.nx (r0 m p q):=by unfold dR;rw[BX e];rfl
  have a2:dR AX (λ_=>.exc "TooMany" .non) aR (r1 m p q j)=.exc "TooMany" .non:=by unfold dR;rw[HP e2];rfl
  have a3:aE (dR AX (λ_=>.exc "TooMany" .non) aR) (λ_=>.stk) (r1 m p q j)=.exc "TooMany" .non:=by unfold aE;rw[a2]
  have a4:aE sJ (aE (dR AX (λ_=>.exc "TooMany" .non) aR) (λ_=>.stk)) (r0 m p q)=.exc "TooMany" .non:=by
   show (match sJ (r0 m p q) with|.nx ρ'=>aE (dR AX (λ_=>.exc "TooMany" .non) aR) (λ_=>.stk) ρ'|r=>r)=_;rw[ME e1];exact a3
  unfold OC;show (match dR Jf (λ_=>.stk) aR (r0 m p q) with|.nx ρ'=>aE sJ (aE (dR AX (λ_=>.exc "TooMany" .non) aR) (λ_=>.stk)) ρ'|r=>r)=_;rw[a1];exact a4
 unfold dq;rw[e0]
theorem TQ (e:aH [m,p]=.ok (.bl true))(e1:a8 20 [p,q]=.ok j)(e2:a7 [j]=.ok (.bl false)):c_ [m,p,q]=.ok j:=by
 have e0:nR (bx 4 [m,p,q])=.rt j (r1 m p q j):=by
  have a1:dR Jf (λ_=>.exc "NoPlan" .non) aR (r0 m p q)=.nx (r0 m p q):=by unfold dR;rw[BX e];rfl
  have a2:dR AX (λ_=>.exc "TooMany" .non) aR (r1 m p q j)=.nx (r1 m p q j):=by unfold dR;rw[HP e2];rfl
  have a3:aE (dR AX (λ_=>.exc "TooMany" .non) aR) (bg (af 3)) (r1 m p q j)=.rt j (r1 m p q j):=by
   show (match dR AX (λ_=>.exc "TooMany" .non) aR (r1 m p q j) with|.nx ρ'=>bg (af 3) ρ'|r=>r)=_;rw[a2];rfl
  have a4:aE sJ (aE (dR AX (λ_=>.exc "TooMany" .non) aR) (bg (af 3))) (r0 m p q)=.rt j (r1 m p q j):=by
   show (match sJ (r0 m p q) with|.nx ρ'=>aE (dR AX (λ_=>.exc "TooMany" .non) aR) (bg (af 3)) ρ'|r=>r)=_;rw[ME e1];exact a3
  show (match dR Jf (λ_=>.exc "NoPlan" .non) aR (r0 m p q) with|.nx ρ'=>aE sJ (aE (dR AX (λ_=>.exc "TooMany" .non) aR) (bg (af 3))) ρ'|r=>r)=_;rw[a1];exact a4
 unfold c_ dq;rw[e0]
theorem HQ:((∃c u,dq .S 4 OB [m,p,q]=.exc c u)/\bN [m,p,q]=.ok (.str "plan"))\/((∃c u,dq .S 4 OC [m,p,q]=.exc c u)/\bN [m,p,q]=.ok (.str "many"))\/(∃j,c_ [m,p,q]=.ok j/\bN [m,p,q]=.ok j)\/bN [m,p,q]=.stk:=by
 unfold bN;dsimp only;split
 ·rename_i e;exact .inl ⟨TM e,rfl⟩
 ·rename_i e;split
  ·rename_i j e1;split
   ·rename_i e2;exact .inr (.inl ⟨TN e e1 e2,rfl⟩)
   ·rename_i e2;exact .inr (.inr (.inl ⟨j,TQ e e1 e2,rfl⟩))
   ·exact .inr (.inr (.inr rfl))
  ·exact .inr (.inr (.inr rfl))
 ·exact .inr (.inr (.inr rfl))
end
section
variable {w:Y6}{base:Z9}{cX cY:Ye}
theorem KJ (T:mC mg)(XT:vz K mg cX "TooMany" MS)(XP:vz K mg cY "NoPlan" MP)(PN:Fn P w K mg base "tells_all_places" 3 ["many","plan"] (jG K 2 aH .S))(UH:Fn P w K mg base "with_more" 21 ["plan","more"] (jG K 2 (a8 20) .S))(UI:Fn P w K mg base "is_too_great" 4 ["plan"] (jG K 1 a7 .S))(W0:Fn P w K mg base "followed" 22 ["many","plan","more"] (jG K 3 c_ .S))(d1:Df K mg "followed" dP)(d2:Df K mg "_law_mark" ji)(d:Df K mg "_law_told" kj):Fn P w K mg base "_law_told" 23 ["many","plan","more"] (jG K 3 bN .S):=by
 obtain⟨f1,fd1,a1,b1,c1,F1⟩:=OD (P:=P) (w:=w) (base:=base) T XP PN d1;obtain⟨f3,fd3,a3,b3,c3,F3⟩:=OE (P:=P) (w:=w) (base:=base) T XT PN UH UI d1;obtain⟨f2,fd2,a2,b2,c2,F2⟩:=HN (P:=P) (w:=w) (base:=base) T XP d2;obtain⟨f4,fd4,a4,b4,c4,F4⟩:=KI (P:=P) (w:=w) (base:=base) T XT d2;obtain⟨cc,hc,DH⟩:=XP.card;obtain⟨cc',Py,hex'⟩:=XT.card;have hl:∀(us:List U) (A:Ye->Prop) (H:Hp) (Q:VK),JR K .S A H (yE 3 bN us) Q->us.length=3:=λus A H Q h=>by
  unfold yE at h;split at h
  ·assumption
  ·exact h.elim
 refine Df.fn (N:=["many","plan","more","e"]) (k:=22) d kF xW (λvs H Q E ⟨us,A,r,_,h⟩=>by rw[←r.length];exact hl us A H Q h) λf bQ A outer s H vs Q E hr ⟨us,A0,r,mu,h⟩=>?_;have l:=hl us A0 H Q h;have own:∀i,i<3->(⟨[false,false,false,false],false,λ_=>False⟩:Gm).is i=false:=λi hi=>match i,hi with|0,_=>rfl|1,_=>rfl|2,_=>rfl
 match us,l with
 | [um,up,uq],_=>
  have h:JR K .S A0 H (bN [um,up,uq]) Q:=h;rcases HQ (m:=um) (p:=up) (q:=uq) with⟨pm,e⟩|⟨pm,e⟩|⟨j,hb,e⟩|e
  ·rw[e] at h;refine⟨_,fU (CJ (i:=3) F1 (hr.mono (by decide)) a1 b1 c1 rfl rfl hc DH kF.nd (aG (pv 0) (aG (pv 1) (aG (pv 2) cM))) (λea=>fU (i7 (zp F2 (gW.mono1 (gW.mark _ hr) (by decide)) a2 b2 c2 (aG (pv 3) cM))))),?_⟩;unfold aU at r;obtain⟨v0,vr,rfl,q0,r⟩:=r;unfold aU at r;obtain⟨v1,vr,rfl,q1,r⟩:=r;unfold aU at r;obtain⟨v2,vr,rfl,q2,r⟩:=r;unfold aU at r;subst r;refine⟨v0,rfl,v1,rfl,v2,rfl,[um,up,uq],A0,aU.cons q0 (aU.cons q1 (aU.cons q2 aU.nil)),mu,rfl,pm,λH' sm ea UJ=>⟨.ref ea,rfl,ea,rfl,aQ,λH3 s3=>?_⟩⟩;exact h (.str "plan") H3 (λb o e=>s3 b o ((sm.updN UJ) b o e)) (show Rp K H3 A0 (.str "plan") (.str "plan") from Bo)
  ·rw[e] at h;refine⟨_,fU (CJ (i:=3) F3 (hr.mono (by decide)) a3 b3 c3 rfl rfl Py hex' kF.nd (aG (pv 0) (aG (pv 1) (aG (pv 2) cM))) (λea=>fU (i7 (zp F4 (gW.mono1 (gW.mark _ hr) (by decide)) a4 b4 c4 (aG (pv 3) cM))))),?_⟩;unfold aU at r;obtain⟨v0,vr,rfl,q0,r⟩:=r;unfold aU at r;obtain⟨v1,vr,rfl,q1,r⟩:=r;unfold aU at r;obtain⟨v2,vr,rfl,q2,r⟩:=r;unfold aU at r;subst r;refine⟨v0,rfl,v1,rfl,v2,rfl,[um,up,uq],A0,aU.cons q0 (aU.cons q1 (aU.cons q2 aU.nil)),mu,rfl,pm,λH' sm ea UJ=>⟨.ref ea,rfl,ea,rfl,aQ,λH3 s3=>?_⟩⟩;exact h (.str "many") H3 (λb o e=>s3 b o ((sm.updN UJ) b o e)) (show Rp K H3 A0 (.str "many") (.str "many") from Bo)
  ·refine (tV (ps:=["many","plan","more"]) (N:=["many","plan","more","e"]) (st:=kj) (x:="_law_told") (k:=22) ⟨[false,false,false,false],false,λ_=>False⟩ .S (bg (fR 3 c_ (ae (af 0) (ae (af 1) (ae (af 2) ak))))) rfl own ?_).2 f bQ A outer s H vs Q E hr ⟨[um,up,uq],A0,r,mu,?_⟩
   ·intro f bQ A outer s0 H E hr;exact au (Kj (au (aJ (aY W0 (hr.mono (by decide)) (aa (ao 0) (aa (ao 1) (aa (ao 2) ah)))))))
   ·have e2:yE (["many","plan","more"]:List Str).length (dq .S (["many","plan","more","e"]:List Str).length (bg (fR 3 c_ (ae (af 0) (ae (af 1) (ae (af 2) ak)))))) [um,up,uq]=.ok j:=by
     show dq .S 4 (bg (fR 3 c_ (ae (af 0) (ae (af 1) (ae (af 2) ak))))) [um,up,uq]=_;have e1:fR 3 c_ (ae (af 0) (ae (af 1) (ae (af 2) ak))) [some um,some up,some uq,none]=(c_ [um,up,uq]).bind λz=>.ok (z,[some um,some up,some uq,none]):=rfl;show (match SR.of (fR 3 c_ (ae (af 0) (ae (af 1) (ae (af 2) ak))) [some um,some up,some uq,none]) (λx=>.rt x.1 x.2) with
      | .rt u _=>R.ok u
      | .nx _=>if Md.S=Md.S then .ok .non else .stk
      | .exc c u=>.exc c u
      |_=>.stk)=_
     rw[e1,hb];rfl
    rw[e2,←e];exact h
  ·rw[e] at h;exact h.elim
end
end Hc
namespace Hc
open L2
section
variable {w:Y6}{base:Z9}
def r6 (T:mC mg)  (eG:Df K mg "plans_within" dZ):Fn P w K mg base "plans_within" 1 ["plans"] (jG K 1 dN .O):=by
 refine Df.fnD (N:=["plans","inner","plan"]) (ps:=["plans"]) (st:=dZ) (k:=0) uW .O jd eG iA rT rfl (by decide) ?_;intro f bQ A outer s0 H E hr;have hu:=hr.units;have kn:=cm hr;exact (aj (iI (i:=1) iA.nd (gz ah))
 (aj (lh aac rfl (cO (ao 0)) (aT (i:=2) iA.nd)
 (au (bI (DW.dt (yU (aV cE ba (zqa 2) bj (aM _)) (tJ (aV cE ba (zqa 2) bj (aM _))))) (au (l9 (nu (i:=1) YV abR abS pY nA (aa (zqa 2) ah)))) (au (bI (aV cE ba (zqa 2) bj (aM _)) (au (l9 (nu (i:=1) YV abT abU xm nB (aa (fm (aq dZ) ["plans","inner","plan"] ["way"] [none] rfl (cO (zqa 2)) (λY=>⟨(aT (i:=0) (show (["way"]:List Str).Nodup by decide+kernel)),bz,(zqa 0)⟩)) ah)))) aK)))))
 (au (Cm (i:=1) (hi:=by decide)))))
def xX (T:mC mg)(jt:Fn P w K mg base "plans_within" 1 ["plans"] (jG K 1 dN .O))(ic:Df K mg "levels_of" iZ):Fn P w K mg base "levels_of" 2 ["plan"] (jG K 1 cR .O):=by
 refine Df.fnD (N:=["plan","levels","level"]) (ps:=["plan"]) (st:=iZ) (k:=1) Ac .O lG ic iP xQ rfl (by decide) ?_;intro f bQ A outer s0 H E hr;have hu:=hr.units;have kn:=cm hr;exact (aj (iI (i:=1) iP.nd (gz ah))
 (aj (bA (i:=2) iP.nd (gz (aa (ao 0) ah)))
 (aj (FQ aac (aV sX nD (bD c7 dW (by rfl) T.zjq fk (aa (ao 2) ah)) ai (aM _))
 (aj (l9 (nu (i:=1) YV abR abS pY nA (aa (ao 2) ah)))
 (au (bA (i:=2) iP.nd (aY jt (rm hr) (aa (ao 2) ah))))))
 (au (Cm (i:=1) (hi:=by decide))))))
def An (T:mC mg)(dE:Fn P w K mg base "levels_of" 2 ["plan"] (jG K 1 cR .O))(ju:Df K mg "plans_in" jg):Fn P w K mg base "plans_in" 3 ["plan"] (jG K 1 je .S):=by
 refine Df.fnD (N:=["plan"]) (ps:=["plan"]) (st:=jg) (k:=2) BU .S nO ju Ai Aj rfl (by decide) ?_;intro f bQ A outer s0 H E hr;have hu:=hr.units;have kn:=cm hr;exact (au (aJ (bD (qj rfl) uP (by rfl) T.zmq Bk (aa (fm (aq jg) ["plan"] ["level"] [none] rfl (cO (m1:=.O) (aY dE (rm hr) (aa (ao 0) ah))) (λY=>⟨(aT (i:=0) (show (["level"]:List Str).Nodup by decide+kernel)),bz,(bD c7 dW (by rfl) T.zjq fk (aa (ao 0) ah))⟩)) ah))))
theorem xY (T:mC mg)  (fG:Df K mg "with_more" fE):∀n,Fn P w K mg base "with_more" (n+1) ["plan","more"] (jG K 2 (a8 n) .S):=by
 intro n
 induction n with
 |zero=>
  refine Df.fnD (N:=["plan","more"]) (ps:=["plan","more"]) (st:=fE) (k:=0) rj .S (cS 0) fG o3 o5 rfl (by decide) ?_;intro f bQ A outer s0 H E hr;have hu:=hr.units;have kn:=cm hr;exact fi
 |succ n eI=>
  refine Df.fnD (N:=["plan","more"]) (ps:=["plan","more"]) (st:=fE) (k:=n+1) rj .S (cS (n+1)) fG o3 o5 rfl (by decide) ?_;intro f bQ A outer s0 H E hr;have hu:=hr.units;have kn:=cm hr;exact (aj (bI (aV cE ba (zqa 0) bj (aM _)) (au (aJ (bC (aa bj (aa (zqa 0) (aa (ao 1) ah)))))) aK)
 (aj (bI (aV cE ba (zqa 0) bj (aM _)) (au (aJ (bC (aa bj (aa (zqa 0) (aa (cg br cK (by rfl) T.zfq b_ (aa (fm (aq fE) ["plan","more"] ["seen","inner","more"] [none,none,some 1] rfl (cO (zqa 0)) (λY=>⟨(tL rfl (eX (aT (i:=0) (show (["seen","inner","more"]:List Str).Nodup by decide+kernel)) (eX (aT (i:=1) (show (["seen","inner","more"]:List Str).Nodup by decide+kernel)) oz))),bz,(bC (aa (ao 0) (aa (aY eI (rm hr) (aa (ao 1) (aa (ao 2) ah))) ah)))⟩)) ah)) ah)))))) aK)
 (aj (bI (aV cE ba (zqa 0) bj (aM _)) (au (aJ (ao 0))) aK)
 (au (aJ (bC (aa (zqa 0) (aa (zqa 0) (aa (aY eI (rm hr) (aa (zqa 0) (aa (ao 1) ah))) ah)))))))))
def mO (T:mC mg)(dE:Fn P w K mg base "levels_of" 2 ["plan"] (jG K 1 cR .O))(dh:Df K mg "tells_all_places" cN):Fn P w K mg base "tells_all_places" 3 ["many","plan"] (jG K 2 aH .S):=by
 refine Df.fnD (N:=["many","plan","level"]) (ps:=["many","plan"]) (st:=cN) (k:=2) nP .S ft dh iF mM rfl (by decide) ?_;intro f bQ A outer s0 H E hr;have hu:=hr.units;have kn:=cm hr;exact (aj (lh aac rfl (cO (m1:=.O) (aY dE (rm hr) (aa (ao 1) ah))) (aT (i:=2) iF.nd)
 (au (bI (tK (jT (bD (vU rfl) Cu (by rfl) T.znq FC (aa (fm (aq cN) ["many","plan","level"] ["part","many"] [none,some 0] rfl (cO (ao 2)) (λY=>⟨(aT (i:=0) (show (["part","many"]:List Str).Nodup by decide+kernel)),(tU (aV cE ba (zqa 0) bj (aM _))),(k8 cE ba (bD c7 dW (by rfl) T.zjq fk (aa (zqa 0) ah)) (ao 1) (aM _))⟩)) ah)))) (au (aJ qC)) aK)))
 (au (aJ qC)))
theorem r9 (T:mC mg)(dE:Fn P w K mg base "levels_of" 2 ["plan"] (jG K 1 cR .O))(nZ:Fn P w K mg base "plans_in" 3 ["plan"] (jG K 1 je .S))(eH:Df K mg "is_too_great" fF):Fn P w K mg base "is_too_great" 4 ["plan"] (jG K 1 a7 .S):=by
 obtain⟨nh,zcq⟩:=T.zcq;obtain⟨lX,zaq⟩:=T.zaq;refine Df.fnD (N:=["plan"]) (ps:=["plan"]) (st:=fF) (k:=3) uX .S fZ eH rV rW rfl (by decide) ?_;intro f bQ A outer s0 H E hr;have hu:=hr.units;have kn:=cm hr;exact (au (aJ (Qt (ha:=(k8 sX nD (aY nZ (rm hr) (aa (ao 0) ah)) (yT (i:=60) rfl zcq) (aM _))) (hb:=(FK (k8 sX nD (bD c7 dW (by rfl) T.zjq fk (aa (aY dE (rm hr) (aa (ao 0) ah)) ah)) (yT (i:=12) rfl zaq) (aM _)))))))
def Ao (T:mC mg)(eI:∀n,Fn P w K mg base "with_more" (n+1) ["plan","more"] (jG K 2 (a8 n) .S))(d0:Fn P w K mg base "tells_all_places" 3 ["many","plan"] (jG K 2 aH .S))(gj:Fn P w K mg base "is_too_great" 4 ["plan"] (jG K 1 a7 .S))(gL:Df K mg "followed" dP):Fn P w K mg base "followed" 22 ["many","plan","more"] (jG K 3 c_ .S):=by
 refine Df.fnD (N:=["many","plan","more","joined"]) (ps:=["many","plan","more"]) (st:=dP) (k:=21) nQ .S nR gL g8 lP rfl (by decide) ?_;intro f bQ A outer s0 H E hr;have hu:=hr.units;have kn:=cm hr;exact (aj (bI (tK (jT (aY d0 (rm hr) (aa (ao 0) (aa (ao 1) ah))))) (au (Gk λ_=>⟨_,_,rfl⟩)) aK)
 (aj (bA (i:=3) g8.nd (aY (eI 20) (rm hr) (aa (ao 1) (aa (ao 2) ah))))
 (aj (bI (jT (aY gj (rm hr) (aa (ao 3) ah))) (au (Gk λ_=>⟨_,_,rfl⟩)) aK)
 (au (aJ (ao 3))))))
def r_ (T:mC mg)  (eJ:Df K mg "_law_cell_at" gI):Fn P w K mg base "_law_cell_at" 1 ["script","k"] (jG K 2 dO .S):=by
 refine Df.fnD (N:=["script","k"]) (ps:=["script","k"]) (st:=gI) (k:=0) uY .S f6 eJ rX rY rfl (by decide) ?_;intro f bQ A outer s0 H E hr;have hu:=hr.units;have kn:=cm hr;exact (aj (bI (aV sW nC (ao 1) (bD c7 dW (by rfl) T.zjq fk (aa (ao 0) ah)) (aM _)) (au (aJ (aL aB aD (ao 0) (ao 1) (λ_ _=>rfl)))) aK)
 (au (aJ ai)))
def vF (T:mC mg)(jv:Fn P w K mg base "_law_cell_at" 1 ["script","k"] (jG K 2 dO .S))(gm:Df K mg "_law_state" i0):Fn P w K mg base "_law_state" 2 ["script","k"] (jG K 2 dY .O):=by
 refine Df.fnD (N:=["script","k","cell"]) (ps:=["script","k"]) (st:=i0) (k:=1) xO .O iM gm mZ vB rfl (by decide) ?_;intro f bQ A outer s0 H E hr;have hu:=hr.units;have kn:=cm hr;exact (aj (bA (i:=2) mZ.nd (aY jv (rm hr) (aa (ao 0) (aa (ao 1) ah))))
 (aj (bI (aV P9 N2 (ao 2) (bH E_ Cr ai ai) (aM _)) (au (Ck (gz (aa (bH pS l_ (ao 2) (bH E_ Cr ai ai)) (aa qC ah))))) aK)
 (au (Ck (gz (aa (bH pT ma (ao 2) ai) (aa qC ah)))))))
def xZ (T:mC mg)  (ie:Df K mg "_law_take" kh):Fn P w K mg base "_law_take" 1 ["state","many"] (k_ K 2 ar):=by
 refine Df.fnI (N:=["state","many","found","mixed"]) (ps:=["state","many"]) (st:=kh) (k:=0) Ad jJ ie iQ xR rfl rfl (by decide) ?_;intro f bQ A outer s0 H E hr;have hu:=hr.units;have kn:=cm hr;exact (aj (bI (jT (aL aB aD (fV 0) ai (λ_ _=>rfl))) (aj (bA (i:=2) iQ.nd (bH pT ma (aL aB aD (fV 0) ai (λ_ _=>rfl)) (ao 1)))
 (aj (xj (i:=0) (bH p0 tX (aL aB aD (fV 0) ai (λ_ _=>rfl)) (ao 1)) ai)
 (au (aJ (ao 2))))) aK)
 (aj (xj (i:=0) (bH pT ma (bH bU bV (bH kY jI (aL aB aD (fV 0) ai (λ_ _=>rfl)) ai) ai) ai) ai)
 (aj (bA (i:=3) iQ.nd (bH pT ma (bH bU bV (bH bU bV (bH kY jI (aL aB aD (fV 0) ai (λ_ _=>rfl)) (aL aB aD (fV 0) ai (λ_ _=>rfl))) (bH kY jI ai (aL aB aD (fV 0) ai (λ_ _=>rfl)))) ai) ai))
 (aj (bA (i:=3) iQ.nd (bH pT ma (bH bU bV (bH kY jI (ao 3) (ao 3)) (bH kY jI ai (ao 3))) ai))
 (au (aJ (bH pT ma (bH p0 tX (ao 3) ai) (ao 1))))))))
def Ap (T:mC mg)(aw:Fn P w K mg base "_law_take" 1 ["state","many"] (k_ K 2 ar))(jw:Df K mg "_law_row" jN):Fn P w K mg base "_law_row" 2 ["state","many"] (k_ K 2 fu):=by
 refine Df.fnI (N:=["state","many","way"]) (ps:=["state","many"]) (st:=jN) (k:=1) gG ky jw rA Ak rfl rfl (by decide) ?_;intro f bQ A outer s0 H E hr;have hu:=hr.units;have kn:=cm hr;exact (aj (bA (i:=2) rA.nd (az (i:=0) aw (rm hr) (aa ai ah)))
 (aj (bI (aV sW nC (ao 2) ai (aM _)) (au (aJ (cg br cK (by rfl) T.zfq b_ (aa (p_ (aq jN) ["state","many","way"] ["k","state"] [none,some 0] rfl (dz (aa (ao 1) ah) T.zeq) (λY=>⟨(aT (i:=0) (show (["k","state"]:List Str).Nodup by decide+kernel)),bz,(az (i:=1) aw (rm hr) (aa ai ah))⟩)) ah)))) aK)
 (au (aJ (cg br cK (by rfl) T.zfq b_ (aa (p_ (aq jN) ["state","many","way"] ["k","state","way"] [none,some 0,some 2] rfl (dz (aa (ao 1) ah) T.zeq) (λY=>⟨(aT (i:=0) (show (["k","state","way"]:List Str).Nodup by decide+kernel)),bz,(az (i:=1) aw (rm hr) (aa (aL aB aD (gz (aa ai (aa ai ah))) (bH pS l_ (ao 2) ai) (λ_ _=>rfl)) ah))⟩)) ah))))))
theorem vG (T:mC mg)(aw:Fn P w K mg base "_law_take" 1 ["state","many"] (k_ K 2 ar))(gp:Df K mg "_law_order" gJ):Fn P w K mg base "_law_order" 2 ["state","many"] (k_ K 2 bb):=by
 refine Df.fnI (N:=["state","many","left"]) (ps:=["state","many"]) (st:=gJ) (k:=1) kz kA gp m9 vC rfl rfl (by decide) ?_;intro f bQ A outer s0 H E hr;have hu:=hr.units;have kn:=cm hr;exact (aj (iI (i:=2) m9.nd (J3 rfl (aa (ao 1) ah) T.zhq T.zeq))
 (au (aJ (cg br cK (by rfl) T.zfq b_ (aa (p_ (aq gJ) ["state","many","left"] ["k","left","state"] [none,some 2,some 0] rfl (dz (aa (ao 1) ah) T.zeq) (λY=>⟨(aT (i:=0) (show (["k","left","state"]:List Str).Nodup by decide+kernel)),bz,(nu (i:=1) YV PySem.F.slot_list_pop PySem.F.type_list_pop Fp Ef (aa (az (i:=2) aw (rm hr) (aa (bD c7 dW (by rfl) T.zjq fk (aa (fV 1) ah)) ah)) ah))⟩)) ah)))))
def x8 (T:mC mg)  (ig:Df K mg "_law_laid" jh):Fn P w K mg base "_law_laid" 1 ["row","order"] (jG K 2 cu .S):=by
 refine Df.fnD (N:=["row","order"]) (ps:=["row","order"]) (st:=jh) (k:=0) Ae .S lH ig xS xT rfl (by decide) ?_;intro f bQ A outer s0 H E hr;have hu:=hr.units;have kn:=cm hr;exact (au (aJ (cg br cK (by rfl) T.zfq b_ (aa (fm (aq jh) ["row","order"] ["place","row"] [none,some 0] rfl (cO (ao 1)) (λY=>⟨(aT (i:=0) (show (["place","row"]:List Str).Nodup by decide+kernel)),bz,(aL aB aD (ao 1) (ao 0) (λ_ _=>rfl))⟩)) ah))))
def sd (T:mC mg)(aw:Fn P w K mg base "_law_take" 1 ["state","many"] (k_ K 2 ar))(bB:Fn P w K mg base "_law_order" 2 ["state","many"] (k_ K 2 bb))(eK:Df K mg "_law_shuffle" cW):Fn P w K mg base "_law_shuffle" 3 ["state","many"] (k_ K 2 bf):=by
 refine Df.fnI (N:=["state","many","stays","way","order","half","some","size","k","longer"]) (ps:=["state","many"]) (st:=cW) (k:=2) jf de eK bE rZ rfl rfl (by decide) ?_;intro f bQ A outer s0 H E hr;have hu:=hr.units;have kn:=cm hr;exact (aj (bA (i:=2) bE.nd (J5 rfl (aa (ao 1) ah) T.zfq T.zeq))
 (aj (bA (i:=3) bE.nd (az (i:=0) aw (rm hr) (aa ai ah)))
 (aj (bI (aV cE ba (ao 3) ai (aM _)) (au (aJ (cg br cK (by rfl) T.zfq b_ (aa (fm (aq cW) ["state","many","stays","way","order","half","some","size","k","longer"] ["k","stays"] [none,some 2] rfl (dz (aa (ao 1) ah) T.zeq) (λY=>⟨(aT (i:=0) (show (["k","stays"]:List Str).Nodup by decide+kernel)),bz,(bH bU bV (eA eB i9 (ao 1) (fh (ao 0)) gQ) (eA eB i9 (ao 1) gQ (fh (ao 0))))⟩)) ah)))) aK)
 (aj (bI (aV cE ba (ao 3) ai (aM _)) (aj (bA (i:=4) bE.nd (az (i:=0) bB (rm hr) (aa (ao 1) ah)))
 (au (aJ (bC (aa (ao 2) (aa (ao 4) ah)))))) aK)
 (aj (bI (aV cE ba (ao 3) ai (aM _)) (aj (bA (i:=5) bE.nd (bH p0 tX (ao 1) ai))
 (au (aJ (bC (aa (ao 2) (aa (bH bU bV (bH bU bV (eA eB i9 (ao 2) (fh (ao 5)) (fh (bH kY jI ai (ao 5)))) (eA eB i9 (ao 2) gQ (fh (ao 5)))) (eA eB i9 (ao 2) (fh (bH kY jI ai (ao 5))) gQ)) ah)))))) aK)
 (aj (bI (aV cE ba (ao 3) ai (aM _)) (aj (bA (i:=6) bE.nd (gz (aa (bC ah) ah)))
 (aj (bA (i:=7) bE.nd (bD (vM rfl) y_ (by rfl) T.ziq FA (aa (ao 1) (aa (bH bU bV ai (az (i:=0) aw (rm hr) (aa ai ah))) ah))))
 (aj (lh aac rfl (dz (aa (ao 7) ah) T.zeq) (aT (i:=8) bE.nd)
 (aj (iI (i:=9) bE.nd (gz ah))
 (aj (lh aac rfl (cO (ao 6)) (aT (i:=4) bE.nd)
 (au (l9 (nu (i:=9) YV abT abU xm nB (aa (fm (aq cW) ["state","many","stays","way","order","half","some","size","k","longer"] ["j","order","k"] [none,some 4,some 8] rfl (dz (aa (bH bU bV (ao 8) ai) ah) T.zeq) (λY=>⟨(aT (i:=0) (show (["j","order","k"]:List Str).Nodup by decide+kernel)),bz,(bH bU bV (bH bU bV (eA eB i9 (ao 1) gQ (fh (ao 0))) (bC (aa (ao 2) ah))) (eA eB i9 (ao 1) (fh (ao 0)) gQ))⟩)) ah)))))
 (au (JS (i:=6) (j:=9) bE.nd)))))
 (au (aJ (cg br cK (by rfl) T.zfq b_ (aa (fm (aq cW) ["state","many","stays","way","order","half","some","size","k","longer"] ["order","stays","size"] [none,some 2,some 7] rfl (cO (ao 6)) (λY=>⟨(aT (i:=0) (show (["order","stays","size"]:List Str).Nodup by decide+kernel)),bz,(bH bU bV (ao 0) (eA eB i9 (ao 1) (fh (ao 2)) gQ))⟩)) ah))))))) aK)
 (au (aJ (cg br cK (by rfl) T.zfq b_ (aa (p_ (aq cW) ["state","many","stays","way","order","half","some","size","k","longer"] ["k","state","many"] [none,some 0,some 1] rfl (dz (aa (bH bU bV ai (az (i:=0) aw (rm hr) (aa ai ah))) ah) T.zeq) (λY=>⟨(aT (i:=0) (show (["k","state","many"]:List Str).Nodup by decide+kernel)),bz,(az (i:=1) bB (rm hr) (aa (ao 2) ah))⟩)) ah))))))))))
def Aq (T:mC mg)(aw:Fn P w K mg base "_law_take" 1 ["state","many"] (k_ K 2 ar))(bB:Fn P w K mg base "_law_order" 2 ["state","many"] (k_ K 2 bb))(jx:Df K mg "_law_end" my):Fn P w K mg base "_law_end" 3 ["state","many"] (k_ K 2 fv):=by
 refine Df.fnI (N:=["state","many","order"]) (ps:=["state","many"]) (st:=my) (k:=2) BV nU jx rB Al rfl rfl (by decide) ?_;intro f bQ A outer s0 H E hr;have hu:=hr.units;have kn:=cm hr;exact (aj (bA (i:=2) rB.nd (az (i:=0) bB (rm hr) (aa (ao 1) ah)))
 (au (aJ (bC (aa bj (aa (eA eB i9 (ao 2) gQ (fh (bH bU bV ai (az (i:=0) aw (rm hr) (aa (aL aB aD (gz (aa ai (aa (ao 1) ah))) (az (i:=0) aw (rm hr) (aa ai ah)) (λ_ _=>rfl)) ah))))) ah))))))
theorem x9 (T:mC mg)(aw:Fn P w K mg base "_law_take" 1 ["state","many"] (k_ K 2 ar))(bB:Fn P w K mg base "_law_order" 2 ["state","many"] (k_ K 2 bb))(fH:Fn P w K mg base "_law_laid" 1 ["row","order"] (jG K 2 cu .S))(jy:Fn P w K mg base "_law_end" 3 ["state","many"] (k_ K 2 fv))(jz:Fn P w K mg base "_law_shuffle" 3 ["state","many"] (k_ K 2 bf))(fI:Df K mg "_law_look" e_)(fJ:Df K mg "_law_plan" f9):∀n,(Fn P w K mg base "_law_look" (n+4) ["state","rows","deep","again"] (k_ K 4 (jL n)))/\(Fn P w K mg base "_law_plan" (n+4) ["state","rows","deep","again"] (k_ K 4 (bM n))):=by
 intro n
 induction n with
 |zero=>
  refine⟨?_,?_⟩
  ·
   refine Df.fnI (N:=["state","rows","deep","again","many","places","seen","ways","some","left","more"]) (ps:=["state","rows","deep","again"]) (st:=e_) (k:=3) jK (fB 0) fI cC o7 rfl rfl (by decide) ?_;intro f bQ A outer s0 H E hr;have hu:=hr.units;have kn:=cm hr;exact fi
  ·
   refine Df.fnI (N:=["state","rows","deep","again","many","way","order","shuffle","fresh"]) (ps:=["state","rows","deep","again"]) (st:=f9) (k:=3) rk (cv 0) fJ dD o_ rfl rfl (by decide) ?_;intro f bQ A outer s0 H E hr;have hu:=hr.units;have kn:=cm hr;exact fi
 |succ n ih=>
  obtain⟨rK,eL⟩:=ih;refine⟨?_,?_⟩
  ·
   refine Df.fnI (N:=["state","rows","deep","again","many","places","seen","ways","some","left","more"]) (ps:=["state","rows","deep","again"]) (st:=e_) (k:=n+4) jK (fB (n+1)) fI cC o7 rfl rfl (by decide) ?_;intro f bQ A outer s0 H E hr;have hu:=hr.units;have kn:=cm hr;exact (aj (bA (i:=4) cC.nd (bD c7 dW (by rfl) T.zjq fk (aa (zqa 1) ah)))
 (aj (bA (i:=5) cC.nd (eA eB i9 (az (i:=0) bB (rm hr) (aa (ao 4) ah)) gQ (fh (bH bU bV ai (bH kY jI (az (i:=0) aw (rm hr) (aa ai ah)) (cg D1 J2 (by rfl) T.zpq ND (aa (k8 sX nD (ao 4) ai (aM _)) ah)))))))
 (aj (bA (i:=6) cC.nd (jb rfl hu (aa (fm (aq e_) ["state","rows","deep","again","many","places","seen","ways","some","left","more"] ["row","places"] [none,some 5] rfl (cO (ao 1)) (λY=>⟨(aT (i:=0) (show (["row","places"]:List Str).Nodup by decide+kernel)),bz,(aY fH (rm hr) (aa (ao 0) (aa (ao 1) ah)))⟩)) ah) T.zdq T.zoq))
 (aj (bI (aV sX nD (bD c7 dW (by rfl) T.zjq fk (aa (ao 6) ah)) ai (aM _)) (au (aJ (az (i:=0) jy (rm hr) (aa (ao 4) ah)))) aK)
 (aj (iI (i:=7) cC.nd (gz ah))
 (aj (lh aac rfl (cO (ao 6)) (aT (i:=8) cC.nd)
 (aj (iX (i:=9) (aq e_) ["state","rows","deep","again","many","places","seen","ways","some","left","more"] ["row","some","places"] [none,some 8,some 5] cC.nd rfl (cO (ao 1)) (λY=>⟨(aT (i:=0) (show (["row","some","places"]:List Str).Nodup by decide+kernel)),(tU (aV (NC hu) (N1 (f:=id)) (aY fH (rm hr) (aa (ao 0) (aa (ao 2) ah))) (ao 1) (aM _))),(ao 0)⟩))
 (au (l9 (nu (i:=7) YV abR abS pY nA (aa (bC (aa (ao 8) (aa (az (i:=0) eL (rm hr) (aa (ao 9) (aa (bH pS l_ (ao 2) ai) (aa (ao 3) ah)))) ah))) ah))))))
 (aj (bI (aV cE ba (az (i:=0) aw (rm hr) (aa ai ah)) ai (aM _)) (aj (bA (i:=10) cC.nd (cg br cK (by rfl) T.zfq b_ (aa (p_ (aq e_) ["state","rows","deep","again","many","places","seen","ways","some","left","more"] ["place","state"] [none,some 0] rfl (cO (ao 5)) (λY=>⟨(aT (i:=0) (show (["place","state"]:List Str).Nodup by decide+kernel)),bz,(az (i:=1) aw (rm hr) (aa ai ah))⟩)) ah)))
 (au (bI (aV (wQ hu) uS (ao 10) (ao 6) (by with_unfolding_all rfl)) (au (iI (i:=7) cC.nd (bD (BQ rfl hu) ED (by rfl) T.zdq vT (aa (Oy (j:=7) bU bV (gz (aa (bC (aa (ao 10) (aa (az (i:=0) jy (rm hr) (aa (ao 4) ah)) ah))) ah))) ah)))) aK))) aK)
 (au (aJ (bC (aa bj (aa (ao 5) (aa (cg br cK (by rfl) T.zfq b_ (aa (fV 7) ah)) ah)))))))))))))
  ·
   refine Df.fnI (N:=["state","rows","deep","again","many","way","order","shuffle","fresh"]) (ps:=["state","rows","deep","again"]) (st:=f9) (k:=n+4) rk (cv (n+1)) fJ dD o_ rfl rfl (by decide) ?_;intro f bQ A outer s0 H E hr;have hu:=hr.units;have kn:=cm hr;exact (aj (bA (i:=4) dD.nd (bD c7 dW (by rfl) T.zjq fk (aa (zqa 1) ah)))
 (aj (bA (i:=5) dD.nd (az (i:=0) aw (rm hr) (aa ai ah)))
 (aj (bI (DW.dt (yU (aV sW nC (ao 2) ai (aM _)) (tJ (aV cE ba (ao 5) ai (aM _))))) (au (aJ (az (i:=0) jy (rm hr) (aa (ao 4) ah)))) aK)
 (aj (bI (DW.dt (NI (aV cE ba (ao 5) ai (aM _)) (JQ (jT (ao 3))))) (au (aJ (bC (aa bj ah)))) aK)
 (aj (bI (aV sW nC (ao 5) ai (aM _)) (aj (bA (i:=6) dD.nd (az (i:=0) bB (rm hr) (aa (ao 4) ah)))
 (au (aJ (bC (aa bj (aa (ao 6) (aa (az (i:=0) eL (rm hr) (aa (jb rfl hu (aa (fm (aq f9) ["state","rows","deep","again","many","way","order","shuffle","fresh"] ["row","order"] [none,some 6] rfl (cO (ao 1)) (λY=>⟨(aT (i:=0) (show (["row","order"]:List Str).Nodup by decide+kernel)),bz,(aY fH (rm hr) (aa (ao 0) (aa (ao 1) ah)))⟩)) ah) T.zdq T.zoq) (aa (bH pS l_ (ao 2) ai) (aa (ao 3) ah)))) ah))))))) aK)
 (aj (bI (aV sW nC (ao 5) ai (aM _)) (aj (bA (i:=7) dD.nd (az (i:=0) jz (rm hr) (aa (ao 4) ah)))
 (aj (iI (i:=8) dD.nd (gz ah))
 (aj (lh aac rfl (cO (ao 7)) (aT (i:=6) dD.nd)
 (au (l9 (nu (i:=8) YV abT abU xm nB (aa (fm (aq f9) ["state","rows","deep","again","many","way","order","shuffle","fresh"] ["row","order"] [none,some 6] rfl (cO (ao 1)) (λY=>⟨(aT (i:=0) (show (["row","order"]:List Str).Nodup by decide+kernel)),bz,(aY fH (rm hr) (aa (ao 0) (aa (ao 1) ah)))⟩)) ah)))))
 (au (aJ (bC (aa bj (aa (ao 7) (aa (az (i:=0) eL (rm hr) (aa (jb rfl hu (aa (fV 8) ah) T.zdq T.zoq) (aa (bH pS l_ (ao 2) ai) (aa (ao 3) ah)))) ah))))))))) aK)
 (au (aJ (az (i:=0) rK (rm hr) (aa (ao 1) (aa (ao 2) (aa (ao 3) ah))))))))))))
theorem x_ (T:mC mg)  (fK:Df K mg "_law_size" g6):∀n,Fn P w K mg base "_law_size" (n+1) ["plan"] (jG K 1 (cG n) .S):=by
 intro n
 induction n with
 |zero=>
  refine Df.fnD (N:=["plan"]) (ps:=["plan"]) (st:=g6) (k:=0) rn .S (cT 0) fK pb pd rfl (by decide) ?_;intro f bQ A outer s0 H E hr;have hu:=hr.units;have kn:=cm hr;exact fi
 |succ n fL=>
  refine Df.fnD (N:=["plan"]) (ps:=["plan"]) (st:=g6) (k:=n+1) rn .S (cT (n+1)) fK pb pd rfl (by decide) ?_;intro f bQ A outer s0 H E hr;have hu:=hr.units;have kn:=cm hr;exact (aj (bI (aV (BR hu) uS (zqa 0) (bC (aa bj (aa bj ah))) (by with_unfolding_all rfl)) (au (aJ (bH bU bV ai (aY fL (rm hr) (aa (zqa 0) ah))))) aK)
 (aj (bI (aV cE ba (zqa 0) bj (aM _)) (au (aJ (bH bU bV ai (bD (qj rfl) uP (by rfl) T.zmq Bk (aa (fm (aq g6) ["plan"] ["way"] [none] rfl (cO (zqa 0)) (λY=>⟨(aT (i:=0) (show (["way"]:List Str).Nodup by decide+kernel)),bz,(aY fL (rm hr) (aa (zqa 0) ah))⟩)) ah))))) aK)
 (au (aJ ai))))
def vH (T:mC mg)(eL:∀n,Fn P w K mg base "_law_plan" (n+4) ["state","rows","deep","again"] (k_ K 4 (bM n)))(fL:∀n,Fn P w K mg base "_law_size" (n+1) ["plan"] (jG K 1 (cG n) .S))(gq:Df K mg "_law_drawn" i4):Fn P w K mg base "_law_drawn" 22 ["state","rows","deep","again"] (k_ K 4 cP):=by
 refine Df.fnI (N:=["state","rows","deep","again","plan"]) (ps:=["state","rows","deep","again"]) (st:=i4) (k:=21) xP iN gq m_ vD rfl rfl (by decide) ?_;intro f bQ A outer s0 H E hr;have hu:=hr.units;have kn:=cm hr;exact (aj (bA (i:=4) m_.nd (az (i:=0) (eL 8) (rm hr) (aa (jb rfl hu (aa (ao 1) ah) T.zdq T.zoq) (aa (ao 2) (aa (ao 3) ah)))))
 (au (aJ (k9 (hc:=(aV sW nC (aY (fL 20) (rm hr) (aa (ao 4) ah)) ai (aM _))) (ha:=(ao 4)) (hb:=(bC (aa bj (aa (bC (aa ai ah)) ah))))))))
def ya (T:mC mg)(aw:Fn P w K mg base "_law_take" 1 ["state","many"] (k_ K 2 ar))(n6:Fn P w K mg base "_law_row" 2 ["state","many"] (k_ K 2 fu))(ij:Df K mg "_law_rows" jj):Fn P w K mg base "_law_rows" 3 ["state","most"] (k_ K 2 fD):=by
 refine Df.fnI (N:=["state","most","many","rows"]) (ps:=["state","most"]) (st:=jj) (k:=2) lJ lL ij kD xU rfl rfl (by decide) ?_;intro f bQ A outer s0 H E hr;have hu:=hr.units;have kn:=cm hr;exact (aj (bA (i:=2) kD.nd (bH bU bV ai (az (i:=0) aw (rm hr) (aa ai ah))))
 (aj (vY (i:=3) (aq jj) ["state","most","many","rows"] ["k","state","many"] [none,some 0,some 2] kD.nd rfl (dz (aa (bH bU bV ai (az (i:=0) aw (rm hr) (aa (ao 1) ah))) ah) T.zeq) (λY=>⟨(aT (i:=0) (show (["k","state","many"]:List Str).Nodup by decide+kernel)),bz,(az (i:=1) n6 (rm hr) (aa (ao 2) ah))⟩))
 (au (aJ (jb rfl hu (aa (ao 3) ah) T.zdq T.zoq)))))
theorem yb (T:mC mg)  (fM:Df K mg "_law_same" g7):∀n,Fn P w K mg base "_law_same" (n+1) ["found","due"] (jG K 2 (bT n) .S):=by
 intro n
 induction n with
 |zero=>
  refine Df.fnD (N:=["found","due"]) (ps:=["found","due"]) (st:=g7) (k:=0) rq .S (dU 0) fM ph pj rfl (by decide) ?_;intro f bQ A outer s0 H E hr;have hu:=hr.units;have kn:=cm hr;exact fi
 |succ n lW=>
  refine Df.fnD (N:=["found","due"]) (ps:=["found","due"]) (st:=g7) (k:=n+1) rq .S (dU (n+1)) fM ph pj rfl (by decide) ?_;intro f bQ A outer s0 H E hr;have hu:=hr.units;have kn:=cm hr;exact (aj (bI (jT (Gj (T1:="tuple") (T2:="list") (by decide) (by decide) (ao 1) T.zbq T.zfq b_ T.zhq ow)) (aj (bI (DW.dt (yU (aV yI xM (mf (T:="tuple") (by decide) (ao 0) T.zbq T.zfq b_) (mf (T:="tuple") (by decide) (ao 1) T.zbq T.zfq b_) (aM _)) (tJ (aV yI xM (mf (T:="list") (by decide) (ao 0) T.zbq T.zhq ow) (mf (T:="list") (by decide) (ao 1) T.zbq T.zhq ow) (aM _))))) (au (aJ qC)) aK)
 (aj (bI (aV yI xM (bD c7 dW (by rfl) T.zjq fk (aa (ao 0) ah)) (bD c7 dW (by rfl) T.zjq fk (aa (ao 1) ah)) (aM _)) (au (aJ qC)) aK)
 (au (aJ (bD (vU rfl) Cu (by rfl) T.znq FC (aa (fm (aq g7) ["found","due"] ["one","other"] [none,none] rfl (N8 (aa (ao 0) (aa (ao 1) ah)) T.zlq) (λY=>⟨(tL rfl (eX (aT (i:=0) (show (["one","other"]:List Str).Nodup by decide+kernel)) (eX (aT (i:=1) (show (["one","other"]:List Str).Nodup by decide+kernel)) oz))),bz,(aY lW (rm hr) (aa (ao 0) (aa (ao 1) ah)))⟩)) ah)))))) aK)
 (au (aJ (NK (ha:=(k8 cE ba (ao 0) (ao 1) (aM _))) (hb:=(FK (k8 cE ba (mf (T:="bool") (by decide) (ao 0) T.zbq T.zgq Cj) (mf (T:="bool") (by decide) (ao 1) T.zbq T.zgq Cj) (aM _))))))))
theorem yc (T:mC mg)  (fN:Df K mg "_law_full" gb):∀n,Fn P w K mg base "_law_full" (n+1) ["state","plan","many"] (k_ K 3 (cH n)):=by
 intro n
 induction n with
 |zero=>
  refine Df.fnI (N:=["state","plan","many","left"]) (ps:=["state","plan","many"]) (st:=gb) (k:=0) jM (cU 0) fN kE pq rfl rfl (by decide) ?_;intro f bQ A outer s0 H E hr;have hu:=hr.units;have kn:=cm hr;exact fi
 |succ n fP=>
  refine Df.fnI (N:=["state","plan","many","left"]) (ps:=["state","plan","many"]) (st:=gb) (k:=n+1) jM (cU (n+1)) fN kE pq rfl rfl (by decide) ?_;intro f bQ A outer s0 H E hr;have hu:=hr.units;have kn:=cm hr;exact (aj (bI (aV cE ba (zqa 1) bj (aM _)) (au (aJ (ao 1))) aK)
 (aj (bI (aV cE ba (zqa 1) bj (aM _)) (aj (iX (i:=3) (aq gb) ["state","plan","many","left"] ["place","plan"] [none,some 1] kE.nd rfl (dz (aa (ao 2) ah) T.zeq) (λY=>⟨(aT (i:=0) (show (["place","plan"]:List Str).Nodup by decide+kernel)),(tU (aV (wQ hu) uS (ao 0) (zqa 1) (by with_unfolding_all rfl))),(ao 0)⟩))
 (au (aJ (bC (aa bj (aa (bH bU bV (zqa 1) (cg br cK (by rfl) T.zfq b_ (aa (ao 3) ah))) ah)))))) aK)
 (aj (bI (aV cE ba (zqa 1) bj (aM _)) (au (aJ (bC (aa bj (aa (zqa 1) (aa (cg br cK (by rfl) T.zfq b_ (aa (p_ (aq gb) ["state","plan","many","left"] ["seen","part","state","many"] [none,none,some 0,some 2] rfl (cO (zqa 1)) (λY=>⟨(tL rfl (eX (aT (i:=0) (show (["seen","part","state","many"]:List Str).Nodup by decide+kernel)) (eX (aT (i:=1) (show (["seen","part","state","many"]:List Str).Nodup by decide+kernel)) oz))),bz,(bC (aa (ao 0) (aa (az (i:=2) fP (rm hr) (aa (ao 1) (aa (ao 3) ah))) ah)))⟩)) ah)) ah)))))) aK)
 (au (aJ (bC (aa (zqa 1) (aa (zqa 1) (aa (az (i:=0) fP (rm hr) (aa (zqa 1) (aa (ao 2) ah))) ah)))))))))
theorem yd (T:mC mg)(aw:Fn P w K mg base "_law_take" 1 ["state","many"] (k_ K 2 ar))(fO:Df K mg "_law_less" jk):∀n,Fn P w K mg base "_law_less" (n+2) ["state","plan","many"] (k_ K 3 (cw n)):=by
 intro n
 induction n with
 |zero=>
  refine Df.fnI (N:=["state","plan","many","ways","at"]) (ps:=["state","plan","many"]) (st:=jk) (k:=1) rz (cI 0) fO iR pz rfl rfl (by decide) ?_;intro f bQ A outer s0 H E hr;have hu:=hr.units;have kn:=cm hr;exact fi
 |succ n jQ=>
  refine Df.fnI (N:=["state","plan","many","ways","at"]) (ps:=["state","plan","many"]) (st:=jk) (k:=n+2) rz (cI (n+1)) fO iR pz rfl rfl (by decide) ?_;intro f bQ A outer s0 H E hr;have hu:=hr.units;have kn:=cm hr;exact (aj (bI (DW.dt (yU (aV cE ba (zqa 1) bj (aM _)) (tJ (aV cE ba (ao 2) ai (aM _))))) (au (aJ (ao 1))) aK)
 (aj (bI (aV cE ba (zqa 1) bj (aM _)) (au (aJ (bC (aa bj (aa (eA eB i9 (zqa 1) gQ (fh (bH bU bV ai (az (i:=0) aw (rm hr) (aa (bH pS l_ (ao 2) ai) ah))))) ah))))) aK)
 (aj (bI (aV cE ba (zqa 1) bj (aM _)) (aj (iI (i:=3) iR.nd (cg xb FY (by rfl) T.zhq ow (aa (zqa 1) ah)))
 (aj (bA (i:=4) iR.nd (az (i:=0) aw (rm hr) (aa (bD c7 dW (by rfl) T.zjq fk (aa (fV 3) ah)) ah)))
 (aj (xj (i:=3) (bC (aa (aL aB aD (aL aB aD (fV 3) (ao 4) (λ_ _=>rfl)) ai (λ_ _=>rfl)) (aa (az (i:=0) jQ (rm hr) (aa (aL aB aD (aL aB aD (fV 3) (ao 4) (λ_ _=>rfl)) ai (λ_ _=>rfl)) (aa (ao 2) ah))) ah))) (ao 4))
 (au (aJ (bC (aa bj (aa (zqa 1) (aa (cg br cK (by rfl) T.zfq b_ (aa (fV 3) ah)) ah))))))))) aK)
 (au (aJ (bC (aa (zqa 1) (aa (zqa 1) (aa (az (i:=0) jQ (rm hr) (aa (zqa 1) (aa (ao 2) ah))) ah)))))))))
def ye (T:mC mg)(bB:Fn P w K mg base "_law_order" 2 ["state","many"] (k_ K 2 bb))(ik:Df K mg "_law_lays" ki):Fn P w K mg base "_law_lays" 3 ["state","many","deep"] (k_ K 3 cV):=by
 refine Df.fnI (N:=["state","many","deep","plan","k"]) (ps:=["state","many","deep"]) (st:=ki) (k:=2) Af lM ik iS xV rfl rfl (by decide) ?_;intro f bQ A outer s0 H E hr;have hu:=hr.units;have kn:=cm hr;exact (aj (bA (i:=3) iS.nd (bC (aa bj (aa (az (i:=0) bB (rm hr) (aa (ao 1) ah)) ah))))
 (aj (lh aac rfl (dz (aa (ao 2) ah) T.zeq) (aT (i:=4) iS.nd)
 (au (bA (i:=3) iS.nd (bC (aa bj (aa (az (i:=0) bB (rm hr) (aa (ao 1) ah)) (aa (ao 3) ah)))))))
 (au (aJ (ao 3)))))
def vI (T:mC mg)(aw:Fn P w K mg base "_law_take" 1 ["state","many"] (k_ K 2 ar))(iU:Fn P w K mg base "_law_drawn" 22 ["state","rows","deep","again"] (k_ K 4 cP))(fP:∀n,Fn P w K mg base "_law_full" (n+1) ["state","plan","many"] (k_ K 3 (cH n)))(iq:Fn P w K mg base "_law_lays" 3 ["state","many","deep"] (k_ K 3 cV))(gr:Df K mg "_law_first" gK):Fn P w K mg base "_law_first" 23 ["state","rows","many"] (k_ K 3 dC):=by
 refine Df.fnI (N:=["state","rows","many","way","ways"]) (ps:=["state","rows","many"]) (st:=gK) (k:=22) kC f7 gr jX vE rfl rfl (by decide) ?_;intro f bQ A outer s0 H E hr;have hu:=hr.units;have kn:=cm hr;exact (aj (bA (i:=3) jX.nd (az (i:=0) aw (rm hr) (aa ai ah)))
 (aj (bI (aV cE ba (ao 3) ai (aM _)) (au (aJ (az (i:=0) iq (rm hr) (aa (ao 2) (aa (az (i:=0) aw (rm hr) (aa ai ah)) ah))))) aK)
 (aj (bI (aV cE ba (ao 3) ai (aM _)) (aj (vY (i:=4) (aq gK) ["state","rows","many","way","ways"] ["card","state","many"] [none,some 0,some 2] jX.nd rfl (dz (aa (bH bU bV ai (az (i:=0) aw (rm hr) (aa ai ah))) ah) T.zeq) (λY=>⟨(aT (i:=0) (show (["card","state","many"]:List Str).Nodup by decide+kernel)),bz,(bC (aa (bC (aa (ao 0) ah)) (aa (az (i:=1) iq (rm hr) (aa (ao 2) (aa (az (i:=1) aw (rm hr) (aa ai ah)) ah))) ah)))⟩))
 (au (aJ (bC (aa bj (aa (bC (aa (az (i:=0) aw (rm hr) (aa (ao 2) ah)) ah)) (aa (cg br cK (by rfl) T.zfq b_ (aa (ao 4) ah)) ah))))))) aK)
 (au (aJ (az (i:=0) (fP 8) (rm hr) (aa (az (i:=0) iU (rm hr) (aa (ao 1) (aa ai (aa (k8 cE ba (az (i:=0) aw (rm hr) (aa ai ah)) ai (aM _)) ah)))) (aa (ao 2) ah))))))))
theorem Ar (T:mC mg)  (gN:Df K mg "_law_put" iO):∀n,Fn P w K mg base "_law_put" (n+1) ["plan","many","more"] (jG K 3 (df n) .S):=by
 intro n
 induction n with
 |zero=>
  refine Df.fnD (N:=["plan","many","more","parts","seen","part"]) (ps:=["plan","many","more"]) (st:=iO) (k:=0) uZ .S (dH 0) gN g9 rC rfl (by decide) ?_;intro f bQ A outer s0 H E hr;have hu:=hr.units;have kn:=cm hr;exact fi
 |succ n gO=>
  refine Df.fnD (N:=["plan","many","more","parts","seen","part"]) (ps:=["plan","many","more"]) (st:=iO) (k:=n+1) uZ .S (dH (n+1)) gN g9 rC rfl (by decide) ?_;intro f bQ A outer s0 H E hr;have hu:=hr.units;have kn:=cm hr;exact (aj (bI (aV cE ba (zqa 0) bj (aM _)) (au (aJ (ao 0))) aK)
 (aj (bI (aV cE ba (zqa 0) bj (aM _)) (au (aJ (k9 (hc:=(aV sW nC (bD c7 dW (by rfl) T.zjq fk (aa (zqa 0) ah)) (ao 1) (aM _))) (ha:=p8) (hb:=(bC (aa bj (aa (zqa 0) (aa (ao 2) ah)))))))) aK)
 (aj (bI (aV cE ba (zqa 0) bj (aM _)) (aj (iX (i:=3) (aq iO) ["plan","many","more","parts","seen","part"] ["seen","part","many","more"] [none,none,some 1,some 2] g9.nd rfl (cO (zqa 0)) (λY=>⟨(tL rfl (eX (aT (i:=0) (show (["seen","part","many","more"]:List Str).Nodup by decide+kernel)) (eX (aT (i:=1) (show (["seen","part","many","more"]:List Str).Nodup by decide+kernel)) oz))),bz,(aY gO (rm hr) (aa (ao 1) (aa (ao 2) (aa (ao 3) ah))))⟩))
 (aj (iX (i:=4) (aq iO) ["plan","many","more","parts","seen","part"] ["way"] [none] g9.nd rfl (cO (zqa 0)) (λY=>⟨(aT (i:=0) (show (["way"]:List Str).Nodup by decide+kernel)),bz,(zqa 0)⟩))
 (au (aJ (k9 (hc:=(aV (BR hu) uS p8 (ao 3) (by with_unfolding_all rfl))) (ha:=p8) (hb:=(bC (aa bj (aa (zqa 0) (aa (EI rfl (aa (ao 4) (aa (ao 3) ah)) T.zfq T.zlq) ah)))))))))) aK)
 (aj (bA (i:=5) g9.nd (aY gO (rm hr) (aa (zqa 0) (aa (ao 1) (aa (ao 2) ah)))))
 (au (aJ (k9 (hc:=(aV Fb Cs (ao 5) p8 (aM _))) (ha:=p8) (hb:=(bC (aa (zqa 0) (aa (zqa 0) (aa (ao 5) ah))))))))))))
theorem u3 (T:mC mg)  (d8:Df K mg "_law_extent" dg):∀n,Fn P w K mg base "_law_extent" (n+1) ["plan"] (jG K 1 (bF n) .S):=by
 intro n
 induction n with
 |zero=>
  refine Df.fnD (N:=["plan","parts","found"]) (ps:=["plan"]) (st:=dg) (k:=0) mY .S (eZ 0) d8 eF lQ rfl (by decide) ?_;intro f bQ A outer s0 H E hr;have hu:=hr.units;have kn:=cm hr;exact fi
 |succ n fc=>
  refine Df.fnD (N:=["plan","parts","found"]) (ps:=["plan"]) (st:=dg) (k:=n+1) mY .S (eZ (n+1)) d8 eF lQ rfl (by decide) ?_;intro f bQ A outer s0 H E hr;have hu:=hr.units;have kn:=cm hr;exact (aj (bI (aV (BR hu) uS (zqa 0) (bC (aa bj (aa bj ah))) (by with_unfolding_all rfl)) (au (aJ (bC (aa ai (aa ai ah))))) aK)
 (aj (bA (i:=1) eF.nd (gz (aa (zqa 0) ah)))
 (aj (bI (aV cE ba (zqa 0) bj (aM _)) (au (iX (i:=1) (aq dg) ["plan","parts","found"] ["way"] [none] eF.nd rfl (cO (zqa 0)) (λY=>⟨(aT (i:=0) (show (["way"]:List Str).Nodup by decide+kernel)),bz,(zqa 0)⟩))) aK)
 (aj (iX (i:=2) (aq dg) ["plan","parts","found"] ["part"] [none] eF.nd rfl (cO (ao 1)) (λY=>⟨(aT (i:=0) (show (["part"]:List Str).Nodup by decide+kernel)),bz,(aY fc (rm hr) (aa (ao 0) ah))⟩))
 (au (aJ (bC (aa (bH bU bV ai (bD (qj rfl) uP (by rfl) T.zmq Bk (aa (fm (aq dg) ["plan","parts","found"] ["one"] [none] rfl (cO (ao 2)) (λY=>⟨(aT (i:=0) (show (["one"]:List Str).Nodup by decide+kernel)),bz,(zqa 0)⟩)) ah))) (aa (bH bU bV ai (bD (EB rfl) HD (by rfl) T.zkq Fz (aa (fm (aq dg) ["plan","parts","found"] ["one"] [none] rfl (cO (ao 2)) (λY=>⟨(aT (i:=0) (show (["one"]:List Str).Nodup by decide+kernel)),bz,(zqa 0)⟩)) ah))) ah)))))))))
def As (T:mC mg)(gO:∀n,Fn P w K mg base "_law_put" (n+1) ["plan","many","more"] (jG K 3 (df n) .S))(fc:∀n,Fn P w K mg base "_law_extent" (n+1) ["plan"] (jG K 1 (bF n) .S))(jA:Df K mg "_law_due" mB):Fn P w K mg base "_law_due" 32 ["plan","many","more"] (jG K 3 eE .S):=by
 refine Df.fnD (N:=["plan","many","more","found","count","deep"]) (ps:=["plan","many","more"]) (st:=mB) (k:=31) BW .S gH jA jO Am rfl (by decide) ?_;intro f bQ A outer s0 H E hr;have hu:=hr.units;have kn:=cm hr;exact (aj (bA (i:=3) jO.nd (aY (gO 20) (rm hr) (aa (ao 0) (aa (ao 1) (aa (ao 2) ah)))))
 (aj (bI (aV Fb Cs (ao 3) p8 (aM _)) (au (aJ bj)) aK)
 (aj (NR (aY (fc 30) (rm hr) (aa (ao 3) ah)) (tL rfl (eX (aT (i:=4) jO.nd) (eX (aT (i:=5) jO.nd) oz))))
 (au (aJ (k9 (hc:=(DW.dt (yU (aV sX nD (ao 4) ai (aM _)) (tJ (aV sX nD (ao 5) ai (aM _)))))) (ha:=bj) (hb:=(ao 3))))))))
def OF (T:mC mg){cX cY:Ye}(XT:vz K mg cX "TooMany" MS)(XP:vz K mg cY "NoPlan" MP)(FL:Jc K "law" "law" Ah f fd)(eG:Df K mg "plans_within" dZ)(ic:Df K mg "levels_of" iZ)(ju:Df K mg "plans_in" jg)(fG:Df K mg "with_more" fE)(dh:Df K mg "tells_all_places" cN)(eH:Df K mg "is_too_great" fF)(gL:Df K mg "followed" dP)(eJ:Df K mg "_law_cell_at" gI)(gm:Df K mg "_law_state" i0)(ie:Df K mg "_law_take" kh)(jw:Df K mg "_law_row" jN)(gp:Df K mg "_law_order" gJ)(ig:Df K mg "_law_laid" jh)(eK:Df K mg "_law_shuffle" cW)(jx:Df K mg "_law_end" my)(fI:Df K mg "_law_look" e_)(fJ:Df K mg "_law_plan" f9)(fK:Df K mg "_law_size" g6)(gq:Df K mg "_law_drawn" i4)(lU:Df K mg "_law_mark" ji)(ij:Df K mg "_law_rows" jj)(fM:Df K mg "_law_same" g7)(fN:Df K mg "_law_full" gb)(fO:Df K mg "_law_less" jk)(ik:Df K mg "_law_lays" ki)(gr:Df K mg "_law_first" gK)(gN:Df K mg "_law_put" iO)(d8:Df K mg "_law_extent" dg)(jA:Df K mg "_law_due" mB)(lV:Df K mg "_law_told" kj)(hp:∀ns:List Int,ns.length<=63->Ag [.scr (ns.map .int)]=.ok (.bl true)):j3 P w K mg base vR 72 f fd ["script"] (yY K):=by
 have jt:=r6 (P:=P) (w:=w) (base:=base) T  eG;have dE:=xX (P:=P) (w:=w) (base:=base) T jt ic;have nZ:=An (P:=P) (w:=w) (base:=base) T dE ju;have eI:=xY (P:=P) (w:=w) (base:=base) T  fG;have d0:=mO (P:=P) (w:=w) (base:=base) T dE dh;have gj:=r9 (P:=P) (w:=w) (base:=base) T dE nZ eH;have B8:=Ao (P:=P) (w:=w) (base:=base) T eI d0 gj gL;have jv:=r_ (P:=P) (w:=w) (base:=base) T  eJ;have yx:=vF (P:=P) (w:=w) (base:=base) T jv gm;have aw:=xZ (P:=P) (w:=w) (base:=base) T  ie;have n6:=Ap (P:=P) (w:=w) (base:=base) T aw jw;have bB:=vG (P:=P) (w:=w) (base:=base) T aw gp;have fH:=x8 (P:=P) (w:=w) (base:=base) T  ig;have jz:=sd (P:=P) (w:=w) (base:=base) T aw bB eK;have jy:=Aq (P:=P) (w:=w) (base:=base) T aw bB jx;have pQ:=x9 (P:=P) (w:=w) (base:=base) T aw bB fH jy jz fI fJ;have rK:=λn=>(pQ n).1;have eL:=λn=>(pQ n).2;have fL:=x_ (P:=P) (w:=w) (base:=base) T  fK;have iU:=vH (P:=P) (w:=w) (base:=base) T eL fL gq;have AS:=ya (P:=P) (w:=w) (base:=base) T aw n6 ij;have lW:=yb (P:=P) (w:=w) (base:=base) T  fM;have fP:=yc (P:=P) (w:=w) (base:=base) T  fN;have jQ:=yd (P:=P) (w:=w) (base:=base) T aw fO;have iq:=ye (P:=P) (w:=w) (base:=base) T bB ik;have yy:=vI (P:=P) (w:=w) (base:=base) T aw iU fP iq gr;have gO:=Ar (P:=P) (w:=w) (base:=base) T  gN;have fc:=u3 (P:=P) (w:=w) (base:=base) T  d8;have B9:=As (P:=P) (w:=w) (base:=base) T gO fc jA;have AU:=KJ (P:=P) (w:=w) (base:=base) T XT XP d0 (eI 20) gj B8 gL lU lV;refine NZ (f:=Ag) ?_ hp;refine Jc.okD (N:=["script","k","state","rows","many","plan","more"]) (ps:=["script"]) (st:=Ah) (k:=71) Q1 .S HM FL kG rfl (by decide) ?_;intro f bQ A outer s0 H E hr;have hu:=hr.units;have kn:=cm hr;exact (aj (lh aac rfl (dz (aa (bD (D0 rfl) FZ (by rfl) T.zkq Fz (aa ai (aa (bD (vM rfl) y_ (by rfl) T.ziq FA (aa (bD c7 dW (by rfl) T.zjq fk (aa (ao 0) ah)) (aa ai ah))) ah))) ah) T.zeq) (aT (i:=1) kG.nd)
 (aj (iI (i:=2) kG.nd (aY yx (rm hr) (aa (ao 0) (aa (ao 1) ah))))
 (aj (bA (i:=3) kG.nd (az (i:=2) AS (rm hr) (aa ai ah)))
 (aj (bA (i:=4) kG.nd (bD c7 dW (by rfl) T.zjq fk (aa (zqa 3) ah)))
 (aj (bA (i:=5) kG.nd (az (i:=2) yy (rm hr) (aa (ao 3) (aa (ao 4) ah))))
 (aj (bI (aV cE ba (az (i:=2) aw (rm hr) (aa ai ah)) ai (aM _)) (au (bA (i:=5) kG.nd (az (i:=2) (jQ 20) (rm hr) (aa (ao 5) (aa (ao 4) ah))))) aK)
 (aj (bA (i:=6) kG.nd (az (i:=2) iU (rm hr) (aa (ao 3) (aa ai (aa (k8 cE ba (az (i:=2) aw (rm hr) (aa ai ah)) ai (aM _)) ah)))))
 (aj (bI (aV cE ba (az (i:=2) aw (rm hr) (aa ai ah)) ai (aM _)) (au (bA (i:=6) kG.nd (az (i:=2) iq (rm hr) (aa (ao 4) (aa (az (i:=2) aw (rm hr) (aa ai ah)) ah))))) aK)
 (au (bI (tK (jT (aY (lW 70) (rm hr) (aa (aY AU (rm hr) (aa (ao 4) (aa (ao 5) (aa (ao 6) ah)))) (aa (aY B9 (rm hr) (aa (ao 5) (aa (ao 4) (aa (ao 6) ah)))) ah))))) (au (aJ qC)) aK))))))))))
 (au (aJ qC)))
end
inductive mP (K:XX)(x:Str)(st:ab7):Prop
 |mk {f:Ye} {od an:Option Ye} {sl:Array (Option XY)} {oc kV dc pm cd ct:XY}:YS K YC x=some (some (.ref f))->K.lookup f=some ⟨oc,od,.func (Zu x x (ff st) (cJ st) (aq st) .none kV dc pm an cd ct),sl⟩->acr K cd x=true->Zn K (.ref f)=true->mP K x st
theorem dj (q:mP K x st)(X:K.In h)(G:h.Ns YC mg):Df K mg x st:=by
 obtain⟨a,l,c,k⟩:=q;exact⟨_,_,YW X G a,Ft (st:=st) l c k⟩
theorem all_mk {w:Y6}{fa:Ye}(X:K.In h)(G:h.Ns YC mg)(W2:mg "law"=some (.ref fa))(q0:mP K "plans_within" dZ)(q1:mP K "levels_of" iZ)(q2:mP K "plans_in" jg)(q3:mP K "with_more" fE)(q4:mP K "tells_all_places" cN)(q5:mP K "is_too_great" fF)(q6:mP K "followed" dP)(q7:mP K "_law_cell_at" gI)(q8:mP K "_law_state" i0)(q9:mP K "_law_take" kh)(W3:mP K "_law_row" jN)(W4:mP K "_law_order" gJ)(W5:mP K "_law_laid" jh)(W6:mP K "_law_shuffle" cW)(W7:mP K "_law_end" my)(W8:mP K "_law_look" e_)(W9:mP K "_law_plan" f9)(W_:mP K "_law_size" g6)(Xa:mP K "_law_drawn" i4)(Xb:mP K "_law_mark" ji)(Xc:mP K "_law_rows" jj)(Xd:mP K "_law_same" g7)(Xe:mP K "_law_full" gb)(Xf:mP K "_law_less" jk)(Xg:mP K "_law_lays" ki)(Xh:mP K "_law_first" gK)(Xi:mP K "_law_put" iO)(Xj:mP K "_law_extent" dg)(Xk:mP K "_law_due" mB)(Xl:mP K "_law_told" kj)(Xm:mP K "law" Ah)(znq:YS K YC "all"=some none)(zgq:YS K YC "bool"=some none)(zpq:YS K YC "int"=some none)(zbq:YS K YC "isinstance"=some none)(zjq:YS K YC "len"=some none)(zhq:YS K YC "list"=some none)(zkq:YS K YC "max"=some none)(ziq:YS K YC "min"=some none)(zeq:YS K YC "range"=some none)(zoq:YS K YC "set"=some none)(zdq:YS K YC "sorted"=some none)(zmq:YS K YC "sum"=some none)(zfq:YS K YC "tuple"=some none)(zlq:YS K YC "zip"=some none){nh:Tok}(zcq:YS K YC "MOST_PLANS"=some (some (.int 60 nh))){lX:Tok}(zaq:YS K YC "MOST_WITHIN"=some (some (.int 12 lX))){cf:Ye}(lY:YS K YC "NoPlan"=some (some (.ref cf))){yz:Ye}(sP:YS K YC "NoWay"=some (some (.ref yz))){yA:Ye}(sQ:YS K YC "NoEnd"=some (some (.ref yA))){lZ:Ye}(jR:YS K YC "NoFormula"=some (some (.ref lZ))){bO:Ye}(ko:YS K YC "TooMany"=some (some (.ref bO))){vd:Ye}(pR:YS K YC "NoName"=some (some (.ref vd))){qu:Ye}(mH:YS K YC "BadNote"=some (some (.ref qu))){l4:Ye}(jS:YS K YC "CardError"=some (some (.ref l4)))(DM:YS K YC "ValueError"=some none)(IV:PySem.W.excIn K bO zm "ValueError.__new__"=true)(Pe:ZQ K (.ref bO) "__getattribute__"=some (some (.builtin "BaseException.__getattribute__")))(Pf:ZQ K (.ref bO) "__getattr__"=some none)(Pg:ZQ K (.ref bO) "__class__"=some (some (.builtin "object.__class__")))(Ln:adz K (.builtin "object.__class__") "__get__"=some (some (.builtin "getset_descriptor.__get__")))(Lo:PySem.W.takesIn K (.builtin "object.__class__")=some true)(Lp:acJ K bO (.type "object")=some true)(Ph:acJ K bO (.type "BaseException")=some true)(B_:PySem.W.exmOne K (.ref bO) (.ref l4)=some true)(Pj:Y1 K (.ref bO) (.type "ValueError")=some true)(vf:Y1 K (.ref bO) (.ref cf)=some false)(yB:Y1 K (.ref bO) (.ref yz)=some false)(yC:Y1 K (.ref bO) (.ref yA)=some false)(l5:Y1 K (.ref bO) (.ref lZ)=some false)(qv:Y1 K (.ref bO) (.ref bO)=some true)(vg:Y1 K (.ref bO) (.ref vd)=some false)(qw:Y1 K (.ref bO) (.ref qu)=some false)(Ca:PySem.W.excIn K cf zm "ValueError.__new__"=true)(IW:ZQ K (.ref cf) "__getattribute__"=some (some (.builtin "BaseException.__getattribute__")))(IX:ZQ K (.ref cf) "__getattr__"=some none)(IY:ZQ K (.ref cf) "__class__"=some (some (.builtin "object.__class__")))(DP:acJ K cf (.type "object")=some true)(IZ:acJ K cf (.type "BaseException")=some true)(yD:PySem.W.exmOne K (.ref cf) (.ref l4)=some true)(I_:Y1 K (.ref cf) (.type "ValueError")=some true)(qx:Y1 K (.ref cf) (.ref cf)=some true)(vh:Y1 K (.ref cf) (.ref yz)=some false)(vi:Y1 K (.ref cf) (.ref yA)=some false)(kJ:Y1 K (.ref cf) (.ref lZ)=some false)(n8:Y1 K (.ref cf) (.ref bO)=some false)(qy:Y1 K (.ref cf) (.ref vd)=some false)(n9:Y1 K (.ref cf) (.ref qu)=some false)(hp:∀ns:List Int,ns.length<=63->Ag [.scr (ns.map .int)]=.ok (.bl true))
  : ∃fd:aa9,(∀(s:Ya) (v:XY),BindsTo s fd ⟨[v],[]⟩ [("script",v)])/\∀base:Z9,K.In base->base.Ns YC mg->j3 PySem.Challenge.pw_hushcards_k51_one_plan_behind_another w K mg base vR 72 fa fd ["script"] (yY K):=by
 obtain @⟨f_,od_,an30,sl_,oc_,kV30,dc30,pm30,cd30,ct30,a30,l30,c30,k30⟩:=Xm;have e:=W2.symm.trans (YW X G a30);cases e;have T:mC mg:=⟨YN X G znq,YN X G zgq,YN X G zpq,YN X G zbq,YN X G zjq,YN X G zhq,YN X G zkq,YN X G ziq,YN X G zeq,YN X G zoq,YN X G zdq,YN X G zmq,YN X G zfq,YN X G zlq,⟨_,YW X G zcq⟩,⟨_,YW X G zaq⟩⟩;have eG:=dj q0 X G;have ic:=dj q1 X G;have ju:=dj q2 X G;have fG:=dj q3 X G;have dh:=dj q4 X G;have eH:=dj q5 X G;have gL:=dj q6 X G;have eJ:=dj q7 X G;have gm:=dj q8 X G;have ie:=dj q9 X G;have jw:=dj W3 X G;have gp:=dj W4 X G;have ig:=dj W5 X G;have eK:=dj W6 X G;have jx:=dj W7 X G;have fI:=dj W8 X G;have fJ:=dj W9 X G;have fK:=dj W_ X G;have gq:=dj Xa X G;have lU:=dj Xb X G;have ij:=dj Xc X G;have fM:=dj Xd X G;have fN:=dj Xe X G;have fO:=dj Xf X G;have ik:=dj Xg X G;have gr:=dj Xh X G;have gN:=dj Xi X G;have d8:=dj Xj X G;have jA:=dj Xk X G;have lV:=dj Xl X G;have FL:=Ft (st:=Ah) l30 c30 k30;refine⟨Zu "law" "law" (ff Ah) (cJ Ah) (aq Ah) .none kV30 dc30 pm30 an30 cd30 ct30,λs v=>.of_eq rfl,λbase _ _=>?_⟩;have XT:vz K mg bO "TooMany" MS:=⟨YW X G ko,IV,⟨Gv Lp,Pe,Pf,Pg,Ln,Lo,Lp,Ph⟩,⟨_,YW X G jS,B_⟩,Pj,YN X G DM,by
  intro p hp;simp only[MS,Yb,aaK,or_false] at hp;rcases hp with rfl|rfl|rfl|rfl|rfl|rfl|rfl
  ·exact⟨_,YW X G lY,vf⟩
  ·exact⟨_,YW X G sP,yB⟩
  ·exact⟨_,YW X G sQ,yC⟩
  ·exact⟨_,YW X G jR,l5⟩
  ·exact⟨_,YW X G ko,qv⟩
  ·exact⟨_,YW X G pR,vg⟩
  ·exact⟨_,YW X G mH,qw⟩⟩
 have XP:vz K mg cf "NoPlan" MP:=⟨YW X G lY,Ca,⟨Gv DP,IW,IX,IY,Ln,Lo,DP,IZ⟩,⟨_,YW X G jS,yD⟩,I_,YN X G DM,by
  intro p hp;simp only[MP,Yb,aaK,or_false] at hp;rcases hp with rfl|rfl|rfl|rfl|rfl|rfl|rfl
  ·exact⟨_,YW X G lY,qx⟩
  ·exact⟨_,YW X G sP,vh⟩
  ·exact⟨_,YW X G sQ,vi⟩
  ·exact⟨_,YW X G jR,kJ⟩
  ·exact⟨_,YW X G ko,n8⟩
  ·exact⟨_,YW X G pR,qy⟩
  ·exact⟨_,YW X G mH,n9⟩⟩
 exact OF (P:=PySem.Challenge.pw_hushcards_k51_one_plan_behind_another) (w:=w) (base:=base) T XT XP FL eG ic ju fG dh eH gL eJ gm ie jw gp ig eK jx fI fJ fK gq lU ij fM fN fO ik gr gN d8 jA lV hp
end Hc
namespace Hc
open L2
end Hc
namespace Hc
open L2
def MF {f:Bool->Bool}{u w:U}:cx f u w=(Oz u w).bind λb=>.ok (.bl (f b)):=nr rfl
def bh {a b:Int}:Oz (.int a) (.int b)=.ok (a==b):=nr rfl
def u4 {a b:Bool}:Oz (.bl a) (.bl b)=.ok (a==b):=nr rfl
def aN {a b:Str}:Oz (.str a) (.str b)=.ok (a==b):=nr rfl
def bJ:type_of% @X5.{0,0}/\type_of% @aaa.{0,0}/\type_of% @X1.{0}/\type_of% @aaC.{0}/\type_of% @List.cons_append.{0}/\type_of% @ZH.{0}/\type_of% @List.replicate_succ.{0}/\type_of% @List.replicate_zero.{0}/\type_of% @List.getElem?_cons_zero.{0}/\type_of% @Zj.{0}/\type_of% @Yo.{0}/\type_of% @Yt.{0}/\type_of% @acF.{0}/\type_of% @acB.{0}/\type_of% @if_true.{1}/\type_of% @if_false.{1}/\type_of% @Yj/\type_of% @LM/\type_of% @aaq/\type_of% @abd/\type_of% @MF/\type_of% @bh/\type_of% @u4/\type_of% @aN:=
 ⟨@X5.{0,0},@aaa.{0,0},@X1.{0},@aaC.{0},@List.cons_append.{0},@ZH.{0},@List.replicate_succ.{0},@List.replicate_zero.{0},@List.getElem?_cons_zero.{0},@Zj.{0},@Yo.{0},@Yt.{0},@acF.{0},@acB.{0},@if_true.{1},@if_false.{1},@Yj,@LM,@aaq,@abd,@MF,@bh,@u4,@aN⟩
end Hc
namespace Hc
open L2
def NS:(0:Nat)<=XU/\(1:Nat)<=XU/\(2:Nat)<=XU/\(3:Nat)<=XU/\(4:Nat)<=XU/\(5:Nat)<=XU/\(6:Nat)<=XU/\(10:Nat)<=XU/\(16:Nat)<=XU/\(18:Nat)<=XU/\(22:Nat)<=XU:=by decide
def Pzz:type_of% @av∧type_of% @bJ∧type_of% @NS:=⟨@av,@bJ,@NS⟩
theorem cb {α:Type}{f:U->R (Option U)}{c g:α->U}:∀{xs:List α},(∀x∈xs,f (c x)=.ok (some (g x)))->lq f (xs.map c)=.ok (xs.map g)
 | [],_=>rfl
 |x::xs,h=>by
  rw[X5,X5];unfold lq;rw[h x X2];show (lq f (xs.map c)).bind _=_;rw[cb λy hy=>h y (X4 _ hy)];rfl
def HU:fW (.lst us) [.lst ws]=if us.length+ws.length<=XU then .ok (.non,.lst (us++ws)) else .stk:=nr rfl
theorem gc (us:List U)(k:Nat):ku us none (some (k:Int))=us.take k:=by
 unfold ku;rw[HT.sIx_none,HT.sIx_nat,acs,Nat.sub_zero];rcases adb k us.length with h|h
 ·rw[ZF h]
 ·rw[Nat.min_eq_right h,aam,ZA h]
theorem pA (us:List U)(k:Nat):ku us (some (k:Int)) none=us.drop k:=by
 unfold ku;rw[HT.sIx_none,HT.sIx_nat];rcases adb k us.length with h|h
 ·rw[ZF h,ZA (by rw[YR];lia)]
 ·rw[Nat.min_eq_right h,abD,List.drop_of_length_le h,List.take_nil]
def jn (s:U):Prop:=∃v b,s=.lst [.int v,.bl b]/\0<=v/\(b=false->v<2147483647)
theorem bK {s:U}{m:Int}(h:jn s)(h0:0<m)(h1:m<18446744073709551616):∃r s',ar [s,.int m]=.ok (.int r,s')/\0<=r/\r<m/\jn s':=by
 obtain⟨v,b,rfl,hv,hb⟩:=h;cases b with
 |true=>
  refine⟨v % m,.lst [.int (v / m),.bl true],?_,abn _ (by lia),aaP _ h0,v / m,true,rfl,Int.ediv_nonneg hv (by lia),λh=>nomatch h⟩;simp only[Pzz,bx,Nat.reduceAdd,Nat.reduceSub,ar,jJ,hJ h0,xr h0 h1,C0]
 |false=>
  have g1:0<=(v*48271+29) % 2147483647:=abn _ (by decide);have g2:(v*48271+29) % 2147483647<2147483647:=aaP _ (by decide);have c1:oF v 48271=true:=Od (by decide) (by decide);have d1:decide ((0:Int)<2147483647)=true:=by decide
  have d2:decide ((0:Int)<2147483629)=true:=by decide
  have d3:decide ((0:Int)<2147483587)=true:=by decide
  have e8:Bs (((((v*48271+29) % 2147483647)*((v*48271+29) % 2147483647)+39373*((v*48271+29) % 2147483647)+7) % 2147483629*((((v*48271+29) % 2147483647)*((v*48271+29) % 2147483647)+39373*((v*48271+29) % 2147483647)+7) % 2147483629)+16807*((((v*48271+29) % 2147483647)*((v*48271+29) % 2147483647)+39373*((v*48271+29) % 2147483647)+7) % 2147483629)) % 2147483587) 8=true:=xr (by decide) (by decide);have c2:oF ((v*48271+29) % 2147483647) ((v*48271+29) % 2147483647)=true:=qe g1 (by lia);have c3:oF 39373 ((v*48271+29) % 2147483647)=true:=qe (by decide) (by decide);generalize hs:(v*48271+29) % 2147483647=s1 at *;have g3:0<=(s1*s1+39373*s1+7) % 2147483629:=abn _ (by decide);have g4:(s1*s1+39373*s1+7) % 2147483629<2147483629:=aaP _ (by decide);have c4:oF ((s1*s1+39373*s1+7) % 2147483629) ((s1*s1+39373*s1+7) % 2147483629)=true:=qe g3 (by lia);have c5:oF 16807 ((s1*s1+39373*s1+7) % 2147483629)=true:=qe (by decide) (by decide);refine⟨((s1*s1+39373*s1+7) % 2147483629*((s1*s1+39373*s1+7) % 2147483629)+16807*((s1*s1+39373*s1+7) % 2147483629)) % 2147483587 / 8 % m,.lst [.int s1,.bl false],?_,abn _ (by lia),aaP _ h0,s1,false,rfl,g1,λ_=>g2⟩
  ·simp only[Pzz,bx,Nat.reduceAdd,Nat.reduceSub,ar,jJ,hJ h0,c1,d1,d2,d3,hs,c2,c3,c4,c5,e8,C0]
theorem HV {us:List U}{k:Int}(hu:u=.scr (ns.map .int)\/u=.lst (ns.map .int))(h0:0<=k):∃s,dY [u,.int k]=.ok s/\jn s:=by
 obtain⟨k,rfl⟩:∃n:Nat,k=n:=⟨k.toNat,(by lia)⟩;have wU:∃c:Int,dO [u,.int k]=.ok (.int c):=by
  by_cases hk:k<ns.length
  ·refine⟨ns[k],?_⟩;have d:decide ((k:Int)<((ns.map U.int).length:Nat))=true:=by rw[XO];exact hJ (by lia)
   have e:mS (ns.map U.int) (k:Int)=some (.int ns[k]):=by rw[uc,Yq,XN hk];rfl
   rcases hu with rfl|rfl<;>simp only[Pzz,bx,Nat.reduceAdd,Nat.reduceSub,dO,f6,d,e]
  ·refine⟨0,?_⟩;have d:decide ((k:Int)<((ns.map U.int).length:Nat))=false:=by rw[XO];exact hU (by lia)
   rcases hu with rfl|rfl<;>simp only[Pzz,bx,Nat.reduceAdd,Nat.reduceSub,dO,f6,d]
 obtain⟨c,hc⟩:=wU;have VE:JX 10 18=true:=by decide
 have VF:(10:Int) ^ (18:Int).toNat=1000000000000000000:=by decide
 have dm:decide ((0:Int)<2147483647)=true:=by decide
 by_cases h:1000000000000000000<=c
 ·refine⟨.lst [.int (c-1000000000000000000),.bl true],?_,_,true,rfl,(by lia),λh=>nomatch h⟩;simp only[Pzz,bx,Nat.reduceAdd,Nat.reduceSub,dY,iM,hc,VE,VF,hJ h,hZ]
 ·refine⟨.lst [.int (c % 2147483647),.bl false],?_,_,false,rfl,abn _ (by decide),λ_=>aaP _ (by decide)⟩;simp only[Pzz,bx,Nat.reduceAdd,Nat.reduceSub,dY,iM,hc,VE,VF,hU h,dm,hZ]
theorem u5 {α:Type}:∀(l:List α) (i:Nat) (h:i<l.length),(l[i]::l.eraseIdx i).Perm l
 |x::l,0,_=>ZE _
 |x::l,i+1,h=>by
  have h':i<l.length:=by simpa using h
  show (l[i]::x::l.eraseIdx i).Perm (x::l);exact (List.Perm.swap _ _ _).trans (List.Perm.cons x (u5 l i h'))
theorem pB {α β:Type}(f:α->β):∀(l:List α) (i:Nat),(l.map f).eraseIdx i=(l.eraseIdx i).map f
 | [],_=>rfl
 |_::_,0=>rfl
 |x::l,i+1=>by
  show f x::(l.map f).eraseIdx i=f x::(l.eraseIdx i).map f;rw[pB f l i]
theorem OG {k:Int}{y:U}(h1:adC k us.length=some j)(h2:us[j]? = some y)(h3:0<=k)(h4:k<1000000000):qb (.lst us) [.int k]=.ok (y,.lst (us.eraseIdx j)):=by
 unfold qb;dsimp only;rw[hZ (by lia),h1];dsimp only;rw[h2]
def pD (n:Nat)(os:List Int):Prop:=os.Perm (a_ n)
theorem jo {s:U}(h:jn s)(h1:m<=1000):∃(os:List Int) (s':U),bb [s,.int m]=.ok (.tup (os.map .int),s')/\pD m os/\jn s':=by
 obtain⟨ys,⟨left,s'⟩,e,l,os,hr,hp,hs'⟩:=ke (G:=kz) (js:=[none,some 2,some 0]) (sg:=cA 0) (ge:=gM "list" 1 qb (ae (dw 2 2 ar (ae (fg gw (ae (af 1) ak)) ak)) ak))
  (λx:List Int×U=>[some x.2,some (.int m),some (.lst (x.1.map .int))]) m (λys x=>∃os:List Int,ys=os.map .int/\(os++x.1).Perm (a_ m)/\jn x.2)
  (λdone u x hd h00=>by
   obtain⟨os,hr,hp,hs⟩:=h00;obtain⟨left,s⟩:=x;have hl:0<left.length:=by
    have:=hp.length_eq;rw[XW,fo] at this;have h2:done.length=os.length:=by rw[hr,XO]
    dsimp only at this;lia
   have IG:left.length<=m:=by
    have:=hp.length_eq;rw[XW,fo] at this;dsimp only at this;lia
   obtain⟨r,s',b1,b2,b3,b4⟩:=bK (m:=left.length) hs (by lia) (by lia);obtain⟨k,rfl⟩:∃n:Nat,r=n:=⟨r.toNat,(by lia)⟩;have hk:k<left.length:=(by lia)
   refine⟨[some u,some (.lst (left.map .int)),some s],.int left[k],[some u,some (.lst ((left.eraseIdx k).map .int)),some s'],(left.eraseIdx k,s'),rfl,?_,rfl,os++[left[k]],by rw[hr,Yv];rfl,?_,b4⟩
   ·have hx:adC (k:Int) (left.map U.int).length=some k:=by
     unfold adC;rw[XO];simp;lia
    have hy:(left.map U.int)[k]? = some (.int left[k]):=by rw[Yq,XN hk];rfl
    have pp:=OG hx hy (by lia) (by lia);rw[pB] at pp;simp only[Pzz,bx,Nat.reduceAdd,Nat.reduceSub,XO,b1,pp]
   ·rw[Yi];refine List.Perm.trans (Zh os ?_) hp;exact u5 left k hk) (aO 0 m) [] (a_ m,s) (by rw[bo];simp) ⟨[],rfl,ZE _,h⟩
 rw[bo] at l;have ln:os.length=m:=by
  have:=congrArg Z2 hr;rw[ZH,XO] at this;lia
 have le:left=[]:=by
  have:=hp.length_eq;rw[XW,fo] at this;dsimp only at this;exact ZK (by lia)
 subst le;rw[Yu] at hp;rw[ZH] at hr;dsimp only at e;refine⟨os,s',?_,hp,hs'⟩;rw[hr] at e;simp only[Pzz,bx,Nat.reduceAdd,Nat.reduceSub,bb,kA,iw m (by lia),Kl m (by lia),fY] at e ⊢;simp only[Pzz,bx,Nat.reduceAdd,Nat.reduceSub,e]
noncomputable def tO (os:List Int):U:=.tup (os.map .int)
def pE (n:Nat):aO 0 n=(YF n).map λi=>U.int (i:Nat):=by
 rw[fY];unfold a_;rw[Yd];rfl
def Au (n:Nat):a_ (n+1)=a_ n++[(n:Int)]:=by
 unfold a_;rw[List.range_succ,Yv];rfl
def Av (h:z<=m):(a_ m).take z=a_ z:=by
 unfold a_;rw[←abx,List.take_range,ZF h]
def KL (us:List U)(a b:Nat)(h:a<=b)(h2:b<=us.length):ku us (some (a:Int)) (some (b:Int))=(us.drop a).take (b-a):=by
 unfold ku;rw[HT.sIx_nat,HT.sIx_nat,ZF h2,ZF (YX h h2)]
noncomputable def OH:Nat->Nat
 |0=>1
 |n+1=>OH n*(n+1)
def HW (h:os.Perm (a_ k)):(os.take j++[(k:Int)]++os.drop j).Perm (a_ (k+1)):=by
 rw[Au,Yi];refine (Zi).trans ?_;rw[Yi];have:(os.drop j++os.take j).Perm (a_ k):=(Zi).trans (by rw[YJ];exact h);exact ((Zh [(k:Int)] this)).trans Zi
theorem KN {a b c d e f g:Option U}{oss:List (List Int)}(hk:k<=8)(hl:oss.length<=1000)(hp:∀os∈oss,os.Perm (a_ k))(v4:Option U) :
  ∃(ls:List (List Int)) (v4':Option U),jH (cA 4) (iD (gM "list" 9 fW (ae (eh (fA (ae (aI di (af 8) (zqc 1)) ak)) [none,some 4,some 8] (cA 0) bY (aI di (aI di (qD oG (af 1) d5 (dJ (af 0))) (bu (ae (af 2) ak))) (qD oG (af 1) (dJ (af 0)) d5))) ak))) (oss.map tO)
   [a,b,c,d,v4,e,f,g,some (.int k),some (.lst [])]=.nx [a,b,c,d,v4',e,f,g,some (.int k),some (.lst (ls.map tO))]/\ls.length=oss.length*(k+1)/\∀os∈ls,os.Perm (a_ (k+1)):=by
 obtain⟨ρ',e1,ls,v,e2,l2,p2⟩:=gF (us:=oss.map tO) (sg:=cA 4) (s:=iD (gM "list" 9 fW (ae (eh (fA (ae (aI di (af 8) (zqc 1)) ak)) [none,some 4,some 8] (cA 0) bY (aI di (aI di (qD oG (af 1) d5 (dJ (af 0))) (bu (ae (af 2) ak))) (qD oG (af 1) (dJ (af 0)) d5))) ak)))
  (λi ρ=>∃(ls:List (List Int)) (v:Option U),ρ=[a,b,c,d,v,e,f,g,some (.int k),some (.lst (ls.map tO))]/\ls.length=i*(k+1)/\∀os∈ls,os.Perm (a_ (k+1)))
  (λi u ρ hu h00=>by
   obtain⟨ls,v,hr,IG,IS⟩:=h00;subst hr;rw[Yq] at hu;cases ho:oss[i]? with
   |none=>rw[ho] at hu;cases hu
   |some os=>
    rw[ho] at hu;cases hu;have Jk:=hp os (YA ho);have lo:os.length=k:=by have:=Jk.length_eq;rwa [fo] at this
    have hi:i<oss.length:=by
     rcases aaO i oss.length with z|z
     ·exact z
     ·rw[ZD.mpr z] at ho;cases ho
    have sz:XU=16777216:=rfl;have e0:lq (og [none,some 4,some 8] (cA 0) bY (aI di (aI di (qD oG (af 1) d5 (dJ (af 0))) (bu (ae (af 2) ak))) (qD oG (af 1) (dJ (af 0)) d5)) [a,b,c,d,some (tO os),e,f,g,some (.int k),some (.lst (ls.map tO))]) ((YF (k+1)).map λi=>U.int (i:Nat))=.ok ((YF (k+1)).map λj=>tO (os.take j++[(k:Int)]++os.drop j)):=
     cb λj hj=>by
      have q1:((os.map U.int).take j).length+1<=XU:=by rw[Ys,XO];lia
      have q2:((os.map U.int).take j++[U.int k]).length+((os.map U.int).drop j).length<=XU:=by rw[XW,Ys,YR,XO,ZP];lia
      simp only[Pzz,bx,Nat.reduceAdd,Nat.reduceSub,tO,gc,pA,q1,q2];simp only[Yv,abx,List.map_drop,X5,aaa]
    have hm:i*(k+1)<=1000*9:=Nat.mul_le_mul (by lia) (by lia);have q3:(ls.map tO).length+((YF (k+1)).map λj=>tO (os.take j++[(k:Int)]++os.drop j)).length<=XU:=by
     rw[XO,XO,YZ];lia
    have ek:(k:Int)+1=((k+1:Nat):Int):=rfl;refine⟨[a,b,c,d,some (tO os),e,f,g,some (.int k),some (.lst (ls.map tO))],[a,b,c,d,some (tO os),e,f,g,some (.int k),some (.lst ((ls++(YF (k+1)).map λj=>os.take j++[(k:Int)]++os.drop j).map tO))],rfl,.inl ?_,_,_,rfl,?_,?_⟩
    ·simp only[Pzz,bx,Nat.reduceAdd,Nat.reduceSub,ek,iw (k+1) (by lia),pE,e0,HU,q3];simp only[Yv,Yd];rfl
    ·rw[XW,XO,YZ,IG,aba,Nat.one_mul]
    ·intro x hx;rcases Yk.mp hx with z|z
     ·exact IS x z
     ·obtain⟨j,_,rfl⟩:=Yn.mp z;exact HW Jk) (ρ:=[a,b,c,d,v4,e,f,g,some (.int k),some (.lst [])]) ⟨[],v4,rfl,by simp,λx hx=>by cases hx⟩
 subst e2;rw[XO] at l2;exact⟨ls,v,e1,l2,p2⟩
def HX (l:List Int)(k:Nat):(l.drop k++l.take k).Perm l:=(Zi).trans (by rw[YJ])
def EJ (l:List Int)(h:Nat):(((l.drop h).take h++l.take h)++l.drop (h+h)).Perm l:=by
 have e:l=l.take h++((l.drop h).take h++l.drop (h+h)):=by
  rw[←ads,YJ,YJ]
 have p:((l.drop h).take h++l.take h).Perm (l.take h++(l.drop h).take h):=Zi;refine (Zr _ p).trans ?_;rw[Yi,←e]
def mD (m:Nat)(r:R (U×U)):Prop:=∃(oss:List (List Int)) (s':U),r=.ok (.tup (oss.map tO),s')/\(∀os∈oss,pD m os)/\1<=oss.length/\oss.length<=24/\jn s'
theorem KO {s:U}{w:Int}(h8:m<=8)(e1:ar [s,.int 6]=.ok (.int w,s1))(gy:jn s1)(hw:w=4\/w=5):mD m (bf [s,.int m]):=by
 have sz:XU=16777216:=rfl;obtain⟨t,s2,e2,t0,t1,cL⟩:=bK (m:=4) gy (by decide) (by decide);obtain⟨n,hn⟩:∃n:Nat,1+t=n:=⟨(1+t).toNat,(by lia)⟩;obtain⟨ys,s3,e3,ly,oss,hy,ho,yw⟩:=ke (G:=jf) (js:=[none,some 0,some 1]) (sg:=cA 0) (ge:=dw 2 1 bb (ae (af 2) ak))
  (λx:U=>[some x,some (.int m),some (.tup (aO 0 m)),some (.int w),none,none,none,none,none,none]) n (λys x=>∃oss:List (List Int),ys=oss.map tO/\(∀os∈oss,pD m os)/\jn x)
  (λdone u x hd h00=>by
   obtain⟨oss,hr,hp,hs⟩:=h00;obtain⟨os,x',b1,b2,b3⟩:=jo (m:=m) hs (by lia);refine⟨[some u,some x,some (.int m)],tO os,[some u,some x',some (.int m)],x',rfl,?_,rfl,oss++[os],by rw[hr,Yv];rfl,?_,b3⟩
   ·simp only[Pzz,bx,Nat.reduceAdd,Nat.reduceSub,b1,tO]
   ·intro y hy;rcases Yk.mp hy with z|z
    ·exact hp y z
    ·rw[Yf.mp z];exact b2) (aO 0 n) [] s2 (by rw[bo];simp) ⟨[],rfl,(λx hx=>by cases hx),cL⟩
 rw[ZH] at hy;rw[bo] at ly;have lo:oss.length=n:=by
  have:=congrArg Z2 hy;rw[XO] at this;lia
 refine⟨oss,s3,?_,ho,(by lia),(by lia),yw⟩;rw[hy] at e3;rcases hw with rfl|rfl<;>simp only[Pzz,bx,Nat.reduceAdd,Nat.reduceSub,bf,de,oO m (by lia),e1,bh,Int.reduceBEq,id,e2,hn,iw n (by lia),e3]
theorem OI {s:U}(h1:1<=m)(h8:m<=8)(e1:ar [s,.int 6]=.ok (.int 0,s1))(gy:jn s1):mD m (bf [s,.int m]):=by
 have sz:XU=16777216:=rfl;have e0:lq (og [none,some 2] (cA 0) bY (aI di (qD oG (af 1) (dJ (af 0)) d5) (qD oG (af 1) d5 (dJ (af 0)))) [some s1,some (.int m),some (.tup (aO 0 m)),some (.int 0),none,none,none,none,none,none]) (aO 0 m)
   = .ok ((YF m).map λk=>.tup ((aO 0 m).drop k++(aO 0 m).take k)):=by
  have:=cb (f:=og [none,some 2] (cA 0) bY (aI di (qD oG (af 1) (dJ (af 0)) d5) (qD oG (af 1) d5 (dJ (af 0)))) [some s1,some (.int m),some (.tup (aO 0 m)),some (.int 0),none,none,none,none,none,none])
   (c:=λi:Nat=>U.int (i:Nat)) (g:=λk=>.tup ((aO 0 m).drop k++(aO 0 m).take k)) (xs:=YF m) λk hk=>by
    have q:((aO 0 m).drop k).length+((aO 0 m).take k).length<=XU:=by rw[YR,Ys,bo];lia
    simp only[Pzz,bx,Nat.reduceAdd,Nat.reduceSub,gc,pA,q]
  rwa [←pE] at this
 refine⟨(YF m).map λk=>(a_ m).drop k++(a_ m).take k,s1,?_,?_,by rw[XO,YZ];exact h1,by rw[XO,YZ];lia,gy⟩
 ·simp only[Pzz,bx,Nat.reduceAdd,Nat.reduceSub,bf,de,oO m (by lia),e1,bh,Int.reduceBEq,id,iw m (by lia),e0];rw[Yd];congr 4;funext k;show U.tup _=tO _;unfold tO;rw[fY,Yv,List.map_drop,abx]
 ·intro os ho;obtain⟨k,_,rfl⟩:=Yn.mp ho;exact HX _ _
theorem OJ {s:U}(h8:m<=8)(e1:ar [s,.int 6]=.ok (.int 1,s1))(gy:jn s1):mD m (bf [s,.int m]):=by
 obtain⟨os,s2,b1,b2,b3⟩:=jo (m:=m) gy (by lia);refine⟨[a_ m,os],s2,?_,?_,by simp,by simp,b3⟩
 ·simp only[Pzz,bx,Nat.reduceAdd,Nat.reduceSub,bf,de,oO m (by lia),e1,bh,Int.reduceBEq,id,b1,tO,fY]
 ·intro x hx;simp only[Yb,aak,or_false] at hx;rcases hx with rfl|rfl
  ·exact ZE _
  ·exact b2
theorem KP {s:U}(h1:1<=m)(h8:m<=8)(e1:ar [s,.int 6]=.ok (.int 2,s1))(gy:jn s1):mD m (bf [s,.int m]):=by
 have sz:XU=16777216:=rfl;have d1:Bs (m:Int) 2=true:=xr (by decide) (by decide);have d2:oF 2 ((m / 2:Nat):Int)=true:=qe (by decide) (by decide);have e2:(m:Int) / 2=((m / 2:Nat):Int):=(by lia)
 have e3:(2:Int)*((m / 2:Nat):Int)=((m / 2+m / 2:Nat):Int):=(by lia)
 have c1:ku (aO 0 m) (some ((m / 2:Nat):Int)) (some ((m / 2+m / 2:Nat):Int))=((aO 0 m).drop (m / 2)).take (m / 2):=by
  rw[KL _ _ _ (by lia) (by rw[bo];lia),adh]
 have q1:(((aO 0 m).drop (m / 2)).take (m / 2)).length+((aO 0 m).take (m / 2)).length<=XU:=by rw[Ys,YR,Ys,bo];lia
 have q2:(((aO 0 m).drop (m / 2)).take (m / 2)++(aO 0 m).take (m / 2)).length+((aO 0 m).drop (m / 2+m / 2)).length<=XU:=by rw[XW,Ys,YR,Ys,YR,bo];lia
 refine⟨[a_ m,((a_ m).drop (m / 2)).take (m / 2)++(a_ m).take (m / 2)++(a_ m).drop (m / 2+m / 2)],s1,?_,?_,by simp,by simp,gy⟩
 ·simp only[Pzz,bx,Nat.reduceAdd,Nat.reduceSub,bf,de,oO m (by lia),e1,bh,Int.reduceBEq,id,d1,e2,d2,e3,c1,gc,pA,q1,q2];simp only[tO,Yv,abx,List.map_drop,fY]
 ·intro x hx;simp only[Yb,aak,or_false] at hx;rcases hx with rfl|rfl
  ·exact ZE _
  ·exact EJ _ _
theorem MG (h:n<=4):1<=OH n/\OH n<=24:=by
 have:n=0\/n=1\/n=2\/n=3\/n=4:=(by lia)
 rcases this with rfl|rfl|rfl|rfl|rfl<;>decide
theorem OL {s:U}(h1:1<=m)(h8:m<=8)(e1:ar [s,.int 6]=.ok (.int 3,s1))(gy:jn s1):mD m (bf [s,.int m]):=by
 have sz:XU=16777216:=rfl;obtain⟨t,s2,e2,t0,t1,cL⟩:=bK (m:=3) gy (by decide) (by decide);obtain⟨z,hz⟩:∃z:Nat,(if 2+t<(m:Int) then 2+t else (m:Int))=z:=⟨(if 2+t<(m:Int) then 2+t else (m:Int)).toNat,by split<;>lia⟩;have zb:1<=z/\z<=4/\z<=m:=by split at hz<;>lia
 obtain⟨ρ',e3,oss,v4,v8,rfl,l3,p3⟩:=gF (us:=aO 0 z) (sg:=cA 8) (s:=(aE (a9 9 (eW ak))
 (aE (nv (d6 (af 6)) (cA 4)
 (iD (gM "list" 9 fW (ae (eh (fA (ae (aI di (af 8) (zqc 1)) ak)) [none,some 4,some 8] (cA 0) bY (aI di (aI di (qD oG (af 1) d5 (dJ (af 0))) (bu (ae (af 2) ak))) (qD oG (af 1) (dJ (af 0)) d5))) ak))))
 (yV 6 9))))
  (λi ρ=>∃(oss:List (List Int)) (v4 v8:Option U),ρ=[some s2,some (.int m),some (.tup (aO 0 m)),some (.int 3),v4,none,some (.lst (oss.map tO)),some (.int z),v8,none]/\oss.length=OH i/\∀os∈oss,os.Perm (a_ i))
  (λi u ρ hu h00=>by
   obtain⟨oss,v4,v8,hr,hl,hp⟩:=h00;subst hr;have hi:i<z:=by
    rcases aaO i z with y|y
    ·exact y
    ·rw[ZD.mpr (by rw[bo];exact y)] at hu;cases hu
   obtain rfl:u=.int i:=by
    rw[pE,Yq,abb hi] at hu;cases hu;rfl
   obtain⟨ls,v4',g1,g2,g3⟩:=KN (a:=some s2) (b:=some (.int m)) (c:=some (.tup (aO 0 m))) (d:=some (.int 3)) (e:=none) (f:=some (.lst (oss.map tO))) (g:=some (.int z)) (k:=i) (oss:=oss) (by lia) (by have:=MG (n:=i) (by lia);lia) hp v4;refine⟨[some s2,some (.int m),some (.tup (aO 0 m)),some (.int 3),v4,none,some (.lst (oss.map tO)),some (.int z),some (.int i),none],[some s2,some (.int m),some (.tup (aO 0 m)),some (.int 3),v4',none,some (.lst (ls.map tO)),some (.int z),some (.int i),none],rfl,.inl ?_,ls,v4',some (.int i),rfl,by rw[g2,hl];rfl,g3⟩;simp only[Pzz,bx,Nat.reduceAdd,Nat.reduceSub,g1])
  (ρ:=[some s2,some (.int m),some (.tup (aO 0 m)),some (.int 3),none,none,some (.lst [.tup []]),some (.int z),none,none]) ⟨[[]],none,none,rfl,rfl,λx hx=>by rw[Yf.mp hx];exact ZE _⟩
 rw[bo] at l3 p3;have e4:lq (og [none,some 2,some 7] (cA 0) bY (aI di (af 0) (qD oG (af 1) (dJ (af 2)) d5)) [some s2,some (.int m),some (.tup (aO 0 m)),some (.int 3),v4,none,some (.lst (oss.map tO)),some (.int z),v8,none]) (oss.map tO)=.ok (oss.map λos=>tO (os++(a_ m).drop z)):=
  cb λos ho=>by
   have lo:os.length=z:=by have:=(p3 os ho).length_eq;rwa [fo] at this
   have q:(os.map U.int).length+((aO 0 m).drop z).length<=XU:=by rw[XO,YR,bo];lia
   simp only[Pzz,bx,Nat.reduceAdd,Nat.reduceSub,tO,pA,q];simp only[Yv,List.map_drop,fY]
 have fb:=MG (n:=z) zb.2.1;refine⟨oss.map λos=>os++(a_ m).drop z,s2,?_,?_,by rw[XO];lia,by rw[XO];lia,cL⟩
 ·simp only[Pzz,bx,Nat.reduceAdd,Nat.reduceSub,bf,de,oO m (by lia),e1,bh,Int.reduceBEq,id,e2,hz,iw z (by lia),e3,e4];rw[Yd];rfl
 ·intro x hx;obtain⟨os,ho,rfl⟩:=Yn.mp hx;have:(a_ m)=a_ z++(a_ m).drop z:=by
   rw[←Av zb.2.2,YJ]
  show (os++_).Perm (a_ m);refine (Zr _ (p3 os ho)).trans ?_;rw[←this]
theorem BY {s:U}(h:jn s)(h1:1<=m)(h8:m<=8):mD m (bf [s,.int m]):=by
 obtain⟨w,s1,e1,w0,w1,gy⟩:=bK (m:=6) h (by decide) (by decide);have hw:w=0\/w=1\/w=2\/w=3\/w=4\/w=5:=(by lia)
 rcases hw with rfl|rfl|rfl|rfl|hw
 ·exact OI h1 h8 e1 gy
 ·exact OJ h8 e1 gy
 ·exact KP h1 h8 e1 gy
 ·exact OL h1 h8 e1 gy
 ·exact KO h8 e1 gy hw
theorem kl:∀ns:List Int,ka (ns.map U.int)=some ns
 | []=>rfl
 |n::ns=>by rw[X5];show (ka (ns.map U.int)).map _=_;rw[kl ns];rfl
noncomputable def jY (a b:List Int):List Int:=b.map λi=>a.getD i.toNat 0
theorem KQ {a b:List Int}(h:∀i∈b,0<=i/\i<a.length):lq (og [none,some 0] (cA 0) bY (aI cz (af 1) (af 0)) [some (aF a),some (aF b)]) (b.map U.int)=.ok ((jY a b).map U.int):=by
 have e:=cb (f:=og [none,some 0] (cA 0) bY (aI cz (af 1) (af 0)) [some (aF a),some (aF b)]) (c:=U.int) (g:=λi:Int=>U.int (a.getD i.toNat 0)) (xs:=b) λi hi=>by
  obtain⟨h0,h1⟩:=h i hi;obtain⟨n,rfl⟩:∃n:Nat,i=n:=⟨i.toNat,(by lia)⟩;have hn:n<a.length:=(by lia)
  have e1:mS (a.map U.int) (n:Int)=some (.int a[n]):=by rw[uc,Yq,XN hn];rfl
  have e2:a.getD (n:Int).toNat 0=a[n]:=by rw[Ze,ac6,XN hn];rfl
  simp only[Pzz,bx,Nat.reduceAdd,Nat.reduceSub,aF,e1,e2]
 rw[e];unfold jY;rw[Yd];rfl
theorem oJ {a b:List Int}(h:∀i∈b,0<=i/\i<a.length)(hl:b.length<=1000):cu [aF a,aF b]=.ok (aF (jY a b)):=by
 have e:=KQ h;have sz:((jY a b).map U.int).length<=XU:=by rw[XO];unfold jY;rw[XO];have:XU=16777216:=rfl;lia
 unfold cu lH;simp only[aF] at e ⊢;simp only[Pzz,bx,Nat.reduceAdd,Nat.reduceSub,e,sz]
theorem OM {s:U}(h:jn s)(h1:m<=1000):∃(row:List Int) (s':U),fu [s,.int m]=.ok (.tup (row.map .int),s')/\row.length=m/\(∀c∈row,0<=c/\c<10)/\jn s':=by
 obtain⟨way,s1,e1,w0,w1,IU⟩:=bK (m:=4) h (by decide) (by decide);have key:∀(js:List (Option Nat)) (ge:Ev->R (U×Ev)) (s1:U),jn s1->(∀u s,jn s->∃ρi r ρi' s',cA 0 u (iJ js [some s,some (.int m),some (.int way)])=.ok ρi/\ge ρi=.ok (.int r,ρi')/\wb gG js ρi' [some s,some (.int m),some (.int way)]=[some s',some (.int m),some (.int way)]/\0<=r/\r<10/\jn s')->
   ∃(row:List Int) (s':U),mK gG js (cA 0) bY ge (aO 0 m) [some s1,some (.int m),some (.int way)]=.ok (row.map .int,[some s',some (.int m),some (.int way)])/\row.length=m/\(∀c∈row,0<=c/\c<10)/\jn s':=by
  intro js ge s1 gy RP;obtain⟨ys,s',e,l,row,hr,hc,hs'⟩:=ke (G:=gG) (js:=js) (sg:=cA 0) (ge:=ge) (λs:U=>[some s,some (.int m),some (.int way)]) m (λys s=>∃row:List Int,ys=row.map .int/\(∀c∈row,0<=c/\c<10)/\jn s)
   (λdone u s _ h00=>by
    obtain⟨row,hr,hc,hs⟩:=h00;obtain⟨ρi,r,ρi',s',a1,a2,a3,a4,a5,a6⟩:=RP u s hs;refine⟨ρi,.int r,ρi',s',a1,a2,a3,row++[r],by rw[hr,Yv];rfl,λc Py=>?_,a6⟩;rcases Yk.mp Py with z|z
    ·exact hc c z
    ·rw[Yf.mp z];exact⟨a4,a5⟩) (aO 0 m) [] s1 (by rw[bo];simp) ⟨[],rfl,(λc hc=>by cases hc),gy⟩
  rw[bo] at l;refine⟨row,s',by rw[e,←hr];rfl,?_,hc,hs'⟩;have:=congrArg Z2 hr;simp at this;lia
 by_cases c:way<2
 ·obtain⟨row,s',a1,a2,a3,a4⟩:=key [none,some 0] (dw 2 1 ar (ae (zqc 2) ak)) s1 IU λu s hs=>by
   obtain⟨r,s',b1,b2,b3,b4⟩:=bK (m:=2) hs (by decide) (by decide);refine⟨[some u,some s],r,[some u,some s'],s',rfl,?_,rfl,b2,(by lia),b4⟩;simp only[Pzz,bx,Nat.reduceAdd,Nat.reduceSub,b1]
  refine⟨row,s',?_,a2,a3,a4⟩;simp only[Pzz,bx,Nat.reduceAdd,Nat.reduceSub,fu,ky,e1,hJ c,iw m (by lia),a1]
 ·have Xn:∃z:Int,mS [U.int 3,U.int 10] (way-2)=some (.int z)/\0<z/\z<=10:=by
   by_cases e:way=2
   ·subst e;exact⟨3,rfl,(by decide),(by decide)⟩
   ·have e:way=3:=(by lia)
    subst e;exact⟨10,rfl,(by decide),(by decide)⟩
  obtain⟨z,hz,z0,z1⟩:=Xn;obtain⟨row,s',a1,a2,a3,a4⟩:=key [none,some 0,some 2] (dw 2 1 ar (ae (aI cz (eW (ae (zqc 3) (ae (zqc 10) ak))) (aI tW (af 2) (zqc 2))) ak)) s1 IU λu s hs=>by
   obtain⟨r,s',b1,b2,b3,b4⟩:=bK (m:=z) hs z0 (by lia);refine⟨[some u,some s,some (.int way)],r,[some u,some s',some (.int way)],s',rfl,?_,rfl,b2,(by lia),b4⟩;simp only[Pzz,bx,Nat.reduceAdd,Nat.reduceSub,hz,b1]
  refine⟨row,s',?_,a2,a3,a4⟩;simp only[Pzz,bx,Nat.reduceAdd,Nat.reduceSub,fu,ky,e1,hU c,iw m (by lia),a1]
noncomputable def qk (x:Int):List Int->List (List Int)
 | []=>[[x]]
 |y::r=>(x::y::r)::(qk x r).map (y::·)
noncomputable def ef:List Int->List (List Int)
 | []=>[[]]
 |x::xs=>(ef xs).flatMap (qk x)
theorem Aw (x:Int):∀l,(qk x l).length=l.length+1
 | []=>rfl
 |y::r=>by unfold qk;rw[X1,XO,Aw x r,X1]
theorem Ax (x:Int):∀l r,(l++x::r)∈qk x (l++r)
 | [],[]=>by simp[qk]
 | [],y::r=>by simp[qk]
 |y::l,r=>by
  show (y::(l++x::r))∈qk x (y::(l++r));unfold qk;exact X4 _ (ZM (Ax x l r))
theorem rD:∀{xs r:List Int},r.Perm xs->r∈ef xs
 | [],r,h=>by rw[List.perm_nil.mp h];simp[ef]
 |x::xs,r,h=>by
  obtain⟨l1,l2,e⟩:=List.append_of_mem (h.mem_iff.mpr (X2 (a:=x) (l:=xs)));subst e;have h2:(l1++l2).Perm xs:=(List.perm_cons x).mp (List.perm_middle.symm.trans h);unfold ef;exact List.mem_flatMap.mpr ⟨l1++l2,rD h2,Ax x l1 l2⟩
theorem rE:∀(xs:List Int),(∀r∈ef xs,r.length=xs.length)/\(ef xs).length=OH xs.length
 | []=>by simp[ef,OH]
 |x::xs=>by
  obtain⟨h1,h2⟩:=rE xs;have ins:∀(l r:List Int),r∈qk x l->r.length=l.length+1:=by
   intro l
   induction l with
   |nil=>intro r h;simp[qk] at h;rw[h];rfl
   |cons y l ih=>
    intro r h;unfold qk at h;rcases Yb.mp h with rfl|h
    ·rfl
    ·obtain⟨q,hq,rfl⟩:=Yn.mp h;rw[X1,ih q hq,X1]
  refine⟨λr h=>?_,?_⟩
  ·unfold ef at h;obtain⟨q,hq,h⟩:=List.mem_flatMap.mp h;rw[ins q r h,h1 q hq,X1]
  ·unfold ef;rw[List.length_flatMap];have e:(ef xs).map (λa=>(qk x a).length)=(ef xs).map λ_=>xs.length+1:=ZL λq hq=>by rw[Aw,h1 q hq]
   rw[e,List.map_const',List.sum_replicate_nat,h2,X1];rfl
theorem Ay {α:Type}[DecidableEq α]:∀{l m:List α},l.Nodup->(∀x∈l,x∈m)->l.length<=m.length
 | [],m,_,_=>ZT _
 |x::l,m,h,s=>by
  obtain⟨h1,h2⟩:=aaB.mp h;have hx:=s x X2;have:=Ay (m:=m.erase x) h2 λy hy=>(List.mem_erase_of_ne λe=>h1 (by rw[←e];exact hy)).mpr (s y (X4 _ hy));rw[List.length_erase_of_mem hx] at this;have:0<m.length:=List.length_pos_of_mem hx;rw[X1];lia
theorem nW:∀(l b9:List (List Int)),b9.Nodup->(l.foldl uN b9).Nodup
 | [],b9,h=>h
 |x::l,b9,h=>by
  refine nW l _ ?_;unfold uN;split
  ·exact h
  ·rename_i c;rw[aco];refine⟨h,by simp,λa ha b hb e=>c ?_⟩;rw[Yf.mp hb] at e;rw[←e];exact ha
theorem Az:∀(l b9:List (List Int)) (x:List Int),(x∈b9\/x∈l)->x∈l.foldl uN b9
 | [],b9,x,h=>h.elim id λz=>by cases z
 |y::l,b9,x,h=>by
  refine Az l _ x ?_;unfold uN;rcases h with h|h
  ·split
   ·exact .inl h
   ·exact .inl (Zz _ h)
  ·rcases Yb.mp h with rfl|h
   ·split
    ·rename_i c;exact .inl c
    ·exact .inl (Yz _ X2)
   ·exact .inr h
def BZ (base:List (List Int))(m:Nat):Prop:=base.length<=3/\1<=m/\m<=5/\∀b∈base,b.length=m
def Q3 (base rows:List (List Int)):Prop:=rows≠[]/\∀r∈rows,∃b∈base,r.Perm b
theorem Q4 (h:n<=5):OH n<=120:=by
 have:n=0\/n=1\/n=2\/n=3\/n=4\/n=5:=(by lia)
 rcases this with rfl|rfl|rfl|rfl|rfl|rfl<;>decide
theorem HY (hb:BZ base m)(h:∀r∈rows,∃b∈base,r.Perm b):(gZ rows).length<=360:=by
 have sub:∀x∈gZ rows,x∈base.flatMap ef:=λx hx=>by
  rcases oY _ _ _ hx with z|z
  ·cases z
  ·obtain⟨b,h1,h2⟩:=h x z;exact List.mem_flatMap.mpr ⟨b,h1,rD h2⟩
 refine YX (Ay (nW rows [] List.nodup_nil) sub) ?_;rw[List.length_flatMap];have lb:∀l:List (List Int),(∀b∈l,b.length=m)->(l.map λa=>(ef a).length).sum<=l.length*120:=by
  intro l
  induction l with
  |nil=>intro _;simp
  |cons b l ih=>
   intro h;rw[X5,ZY,X1];have h1:=ih λc hc=>h c (X4 _ hc);have h2:(ef b).length<=120:=by rw[(rE b).2,h b X2];exact Q4 hb.2.2.1
   lia
 have:=lb base hb.2.2.2;have:=hb.1;lia
theorem rF (few:(gZ rows).length<=360)(ne:∀r∈rows,r≠[])(hn:rows≠[]):∃rows',eD [.lst (rows.map aF)]=.ok (.lst (rows'.map aF))/\rows'≠[]/\rows'.length<=360/\(∀x,x∈rows'↔x∈rows)/\rows'.Nodup:=by
 have e1:wG (rows.map aF)=some rows:=by
  clear few hn
  induction rows with
  |nil=>rfl
  |cons r rows ih=>
   rw[X5];unfold wG;have e:Hy (aF r)=some r:=by
    unfold Hy aF;dsimp only;rw[kl];cases r with
    |nil=>exact absurd rfl (ne [] X2)
    |cons=>rfl
   rw[e,ih λq hq=>ne q (X4 _ hq)]
 have mem:∀x,x∈rf (gZ rows)↔x∈rows:=λx=>by
  rw[(eC _).mem_iff];constructor
  ·intro hx;rcases oY _ _ _ hx with z|z
   ·cases z
   ·exact z
  ·exact λhx=>Az _ _ _ (.inr hx)
 refine⟨rf (gZ rows),?_,λe=>?_,by rw[(eC _).length_eq];exact few,mem,(eC _).nodup_iff.mpr (nW rows [] List.nodup_nil)⟩
 ·unfold eD;dsimp only;rw[e1];dsimp only;rw[hZ (by lia)]
 ·obtain⟨r,hr⟩:=adw _ hn;have:=(mem r).mpr hr;rw[e] at this;cases this
theorem Dn:∀(l b9:List (List Int)),(l.foldl uN b9).length<=b9.length+l.length
 | [],b9=>by simp
 |x::l,b9=>by
  refine YX (Dn l _) ?_;unfold uN;split<;>simp<;>lia
def MJ (base:List (List Int))(rows:List (List Int)):Prop:=Q3 base rows/\rows.length<=360
theorem nX (hb:BZ base m)(h:Q3 base rows):∀r∈rows,r.length=m:=λr hr=>by
 obtain⟨b,h1,h2⟩:=h.2 r hr;rw[h2.length_eq,hb.2.2.2 b h1]
theorem kH (hb:BZ base m)(h:Q3 base rows):∃rows',eD [.lst (rows.map aF)]=.ok (.lst (rows'.map aF))/\MJ base rows'/\∀x,x∈rows'↔x∈rows:=by
 obtain⟨rows',a1,a2,a3,a4,_⟩:=rF (HY hb h.2) (λr hr e=>by
  have h3:=nX hb h r hr;have h4:=hb.2.1;rw[e] at h3;rw[←h3] at h4;exact absurd h4 (by decide)) h.1
 exact⟨rows',a1,⟨⟨a2,λr hr=>h.2 r ((a4 r).mp hr)⟩,a3⟩,a4⟩
open Hc.Ts
def EK (m:Nat)(cs:List Int):Prop:=cs.Nodup/\∀i∈cs,0<=i/\i<m
def dM (m:Nat):Nat->U->Prop
 |0,_=>False
 |d+1,u=>(∃cs,u=.tup [.str "end",aF cs]/\EK m cs)\/u=.tup [.str "again"]\/(∃p q,u=.tup [.str "lay",aF p,q]/\dM m d q)\/(∃(ps:List (List Int)) (q:U),u=.tup [.str "mix",.tup (ps.map aF),q]/\dM m d q)\/∃(pl:List Int) (ws:List (List Int×U)),u=.tup [.str "look",aF pl,.tup (ws.map kN)]/\ws≠[]/\ws.length<=5/\∀w∈ws,dM m d w.2
def u6 (h:EK m cs):dM m (d+1) (.tup [.str "end",aF cs]):=by unfold dM;exact .inl ⟨cs,rfl,h⟩
def HZ:dM m (d+1) (.tup [.str "again"]):=by unfold dM;exact .inr (.inl rfl)
def ON {p:List Int}(h:dM m d q):dM m (d+1) (.tup [.str "lay",aF p,q]):=by unfold dM;exact .inr (.inr (.inl ⟨p,q,rfl,h⟩))
def OO {ps:List (List Int)}(h:dM m d q):dM m (d+1) (.tup [.str "mix",.tup (ps.map aF),q]):=by unfold dM;exact .inr (.inr (.inr (.inl ⟨ps,q,rfl,h⟩)))
def yf {pl:List Int}{ws:List (List Int×U)}(h1:ws≠[])(h2:ws.length<=5)(h:∀w∈ws,dM m d w.2):dM m (d+1) (.tup [.str "look",aF pl,.tup (ws.map kN)]):=by unfold dM;exact .inr (.inr (.inr (.inr ⟨pl,ws,rfl,h1,h2,h⟩)))
def yg (h:pD m os):∀i∈os,0<=i/\i<m:=λi hi=>ud.mp (h.mem_iff.mp hi)
def pF (h:pD m os):os.length=m:=by rw[h.length_eq,fo]
theorem ql (m:Nat):(a_ m).Nodup:=by
 unfold a_;exact (Z4.mpr (List.nodup_range.imp λh e=>h (by lia)))
def OP (h:pD m os):os.Nodup:=h.nodup_iff.mpr (ql m)
def KR (h:pD m os):EK m (os.take k):=⟨(adB k os).nodup (OP h),λi hi=>yg h i (Zq hi)⟩
theorem yi {s:U}(h:jn s)(h1:1<=m)(h8:m<=8):∃cs s',fv [s,.int m]=.ok (.tup [.str "end",aF cs],s')/\EK m cs/\jn s':=by
 obtain⟨os,s1,e1,o1,IU⟩:=jo (m:=m) h (by lia);obtain⟨r,s2,e2,r0,r1,h2⟩:=bK (m:=2) IU (by decide) (by decide);have hz:∃z:Int,mS [U.int 2,U.int m] r=some (.int z)/\0<z/\z<=8:=by
  have:r=0\/r=1:=(by lia)
  rcases this with rfl|rfl
  ·exact⟨2,rfl,(by decide),(by decide)⟩
  ·exact⟨m,rfl,(by lia),(by lia)⟩
 obtain⟨z,hz,z0,z1⟩:=hz;obtain⟨t,s3,e3,t0,t1,h3⟩:=bK (m:=z) h2 z0 (by lia);obtain⟨k,hk⟩:∃k:Nat,1+t=k:=⟨(1+t).toNat,(by lia)⟩;have l2:(2:Nat)<=XU:=by decide
 refine⟨os.take k,s3,?_,KR o1,h3⟩;simp only[Pzz,bx,Nat.reduceAdd,Nat.reduceSub,fv,nU,e1,e2,l2,hz,e3,hk,gc];unfold aF;rw[abx]
def H9 {a:List Int}(h:pD a.length os):(jY a os).Perm a:=by
 unfold jY;refine (h.map _).trans ?_;have e:(a_ a.length).map (λi=>a.getD i.toNat 0)=a:=by
  unfold a_;rw[Yd];refine List.ext_getElem (by simp) λi h1 h2=>?_;rw[List.getElem_map,List.getElem_range];show a.getD ((i:Int)).toNat 0=_;rw[Ze,ac6,XN h2];rfl
 rw[e]
def laids (Pl:∀u,cA 0 u (iJ js ρ)=.ok [some u,some (aF os)])(h:∀r∈rows,∀i∈os,0<=i/\i<r.length)(hl:os.length<=1000) :
  lq (og js (cA 0) bY (fR 2 cu (ae (af 0) (ae (af 1) ak))) ρ) (rows.map aF)=.ok ((rows.map λr=>jY r os).map aF):=by
 rw[Yd];refine cb λr hr=>?_;unfold og;rw[Pl];simp only[Pzz,bx,Nat.reduceAdd,Nat.reduceSub,oJ (h r hr) hl];rfl
theorem qm (hb:BZ base m)(h:Q3 base rows):∃r,mS (rows.map aF) 0=some (aF r)/\r.length=m:=by
 obtain⟨r,rs,rfl⟩:=aaI h.1;exact⟨r,by rw[show (0:Int)=((0:Nat):Int) from rfl,uc];rfl,nX hb h r X2⟩
def sO (n:Nat):iu 9 (cv n)=bM n:=rfl
def yj (n:Nat):iu 11 (fB n)=jL n:=rfl
def B0 (m:Nat)(base:List (List Int))(n:Nat)(k:Int)(d:Nat):Prop:=∀rows s b,MJ base rows->jn s->∃u s',bM n [s,.lst (rows.map aF),.int k,.bl b]=.ok (u,s')/\dM m d u/\jn s'
def Q5 (m:Nat)(base:List (List Int))(n:Nat)(k:Int)(d:Nat):Prop:=∀rows s b,MJ base rows->jn s->∃u s',jL n [s,.lst (rows.map aF),.int k,.bl b]=.ok (u,s')/\dM m d u/\jn s'
def gx {r:List Int}:aF r=.tup (r.map U.int):=rfl
theorem Dp (hb:BZ base m)(h:Q3 base rows)(ho:pD m os):∀x∈rows.map (λr=>jY r os),∃b∈base,x.Perm b:=λx hx=>by
 obtain⟨r,hr,rfl⟩:=Yn.mp hx;obtain⟨b,h1,h2⟩:=h.2 r hr;have l:=nX hb h r hr;subst l;exact⟨b,h1,(H9 ho).trans h2⟩
theorem H_ (hb:BZ base m){k:Int}(hk:k<2):B0 m base (n+1) k 1:=λrows s b hr hs=>by
 obtain⟨r,e0,l0⟩:=qm hb hr.1;obtain⟨w,s1,e1,w0,w1,gy⟩:=bK (m:=12) hs (by decide) (by decide);obtain⟨cs,s2,e2,hcs,cL⟩:=yi (m:=m) gy hb.2.1 (by have:=hb.2.2.1;lia);refine⟨_,s2,?_,u6 hcs,cL⟩;simp only[Pzz,bx,Nat.reduceAdd,Nat.reduceSub,bM,cv,e0,gx,XO,l0,e1,hJ hk,e2]
theorem Ia (hb:BZ base m){k w:Int}(hp:B0 m base n (k-1) d){s:U}(hr:MJ base rows)(hk:¬k<2)(e1:ar [s,.int 12]=.ok (.int w,s1))(gy:jn s1)(w0:¬w=0)(wb:w=1->b=false)(w4:w<4) :
  ∃u s',bM (n+1) [s,.lst (rows.map aF),.int k,.bl b]=.ok (u,s')/\dM m (d+1) u/\jn s':=by
 obtain⟨r,e0,l0⟩:=qm hb hr.1;have m5:=hb.2.2.1;obtain⟨os,s2,e2,ho,cL⟩:=jo (m:=m) gy (by lia);have e3:=laids (js:=[none,some 6]) (ρ:=[some s2,some (.lst (rows.map aF)),some (.int k),some (.bl b),some (.int m),some (.int w),some (aF os),none,none]) (rows:=rows) (os:=os) (λu=>rfl)
  (λr iB=>by rw[nX hb hr.1 r iB];exact yg ho) (by rw[pF ho];lia)
 obtain⟨rows',e4,hr',_⟩:=kH hb (rows:=rows.map λr=>jY r os) ⟨λz=>hr.1.1 (ZN.mp z),Dp hb hr.1 ho⟩;obtain⟨u,s3,e5,hu,yw⟩:=hp rows' s2 b hr' cL;have l3:(3:Nat)<=XU:=by decide
 refine⟨.tup [.str "lay",aF os,u],s3,?_,ON hu,yw⟩;have b1:(w==0)=false:=beq_eq_false_iff_ne.mpr w0;rw[gx] at e3 ⊢;rw[bM,cv,sO,yj];by_cases c:w=1
 ·have b3:(w==1)=true:=beq_iff_eq.mpr c;rw[wb c] at *;simp only[Pzz,bx,Nat.reduceAdd,Nat.reduceSub,e0,gx,XO,l0,e1,hU hk,bh,b1,b3,id,hJ w4,e2,e3,e4,e5,l3]
 ·have b3:(w==1)=false:=beq_eq_false_iff_ne.mpr c;simp only[Pzz,bx,Nat.reduceAdd,Nat.reduceSub,e0,gx,XO,l0,e1,hU hk,bh,b1,b3,id,hJ w4,e2,e3,e4,e5,l3]
theorem Ib (hb:BZ base m){k w:Int}(hp:B0 m base n (k-1) d){s:U}(hr:MJ base rows)(hk:¬k<2)(e1:ar [s,.int 12]=.ok (.int w,s1))(gy:jn s1)(w4:¬w<4)(w8:w<8) :
  ∃u s',bM (n+1) [s,.lst (rows.map aF),.int k,.bl b]=.ok (u,s')/\dM m (d+1) u/\jn s':=by
 obtain⟨r,e0,l0⟩:=qm hb hr.1;have m5:=hb.2.2.1;have sz:XU=16777216:=rfl;obtain⟨oss,s2,e2,ho,n1,n24,cL⟩:=BY (m:=m) gy hb.2.1 (by lia);have Pm:=hr.2;obtain⟨ρ',e3,A,o,rfl,lA,hA⟩:=gF (sg:=cA 6) (s:=iD (gM "list" 8 fW (ae (eh (d6 (af 1)) [none,some 6] (cA 0) bY (fR 2 cu (ae (af 0) (ae (af 1) ak)))) ak)))
  (λi ρ=>∃(A:List (List Int)) (o:Option U),ρ=[some s2,some (.lst (rows.map aF)),some (.int k),some (.bl b),some (.int m),some (.int w),o,some (.tup (oss.map tO)),some (.lst (A.map aF))]/\A.length=i*rows.length/\∀r∈A,∃b∈base,r.Perm b) (us:=oss.map tO)
  (λi u ρ hu h00=>by
   obtain⟨A,o,hρ,lA,hA⟩:=h00;subst hρ;rw[Yq] at hu;obtain⟨os,RG,rfl⟩:=acb.mp hu;have hm:=YA RG;have hi:i<oss.length:=(X3.mp RG).1;have oo:=ho os hm;have e3:=laids (js:=[none,some 6]) (ρ:=[some s2,some (.lst (rows.map aF)),some (.int k),some (.bl b),some (.int m),some (.int w),some (tO os),some (.tup (oss.map tO)),some (.lst (A.map aF))]) (rows:=rows) (os:=os) (λu=>rfl)
    (λr iB=>by rw[nX hb hr.1 r iB];exact yg oo) (by rw[pF oo];lia)
   have le:i*rows.length<=24*360:=Nat.mul_le_mul (by lia) Pm;have lx:(A.map aF).length+((rows.map λr=>jY r os).map aF).length<=XU:=by simp only[XO];lia
   refine⟨_,_,rfl,.inl (by
    simp only[Pzz,bx,Nat.reduceAdd,Nat.reduceSub,Yt,Yo,e3,HU,lx];rfl),A++rows.map (λr=>jY r os),some (tO os),?_,?_,?_⟩
   ·rw[Yv]
   ·rw[XW,XO,lA,aba,Nat.one_mul]
   ·intro x hx;rcases Yk.mp hx with z|z
    ·exact hA x z
    ·exact Dp hb hr.1 oo x z) (ρ:=[some s2,some (.lst (rows.map aF)),some (.int k),some (.bl b),some (.int m),some (.int w),none,some (.tup (oss.map tO)),some (.lst [])]) ⟨[],none,rfl,by simp,λr h=>by cases h⟩
 rw[XO] at lA;have Xo:A≠[]:=λz=>by
  rw[z] at lA;have h1:0<rows.length:=abL.mpr hr.1.1;have:=Nat.mul_pos (show 0<oss.length by lia) h1;rw[←lA] at this;exact absurd this (by decide)
 obtain⟨rows',e4,hr',_⟩:=kH hb (rows:=A) ⟨Xo,hA⟩;obtain⟨u,s3,e5,hu,yw⟩:=hp rows' s2 b hr' cL;have l3:(3:Nat)<=XU:=by decide
 have RQ:(0:Nat)<=XU:=by decide
 refine⟨.tup [.str "mix",.tup (oss.map tO),u],s3,?_,OO hu,yw⟩;have b1:(w==0)=false:=beq_eq_false_iff_ne.mpr (by lia);have b3:(w==1)=false:=beq_eq_false_iff_ne.mpr (by lia);rw[bM,cv,sO,yj];simp only[Pzz,bx,Nat.reduceAdd,Nat.reduceSub,e0,gx,XO,l0,e1,hU hk,bh,b1,b3,id,hU w4,hJ w8,e2,e3,e4,e5,l3,RQ]
theorem EL (hb:BZ base m){k:Int}(hp:B0 m base n (k-1) d)(hl:Q5 m base n k (d+1))(hk:¬k<2):B0 m base (n+1) k (d+1):=λrows s b hr hs=>by
 obtain⟨r,e0,l0⟩:=qm hb hr.1;have m5:=hb.2.2.1;obtain⟨w,s1,e1,w0,w1,gy⟩:=bK (m:=12) hs (by decide) (by decide);by_cases c0:w=0
 ·obtain⟨cs,s2,e2,hcs,cL⟩:=yi (m:=m) gy hb.2.1 (by lia);refine⟨_,s2,?_,u6 hcs,cL⟩;subst c0;simp only[Pzz,bx,Nat.reduceAdd,Nat.reduceSub,bM,cv,e0,gx,XO,l0,e1,hU hk,bh,Int.reduceBEq,id,e2]
 by_cases c1:w=1/\b=true
 ·obtain⟨rfl,rfl⟩:=c1;have l1:(1:Nat)<=XU:=by decide
  refine⟨.tup [.str "again"],s1,?_,HZ,gy⟩;simp only[Pzz,bx,Nat.reduceAdd,Nat.reduceSub,bM,cv,e0,gx,XO,l0,e1,hU hk,bh,Int.reduceBEq,id,l1]
 by_cases c4:w<4
 ·exact Ia hb hp hr hk e1 gy c0 (λz=>by cases b with|false=>rfl|true=>exact absurd ⟨z,rfl⟩ c1) c4
 by_cases c8:w<8
 ·exact Ib hb hp hr hk e1 gy c4 c8
 obtain⟨u,s2,e5,hu,cL⟩:=hl rows s1 b hr gy;refine⟨u,s2,?_,hu,cL⟩;have b1:(w==0)=false:=beq_eq_false_iff_ne.mpr c0;have b3:(w==1)=false:=beq_eq_false_iff_ne.mpr (by lia);rw[bM,cv,sO,yj];simp only[Pzz,bx,Nat.reduceAdd,Nat.reduceSub,e0,gx,XO,l0,e1,hU hk,bh,b1,b3,id,hU c4,hU c8,e5]
theorem qo {α:Type}{f:U->R (Option U)}{c:α->U}{p:α->Bool}:∀{xs:List α},(∀x∈xs,f (c x)=.ok (if p x=true then some (c x) else none))->lq f (xs.map c)=.ok ((xs.filter p).map c)
 | [],_=>rfl
 |x::xs,h=>by
  rw[X5];unfold lq;rw[h x X2];show (lq f (xs.map c)).bind _=_;rw[qo λy hy=>h y (X4 _ hy)];show R.ok _=_;rw[List.filter_cons];cases p x<;>rfl
noncomputable def U_ (p:U->U->R U)(y:U×Ev)(o:Option (Option U)):R (U×Ev):=match o with
 |some (some u)=>(p u y.1).bind λz=>.ok (z,y.2)
 |_=>.stk
def Q7 {g:Ev->R (U×Ev)}:KC j p g ρ=if CM ρ[j]? = true then (g ρ).bind λy=>U_ p y y.2[j]? else .stk:=nr rfl
def Q8 {y:U×Ev}:U_ p y (some (some u))=(p u y.1).bind λz=>.ok (z,y.2):=nr rfl
def yk {k:Bool}:J0 [.bl k]=.ok (.int (if k then 1 else 0)):=nr rfl
def Dq:iK (.lst us) [u]=if us.length<XU then .ok (.non,.lst (us++[u])) else .stk:=nr rfl
def Q9 {v pl:List Int}(Pl:∀u,cA 0 u (iJ js ρ)=.ok [some u,some (aF v),some (aF pl)])(h:∀r∈rows,∀i∈pl,0<=i/\i<r.length)(hl:pl.length<=1000) :
  lq (og js (cA 0) (gB (aI (Po id) (fR 2 cu (ae (af 0) (ae (af 2) ak))) (af 1))) (af 0) ρ) (rows.map aF)=.ok ((rows.filter λr=>decide (jY r pl=v)).map aF):=by
 refine qo λr hr=>?_;unfold og;rw[Pl];have e:y7 (aF (jY r pl)) (aF v)=.ok (decide (jY r pl=v)):=Hn _ _;by_cases c:jY r pl=v
 ·rw[hJ c] at e ⊢;simp only[Pzz,bx,Nat.reduceAdd,Nat.reduceSub,oJ (h r hr) hl,e,id]
 ·rw[hU c] at e ⊢;simp only[Pzz,bx,Nat.reduceAdd,Nat.reduceSub,oJ (h r hr) hl,e,id]
theorem Ic:∀{d:Nat} {u:U},dM m d u->∃us,u=.tup us
 |0,_,h=>by cases h
 |d+1,u,h=>by
  unfold dM at h;rcases h with⟨_,rfl,_⟩|rfl|⟨_,_,rfl,_⟩|⟨_,_,rfl,_⟩|⟨_,_,rfl,_⟩<;>exact⟨_,rfl⟩
theorem kg:∀{ws:List (List Int×U)},(∀w∈ws,∃us,w.2=.tup us)->nM (ws.map kN)=some ws
 | [],_=>rfl
 |w::ws,h=>by
  obtain⟨ks,u⟩:=w;obtain⟨us,hu⟩:=h _ X2;dsimp only at hu;subst hu;rw[X5];have e:Dk (kN (ks,.tup us))=some (ks,.tup us):=by
   show (ka (ks.map U.int)).map _=_;rw[kl];rfl
  unfold nM;rw[e,kg λw hw=>h w (X4 _ hw)]
theorem AA:∀{ps:List (List Int×U)} {k:List Int},k∈ps.map (·.1)->∃p∈ps,lF ps k=p.2
 |p::ps,k,h=>by
  unfold lF;rw[Zk];by_cases c:k=p.1
  ·rw[c,beq_self_eq_true];exact⟨p,X2,rfl⟩
  ·rw[beq_eq_false_iff_ne.mpr c];rw[X5] at h;obtain⟨q,h1,h2⟩:=AA ((Yb.mp h).resolve_left c);exact⟨q,X4 _ h1,h2⟩
theorem Ie {ws:List (List Int×U)}(h:∀w∈ws,dM m d w.2)(nd:(ws.map (·.1)).Nodup)(hl:ws.length<=1000):∃ws':List (List Int×U),uR [.lst (ws.map kN)]=.ok (.lst (ws'.map kN))/\ws'.length=ws.length/\∀w∈ws',dM m d w.2:=by
 refine⟨z9 ws,?_,?_,λw hw=>?_⟩
 ·unfold uR;dsimp only;rw[kg λw hw=>Ic (h w hw)];dsimp only;rw[hZ ⟨(by lia),nd⟩]
 ·unfold z9;rw[XO,(eC _).length_eq,XO]
 ·obtain⟨k,hk,rfl⟩:=Yn.mp hw;obtain⟨p,h1,h2⟩:=AA ((eC _).mem_iff.mp hk);dsimp only;rw[h2];exact h p h1
def Dr (r:List Int):toD (aF r)=some (.tup (r.map .int)):=by unfold aF toD;rw[qf];rfl
theorem AB {α:Type}{f:α->U}{g:α->D}(h:∀x,toD (f x)=some (g x)):∀xs:List α,eT (xs.map f)=some (xs.map g)
 | []=>by unfold eT;rfl
 |x::xs=>by rw[X5];unfold eT;rw[h,AB h xs];rfl
theorem KS (r:List Int):cF (.tup (r.map .int))<=1:=by unfold cF;rw[nF];lia
def KU (a b:List Int):iG (.tup (a.map .int)) (.tup (b.map .int))=decide (a=b):=by unfold iG;exact mn a b
theorem B1 (c:List Int)(rows:List (List Int)):xK not (aF c) (.lst (rows.map aF))=.ok (.bl (!decide (c∈rows))):=by
 unfold xK xJ;rw[Dr];show (match some (D.tup (c.map .int)),eT (rows.map aF) with|some dx,some ds=>_|_,_=>_)=_;rw[AB Dr];dsimp only;rw[hZ (by rw[abl];exact YT.mpr λr _=>hJ (by have:=KS r;show cF (.tup (r.map .int))<=30;lia))];congr 3;rw[List.any_map];have:((λd=>iG d (.tup (c.map .int)))∘λr:List Int=>D.tup (r.map .int))=λr=>decide (r=c):=funext λr=>KU r c;rw[this];by_cases h:c∈rows
 ·rw[hJ h];exact Z0.mpr ⟨c,h,hJ rfl⟩
 ·rw[hU h];exact List.any_eq_false.mpr λr hr e=>h (by rw[←of_decide_eq_true e];exact hr)
theorem EM (hb:BZ base m){k:Int}(hp:B0 m base n (k-1) d):Q5 m base (n+1) k (d+1):=λrows s b hr hs=>by
 obtain⟨r,e0,l0⟩:=qm hb hr.1;have m5:=hb.2.2.1;have m1:=hb.2.1;have sz:XU=16777216:=rfl;obtain⟨os,s1,e1,ho,gy⟩:=jo (m:=m) hs (by lia);obtain⟨t,s2,e2,t0,t1,cL⟩:=bK (m:=2) gy (by decide) (by decide);obtain⟨kk,hk,k1,km⟩:∃kk:Nat,1+t*(if decide (1<(m:Int))=true then 1 else 0)=(kk:Int)/\1<=kk/\kk<=m:=by
  have:t=0\/t=1:=(by lia)
  by_cases c:1<(m:Int)
  ·rw[hJ c,hZ rfl];rcases this with rfl|rfl
   ·exact⟨1,rfl,(by lia),(by lia)⟩
   ·exact⟨2,rfl,(by lia),(by lia)⟩
  ·rw[hU c,hV (by decide)];exact⟨1,(by lia),(by lia),(by lia)⟩
 have c1:oF t (if decide (1<(m:Int))=true then 1 else 0)=true:=qe t0 (by lia);obtain⟨pl,jZ⟩:∃pl,pl=os.take kk:=⟨_,rfl⟩;have Sw:(os.map U.int).take kk=pl.map U.int:=by rw[jZ,abx]
 have Xp:pl.length=kk:=by rw[jZ,Ys,pF ho];lia
 have VG:∀i∈pl,0<=i/\i<(m:Int):=λi hi=>yg ho i (Zq (jZ▸hi));have e3:=laids (js:=[none,some 5]) (ρ:=[some s2,some (.lst (rows.map aF)),some (.int k),some (.bl b),some (.int m),some (aF pl),none,none,none,none,none]) (rows:=rows) (os:=pl) (λu=>rfl)
  (λr iB=>by rw[nX hb hr.1 r iB];exact VG) (by lia)
 have Pm:=hr.2;obtain⟨seen,e4,ns,_,ms,nds⟩:=rF (rows:=rows.map λr=>jY r pl) (by
   have:=Dn (rows.map λr=>jY r pl) [];rw[XO] at this;have e:(([]:List (List Int)).length)=0:=rfl;unfold gZ;lia) (λx hx e=>by
   obtain⟨r,_,rfl⟩:=Yn.mp hx;have:=congrArg Z2 e;unfold jY at this;rw[XO,Xp] at this;have e:(([]:List Int).length)=0:=rfl;lia) (λz=>hr.1.1 (ZN.mp z))
 rw[jL,fB,sO];by_cases c4:4<seen.length
 ·obtain⟨cs,s3,e5,hcs,yw⟩:=yi (m:=m) cL m1 (by lia);refine⟨_,s3,?_,u6 hcs,yw⟩;have d4:decide ((4:Int)<(seen.length:Nat))=true:=hJ (by lia);rw[gx] at e3;simp only[Pzz,bx,Nat.reduceAdd,Nat.reduceSub,e0,gx,XO,l0,e1,e2,rR,yk,c1,hk,gc,Sw,e3,e4,d4,e5]
 ·have l2:(2:Nat)<=XU:=by decide
  have l3:(3:Nat)<=XU:=by decide
  have RQ:(0:Nat)<=XU:=by decide
  have Ut:(1:Nat)<=XU:=by decide
  obtain⟨ρ',e5,s3,ws,o8,o9,rfl,hw,hws,yw⟩:=gF (sg:=cA 8) (s:=aE (a9 9 (eh (d6 (af 1)) [none,some 8,some 5] (cA 0) (gB (aI (Po id) (fR 2 cu (ae (af 0) (ae (af 2) ak))) (af 1))) (af 0))) (iD (gM "list" 7 iK (ae (bu (ae (af 8) (ae (dw 4 0 (bM n) (ae (af 9) (ae (aI tW (af 2) (zqc 1)) (ae (af 3) ak)))) ak))) ak))))
   (λi ρ=>∃(s:U) (ws:List (List Int×U)) (o8 o9:Option U),ρ=[some s,some (.lst (rows.map aF)),some (.int k),some (.bl b),some (.int m),some (aF pl),some (.lst (seen.map aF)),some (.lst (ws.map kN)),o8,o9,none]/\ws.map (·.1)=seen.take i/\(∀w∈ws,dM m d w.2)/\jn s) (us:=seen.map aF)
   (λi u ρ hu h00=>by
    obtain⟨s,ws,o8,o9,hρ,hw,hws,hs⟩:=h00;subst hρ;rw[Yq] at hu;obtain⟨v,hv,rfl⟩:=acb.mp hu;have f1:=Q9 (js:=[none,some 8,some 5]) (ρ:=[some s,some (.lst (rows.map aF)),some (.int k),some (.bl b),some (.int m),some (aF pl),some (.lst (seen.map aF)),some (.lst (ws.map kN)),some (aF v),o9,none]) (rows:=rows) (v:=v) (pl:=pl) (λu=>rfl)
     (λr iB=>by rw[nX hb hr.1 r iB];exact VG) (by lia)
    obtain⟨r1,hr1,hv1⟩:=Yn.mp ((ms v).mp (YA hv));obtain⟨u,s',f2,hu,hs'⟩:=hp (rows.filter λr=>decide (jY r pl=v)) s b ⟨⟨List.ne_nil_of_mem (aa0.mpr ⟨hr1,hJ hv1⟩),λr iB=>hr.1.2 r (aa0.mp iB).1⟩,YX (List.length_filter_le _ _) Pm⟩ hs;have lw:(ws.map kN).length<XU:=by
     have:=congrArg Z2 hw;rw[XO,Ys] at this;rw[XO];lia
    refine⟨_,_,rfl,.inl (by
     simp only[Pzz,bx,Nat.reduceAdd,Nat.reduceSub,Yt,Yo,f1,f2,l2,Dq,lw];rfl),s',ws++[(v,u)],some (aF v),some (.lst ((rows.filter λr=>decide (jY r pl=v)).map aF)),?_,?_,?_,hs'⟩
    ·rw[Yv];rfl
    ·rw[Yv,hw,List.take_succ,hv];rfl
    ·intro w kP;rcases Yk.mp kP with z|z
     ·exact hws w z
     ·rw[Yf.mp z];exact hu) (ρ:=[some s2,some (.lst (rows.map aF)),some (.int k),some (.bl b),some (.int m),some (aF pl),some (.lst (seen.map aF)),some (.lst []),none,none,none]) ⟨s2,[],none,none,rfl,rfl,(λw h=>by cases h),cL⟩
  rw[XO,aam] at hw;have lw:ws.length=seen.length:=by rw[←hw,XO]
  have ls:0<seen.length:=abL.mpr ns;have nw:ws≠[]:=λz=>by rw[z] at lw;have e:(([]:List (List Int×U)).length)=0:=rfl;lia
  obtain⟨q,s4,e6,q0,q1,PB⟩:=bK (m:=6) yw (by decide) (by decide);have d4:decide ((4:Int)<(seen.length:Nat))=false:=hU (by lia);rw[gx] at e3 e5;by_cases cq:q=0
  ·subst cq;obtain⟨ys,s5,e7,ly,cs,hy,hs5⟩:=ke (G:=jK) (js:=[none,some 0]) (sg:=cA 0) (ge:=dw 2 1 ar (ae (zqc 10) ak))
    (λx:U=>[some x,some (.lst (rows.map aF)),some (.int k),some (.bl b),some (.int m),some (.tup (pl.map U.int)),some (.lst (seen.map aF)),some (.lst (ws.map kN)),o8,o9,none]) pl.length (λys x=>∃cs:List Int,ys=cs.map U.int/\jn x)
    (λdone u x hd h00=>by
     obtain⟨cs,hr,hs⟩:=h00;obtain⟨r,x',b1,_,_,b4⟩:=bK (m:=10) hs (by decide) (by decide);refine⟨[some u,some x],.int r,[some u,some x'],x',rfl,?_,rfl,cs++[r],by rw[hr,Yv];rfl,b4⟩;simp only[Pzz,bx,Nat.reduceAdd,Nat.reduceSub,b1]) (pl.map U.int) [] s4 (by rw[XO];simp) ⟨[],rfl,PB⟩
   rw[ZH] at hy;subst hy;have e8:xK not (.tup (cs.map U.int)) (.lst (seen.map aF))=.ok (.bl (!decide (cs∈seen))):=B1 cs seen;by_cases cc:cs∈seen
   ·rw[hJ cc] at e8;refine⟨.tup [.str "look",.tup (pl.map U.int),.tup (ws.map kN)],s5,?_,yf nw (by lia) hws,hs5⟩;simp only[Pzz,bx,Nat.reduceAdd,Nat.reduceSub,e0,gx,XO,l0,e1,e2,rR,yk,c1,hk,gc,Sw,e3,e4,d4,e5,RQ,e6,bh,Int.reduceBEq,id,e7,e8,aaq,l3]
   ·rw[hU cc] at e8;obtain⟨ds,s6,e9,hds,hs6⟩:=yi (m:=m) hs5 m1 (by lia);obtain⟨ws',e10,lw',hws'⟩:=Ie (d:=d) (ws:=ws++[(cs,.tup [.str "end",aF ds])]) (λw kP=>by
     rcases Yk.mp kP with z|z
     ·exact hws w z
     ·rw[Yf.mp z];cases d with
      |zero=>obtain⟨w,hw3⟩:=adw _ nw;cases hws w hw3
      |succ=>exact u6 hds) (by
     rw[Yv,hw];show (seen++[cs]).Nodup;rw[aco];exact⟨nds,by simp,λa ha c hc e=>cc (by rw[Yf.mp hc] at e;rw[←e];exact ha)⟩) (by rw[XW];show ws.length+1<=1000;lia)
    rw[XW] at lw';have VH:ws'.length=ws.length+1:=lw';have lc:ws.length+1<=XU:=(by lia)
    rw[Yv] at e10;have Xq:List.map kN [(cs,.tup [.str "end",aF ds])]=[.tup [.tup (cs.map U.int),.tup [.str "end",aF ds]]]:=rfl;rw[Xq,gx] at e10;refine⟨.tup [.str "look",.tup (pl.map U.int),.tup (ws'.map kN)],s6,?_,yf (λz=>by rw[z] at VH;cases VH) (by lia) hws',hs6⟩;simp only[Pzz,bx,Nat.reduceAdd,Nat.reduceSub,e0,gx,XO,l0,e1,e2,rR,yk,c1,hk,gc,Sw,e3,e4,d4,e5,RQ,e6,bh,Int.reduceBEq,id,e7,e8,abd,Q7,Q8,Ut,l2,l3,e9,lc,e10]
  ·have b6:(q==0)=false:=beq_eq_false_iff_ne.mpr cq;refine⟨.tup [.str "look",.tup (pl.map U.int),.tup (ws.map kN)],s4,?_,yf nw (by lia) hws,PB⟩;simp only[Pzz,bx,Nat.reduceAdd,Nat.reduceSub,e0,gx,XO,l0,e1,e2,rR,yk,c1,hk,gc,Sw,e3,e4,d4,e5,RQ,e6,bh,b6,id,l3]
theorem u7 {base:List (List Int)}{m:Nat}(hb:BZ base m):∀(k n:Nat),B0 m base (2*k+n+1) ((k:Int)+1) (k+1)
 |0,n=>H_ hb (by lia)
 |k+1,n=>by
  have h1:=u7 hb k (n+1);have h2:=u7 hb k n;have e:((k+1:Nat):Int)+1-1=(k:Int)+1:=(by lia)
  rw[show 2*(k+1)+n+1=(2*k+(n+1)+1)+1 by lia];refine EL hb (by rw[e];exact h1) ?_ (by lia);rw[show 2*k+(n+1)+1=(2*k+n+1)+1 by lia];exact EM hb (by rw[e];exact h2)
def OQ {a b:U}:kL 2 (dk (cA i) (dk (cA j) kK)) (.tup [a,b]) ρ=.ok ((ρ.set i (some a)).set j (some b)):=nr rfl
def jE:(X9 "end"==X9 "end")=true/\(X9 "end"==X9 "again")=false/\(X9 "end"==X9 "lay")=false/\(X9 "end"==X9 "mix")=false/\(X9 "end"==X9 "look")=false/\(X9 "again"==X9 "end")=false/\(X9 "again"==X9 "again")=true/\(X9 "again"==X9 "lay")=false/\(X9 "again"==X9 "mix")=false/\(X9 "again"==X9 "look")=false/\(X9 "lay"==X9 "end")=false/\(X9 "lay"==X9 "again")=false/\(X9 "lay"==X9 "lay")=true/\(X9 "lay"==X9 "mix")=false/\(X9 "lay"==X9 "look")=false/\(X9 "mix"==X9 "end")=false/\(X9 "mix"==X9 "again")=false/\(X9 "mix"==X9 "lay")=false/\(X9 "mix"==X9 "mix")=true/\(X9 "mix"==X9 "look")=false/\(X9 "look"==X9 "end")=false/\(X9 "look"==X9 "again")=false/\(X9 "look"==X9 "lay")=false/\(X9 "look"==X9 "mix")=false/\(X9 "look"==X9 "look")=true:=by decide
def Q_ {f:Bool->Bool}(hx:toD u=some dx)(hs:eT us=some ds)(hd:∀d∈ds,cF d<=30):xK f u (.tup us)=.ok (.bl (f (ds.any λd=>iG d dx))):=by
 unfold xK;rw[hx,show (xJ (.tup us)).bind eT=some ds from hs];dsimp only;rw[hZ (YT.mpr λd h=>hJ (hd d h))]
def TR {f:Bool->Bool}(hx:toD u=some dx)(hs:eT us=some ds)(hd:∀d∈ds,cF d<=30):xK f u (.lst us)=.ok (.bl (f (ds.any λd=>iG d dx))):=by
 unfold xK;rw[hx,show (xJ (.lst us)).bind eT=some ds from hs];dsimp only;rw[hZ (YT.mpr λd h=>hJ (hd d h))]
theorem ng {a b c:Str}:xK id (.str a) (.tup [.str b,.str c])=.ok (.bl (b==a||c==a)):=by
 rw[Q_ (dx:=.str a) (ds:=[.str b,.str c]) (by simp[toD]) (by simp[eT,toD]) (by
  intro d h;simp only[Yb,aaK,or_false] at h;rcases h with rfl|rfl<;>(unfold cF;lia))]
 simp[iG]
noncomputable def mx:List Nat->Nat
 | []=>0
 |x::xs=>max x (mx xs)
noncomputable abbrev Rc:=U×Nat×Nat×Bool
noncomputable abbrev zR (r:Rc):Nat:=r.2.1
noncomputable abbrev hR (r:Rc):Nat:=r.2.2.1
noncomputable abbrev bR (r:Rc):Bool:=r.2.2.2
noncomputable def mQ (w:List Int×Rc):U:=kN (w.1,w.2.1)
noncomputable def OR (ps:List (List Int)):U:=.tup (ps.map aF)
inductive BP (m:Nat):Nat->U->Nat->Nat->Bool->Prop
 |en {k:Nat} {cs:List Int}:3<=k->cs.length<=m->BP m k (.tup [.str "end",aF cs]) 1 1 (cs.length==m)
 |ag {k:Nat}:3<=k->BP m k (.tup [.str "again"]) 1 1 true
 |la {k z h:Nat} {b:Bool} {p:List Int} {q:U}:BP m k q z h b->BP m (k+1) (.tup [.str "lay",aF p,q]) (1+z) (1+h) b
 |mi {k z h:Nat} {b:Bool} {ps:List (List Int)} {q:U}:BP m k q z h b->BP m (k+1) (.tup [.str "mix",OR ps,q]) (1+z) (1+h) b
 |lo {k:Nat} {pl:List Int} {ws:List (List Int×Rc)}:ws≠[]->ws.length<=10->(∀w∈ws,BP m k w.2.1 (zR w.2) (hR w.2) (bR w.2))->BP m (k+3) (.tup [.str "look",aF pl,.tup (ws.map mQ)]) (1+(ws.map λw=>zR w.2).sum) (1+mx (ws.map λw=>hR w.2)) (ws.all λw=>bR w.2)
abbrev OS (m k:Nat)(r:Rc):Prop:=BP m k r.1 (zR r) (hR r) (bR r)
theorem BP.three {h:Nat}(H:BP m k u z h b):3<=k:=by
 induction H with
 |en h _=>exact h
 |ag h=>exact h
 |la _ ih=>lia
 |mi _ ih=>lia
 |lo _ _ _ _=>lia
theorem BP.mono {h:Nat}(H:BP m k u z h b):∀{k'},k<=k'->BP m k' u z h b:=by
 induction H with
 |en h l=>exact λe=>.en (by lia) l
 |ag h=>exact λe=>.ag (by lia)
 |la _ ih=>
  intro k' e;obtain⟨j,rfl⟩:∃j,k'=j+1:=⟨k' - 1,(by lia)⟩;exact .la (ih (by lia))
 |mi _ ih=>
  intro k' e;obtain⟨j,rfl⟩:∃j,k'=j+1:=⟨k' - 1,(by lia)⟩;exact .mi (ih (by lia))
 |lo h1 h2 _ ih=>
  intro k' e;obtain⟨j,rfl⟩:∃j,k'=j+3:=⟨k' - 3,(by lia)⟩;exact .lo h1 h2 λw hw=>ih w hw (by lia)
theorem BP.tup {h:Nat}(H:BP m k u z h b):∃us,u=.tup us:=by cases H<;>exact⟨_,rfl⟩
theorem BP.pos {h:Nat}(H:BP m k u z h b):1<=z:=by cases H<;>lia
theorem AD:∀{us:List U} {k:Nat},(∀u∈us,∃d,toD u=some d/\cF d<=k)->∃ds,eT us=some ds/\j7 ds<=k/\ds.length=us.length/\∀d∈ds,cF d<=k
 | [],k,_=>⟨[],by simp[eT],by simp[j7],rfl,λd h=>by cases h⟩
 |u::us,k,h=>by
  obtain⟨d,e,l⟩:=h u X2;obtain⟨ds,e2,l2,n2,a2⟩:=AD λx hx=>h x (X4 _ hx);refine⟨d::ds,by simp[eT,e,e2],by simp only[j7];lia,by rw[X1,X1,n2],λx hx=>?_⟩;rcases Yb.mp hx with rfl|z
  ·exact l
  ·exact a2 x z
theorem iT (h:∀u∈us,∃d,toD u=some d/\cF d<=k):∃d,toD (.tup us)=some d/\cF d<=k+1:=by
 obtain⟨ds,e,l,_⟩:=AD h;exact⟨.tup ds,by unfold toD;rw[e];rfl,by unfold cF;lia⟩
def KW {i:Int}:∃d,toD (.int i)=some d/\cF d<=0:=⟨.int i,by simp[toD],by simp[cF]⟩
def pG {s:Str}:∃d,toD (.str s)=some d/\cF d<=k:=⟨.str s,by simp[toD],by simp[cF]⟩
theorem Pw (h:∃d,toD u=some d/\cF d<=k)(l:k<=j):∃d,toD u=some d/\cF d<=j:=by
 obtain⟨d,e,q⟩:=h;exact⟨d,e,(by lia)⟩
theorem lR {p:List Int}:∃d,toD (aF p)=some d/\cF d<=1:=iT (k:=0) λu hu=>by
 obtain⟨i,_,rfl⟩:=Yn.mp hu;exact KW
theorem KY {ps:List (List Int)}:∃d,toD (OR ps)=some d/\cF d<=2:=iT (k:=1) λu hu=>by
 obtain⟨p,_,rfl⟩:=Yn.mp hu;exact lR
theorem EN {P:U->Prop}{a b c:U}(h1:P a)(h2:P b)(h3:P c):∀u∈[a,b,c],P u:=by
 intro u hu;simp only[Yb,aaK,or_false] at hu;rcases hu with rfl|rfl|rfl<;>assumption
theorem KZ {P:U->Prop}{a b:U}(h1:P a)(h2:P b):∀u∈[a,b],P u:=by
 intro u hu;simp only[Yb,aaK,or_false] at hu;rcases hu with rfl|rfl<;>assumption
def Ra {P:U->Prop}{a:U}(h1:P a):∀u∈[a],P u:=λu hu=>by rw[Yf.mp hu];exact h1
theorem BP.toD {h:Nat}(H:BP m k u z h b):∃d,toD u=some d/\cF d<=k:=by
 induction H with
 |en h3 _=>exact Pw (iT (k:=1) (KZ pG lR)) (by lia)
 |ag h3=>exact Pw (iT (k:=1) (Ra pG)) (by lia)
 |la hq ih=>exact iT (EN pG (Pw lR (by have:=hq.three;lia)) ih)
 |mi hq ih=>exact iT (EN pG (Pw KY (by have:=hq.three;lia)) ih)
 | @lo k _ ws ne _ hw ih=>
  have k3:3<=k:=by
   obtain⟨w,r,rfl⟩:=aaI ne;exact (hw w X2).three
  refine iT (k:=k+2) (EN pG (Pw lR (by lia)) (iT (k:=k+1) λu hu=>?_));obtain⟨w,kP,rfl⟩:=Yn.mp hu;exact iT (KZ (Pw lR (by lia)) (ih w kP))
noncomputable def K0 (u:U):U:=match u with
 | .tup [_,x]=>x
 |_=>.non
noncomputable def jq (u:U):List U:=match u with
 | .tup [.str s,_,q]=>if s="look" then (match q with
   | .tup ws=>ws.map K0
   |_=>[]) else [q]
 |_=>[]
noncomputable def qp (m:Nat)(u:U):Bool:=match u with
 | .tup [.str _,.tup cs]=>cs.length==m
 |_=>true
def Ds {p:U}:jq (.tup [.str "lay",p,q])=[q]:=by
 unfold jq;exact hV (by decide)
def Dt {p:U}:jq (.tup [.str "mix",p,q])=[q]:=by
 unfold jq;exact hV (by decide)
def AE {p:U}:jq (.tup [.str "look",p,.tup ws])=ws.map K0:=by
 unfold jq;exact hZ rfl
def Rb {p:U}{ws:List (List Int×Rc)}:jq (.tup [.str "look",p,.tup (ws.map mQ)])=(ws.map (·.2)).map (·.1):=by
 rw[AE,Yd,Yd];rfl
theorem BP.kids {h:Nat}(H:BP m (k+1) u z h b):∃ks:List Rc,jq u=ks.map (·.1)/\(∀r∈ks,OS m k r)/\z=1+(ks.map zR).sum/\h=1+mx (ks.map hR)/\b=(qp m u&&ks.all bR):=by
 generalize hk:k+1=k1 at H;cases H with
 |en h3 l=>exact⟨[],rfl,(λr h=>by cases h),rfl,rfl,by show _=((List.map U.int _).length==m&&true);rw[XO,Bool.and_true]⟩
 |ag h3=>exact⟨[],rfl,(λr h=>by cases h),rfl,rfl,rfl⟩
 | @la k' z' h' b' p q hq=>
  refine⟨[(q,z',h',b)],Ds,λr hr=>?_,by simp[zR],by simp[hR,mx],by simp[qp,bR]⟩;rw[Yf.mp hr];exact hq.mono (by lia)
 | @mi k' z' h' b' p q hq=>
  refine⟨[(q,z',h',b)],Dt,λr hr=>?_,by simp[zR],by simp[hR,mx],by simp[qp,bR]⟩;rw[Yf.mp hr];exact hq.mono (by lia)
 | @lo k' pl ws ne l hw=>
  refine⟨ws.map (·.2),Rb,λr hr=>?_,by rw[Yd];rfl,by rw[Yd];rfl,?_⟩
  ·obtain⟨w,kP,rfl⟩:=Yn.mp hr;exact (hw w kP).mono (by lia)
  ·rw[abl];show _=(true&&_);rw[Bool.true_and];rfl
theorem AF {m k:Nat}:∀{L:List Rc},(∀r∈L,OS m (k+1) r)->∃K:List Rc,(L.map (·.1)).flatMap jq=K.map (·.1)/\(∀r∈K,OS m k r)/\(L.map zR).sum=L.length+(K.map zR).sum/\(L≠[]->mx (L.map hR)=1+mx (K.map hR))/\L.all bR=((L.map (·.1)).all (qp m)&&K.all bR)
 | [],_=>⟨[],rfl,(λr h=>by cases h),rfl,λz=>absurd rfl z,rfl⟩
 |r::L,H=>by
  obtain⟨ks,e1,e2,e3,e4,e5⟩:=(H r X2).kids;obtain⟨K,f1,f2,f3,f4,f5⟩:=AF λx hx=>H x (X4 _ hx);refine⟨ks++K,?_,λx hx=>(Yk.mp hx).elim (e2 x) (f2 x),?_,λ_=>?_,?_⟩
  ·rw[X5,List.flatMap_cons,e1,f1,Yv]
  ·rw[X5,ZY,e3,f3,Yv,List.sum_append,X1];lia
  ·have Xr:∀xs ys:List Nat,mx (xs++ys)=max (mx xs) (mx ys):=λxs ys=>by
    induction xs with
    |nil=>show mx ys=max 0 (mx ys);lia
    |cons x xs ih=>show max x (mx (xs++ys))=max (max x (mx xs)) (mx ys);rw[ih];lia
   rw[X5,Yv,Xr];show max (hR r) (mx (L.map hR))=_;rw[e4];by_cases c:L=[]
   ·subst c;have:K.map (·.1)=[]:=f1.symm;rw[ZN.mp this];show max (1+_) 0=1+max _ 0;lia
   ·rw[f4 c];lia
  ·rw[Z6,e5,f5,X5,Z6,List.all_append];cases qp m r.1<;>cases ks.all bR<;>cases (L.map (·.1)).all (qp m)<;>rfl
noncomputable def bP:Ev->SR:=(dR (JO (gB (aI (cx id) (zqb 2 0) (gC (.str "lay")))) (gB (aI (cx id) (zqb 2 0) (gC (.str "mix"))))) (iD (gM "list" 1 iK (ae (zqb 2 2) ak))) (dR (gB (aI (cx id) (zqb 2 0) (gC (.str "look")))) (iD (gM "list" 1 fW (ae (eh (d6 (zqb 2 2)) [none] (cA 0) bY (zqb 0 1)) ak))) aR))
def TU:jd=(aE (a9 1 (eW ak)) (aE (nv (d6 (af 0)) (cA 2) bP) (bg (af 1)))):=rfl
theorem Rf {h:Nat}(H:BP m k u z h b){x:Option U}{K:List U}(lk:K.length+(jq u).length<=100000):bP [x,some (.lst K),some u]=.nx [x,some (.lst (K++jq u)),some u]:=by
 have So:XU=16777216:=rfl;have lK:K.length<XU:=(by lia)
 unfold bP;cases H with
 |en h3 l=>
  show _=SR.nx [x,some (.lst (K++[])),_];rw[Yu];simp only[Pzz,bx,Nat.reduceAdd,Nat.reduceSub,aN,jE,id]
 |ag h3=>
  show _=SR.nx [x,some (.lst (K++[])),_];rw[Yu];simp only[Pzz,bx,Nat.reduceAdd,Nat.reduceSub,aN,jE,id]
 |la hq=>
  rw[Ds];simp only[Pzz,bx,Nat.reduceAdd,Nat.reduceSub,Yt,Yo,aN,jE,Dq,lK,id]
 |mi hq=>
  rw[Dt];simp only[Pzz,bx,Nat.reduceAdd,Nat.reduceSub,Yt,Yo,aN,jE,Dq,lK,id]
 | @lo k' pl ws ne l hw=>
  rw[AE] at lk ⊢;have lx:K.length+((ws.map mQ).map K0).length<=XU:=(by lia)
  have e:lq (og [none] (cA 0) bY (zqb 0 1) [x,some (.lst K),some (.tup [.str "look",aF pl,.tup (ws.map mQ)])]) (ws.map mQ)=.ok ((ws.map mQ).map K0):=by
   rw[Yd];exact cb λw hw=>by
    unfold mQ kN;simp only[av,bJ,NS,bx,Nat.reduceAdd,Nat.reduceSub];rfl
  simp only[Pzz,bx,Nat.reduceAdd,Nat.reduceSub,Yt,Yo,aN,jE,e,HU,lx,id]
theorem EO {L:List Rc}(H:∀r∈L,OS m k r)(hl:((L.map (·.1)).flatMap jq).length<=100000):dN [.lst (L.map (·.1))]=.ok (.lst ((L.map (·.1)).flatMap jq)):=by
 generalize hus:L.map (·.1)=us at hl ⊢;have Hu:∀u∈us,∃z h b,BP m k u z h b:=λu hu=>by
  rw[←hus] at hu;obtain⟨r,hr,rfl⟩:=Yn.mp hu;exact⟨_,_,_,H r hr⟩
 obtain⟨ρ',e,o,rfl⟩:=gF (sg:=cA 2) (s:=bP) (us:=us) (λi ρ=>∃o,ρ=[some (.lst us),some (.lst ((us.take i).flatMap jq)),o])
  (λi u ρ hu h00=>by
   obtain⟨o,hρ⟩:=h00;subst hρ;have hm:=YA hu;have tk:us.take (i+1)=us.take i++[u]:=by rw[List.take_succ,hu];rfl
   obtain⟨z,h,b,B⟩:=Hu u hm;have sp:us=us.take (i+1)++us.drop (i+1):=(YJ _ _).symm;have ln:=congrArg (λl=>(l.flatMap jq).length) sp;rw[tk,acX,acX,List.flatMap_singleton,XW,XW] at ln;refine⟨_,_,rfl,.inl (Rf B (by lia)),some u,?_⟩;rw[tk,acX,List.flatMap_singleton]) (ρ:=[some (.lst us),some (.lst []),none]) ⟨none,rfl⟩
 rw[aam] at e;rw[dN,TU];simp only[Pzz,bx,Nat.reduceAdd,Nat.reduceSub,e]
noncomputable def hL:Ev->R (Bool×Ev):=gB (aI Je (fg gw (ae (af 2) ak)) (zqc 0))
noncomputable def OT:Ev->SR:=(aE (iD (gM "list" 1 iK (ae (af 2) ak))) (a9 2 (fR 1 dN (ae (af 2) ak))))
def TV:lG=(aE (a9 1 (eW ak)) (aE (a9 2 (eW (ae (af 0) ak))) (aE (gD hL OT 1000) (bg (af 1))))):=rfl
def Ig {x0 x1:Option U}:hL [x0,x1,some (.lst us)]=.ok (decide ((0:Int)<((us.length:Nat):Int)),[x0,x1,some (.lst us)]):=by
 unfold hL;simp only[Pzz,bx,Nat.reduceAdd,Nat.reduceSub,rR]
theorem AG:∀xs:List Nat,(xs.map λx=>((x:Nat):Int)).sum=((xs.sum:Nat):Int)
 | []=>rfl
 |x::xs=>by rw[X5,ZY,ZY,AG xs];lia
theorem ym {xs:List Nat}(h:xs.length<=1000000)(hb:∀x∈xs,x<=1000000000):rg [.lst (xs.map λx:Nat=>U.int x)]=.ok (.int (xs.sum:Nat)):=by
 unfold rg;dsimp only;rw[show (xs.map λx:Nat=>U.int x)=(xs.map λx=>((x:Nat):Int)).map U.int by rw[Yd];rfl,kl];dsimp only;rw[hZ,AG];unfold xI;rw[YD];refine⟨hJ (by rw[XO];exact h),YT.mpr λz hz=>?_⟩;obtain⟨x,hx,rfl⟩:=Yn.mp hz;have:=hb x hx;exact hJ (by lia)
theorem pH {xs:List Nat}:∀x∈xs,x<=xs.sum:=by
 induction xs with
 |nil=>intro x h;cases h
 |cons y ys ih=>
  intro x h;rw[ZY];rcases Yb.mp h with rfl|z
  ·lia
  ·have:=ih x z;lia
theorem Du {m k:Nat}:∀{L:List Rc},(∀r∈L,OS m k r)->L.length<=(L.map zR).sum
 | [],_=>ZT _
 |r::L,H=>by
  have h1:=Du λx hx=>H x (X4 _ hx);have h2:=(H r X2).pos;rw[X5,ZY,X1];lia
theorem ER {t:U}:∀(k cZ:Nat) (L:List Rc) (Ls:List (List U)),k+1<cZ->(∀r∈L,OS m k r)->(L.map zR).sum<=10000->Ls.length+k<=1000->
  ∃Ms:List (List U),gD hL OT cZ [some t,some (.lst (Ls.map U.lst)),some (.lst (L.map (·.1)))]=.nx [some t,some (.lst ((Ls++Ms).map U.lst)),some (.lst [])]/\(Ms.map Z2).sum=(L.map zR).sum/\Ms.length=mx (L.map hR)/\Ms.length<=k+1/\(Ms.all λl=>l.all (qp m))=L.all bR/\∀l∈Ms,∀u∈l,∃k z h b,BP m k u z h b:=by
 intro k
 induction k with
 |zero=>
  intro cZ L Ls hf H hs hl;obtain⟨cZ,rfl⟩:∃f,cZ=f+1:=⟨cZ-1,(by lia)⟩;have hz:L=[]:=by
   cases L with
   |nil=>rfl
   |cons r L=>have:=(H r X2).three;lia
  subst hz;refine⟨[],?_,rfl,rfl,(by decide),rfl,(λl h=>by cases h)⟩;rw[xq,aaa,Ig,Yu];rfl
 |succ k ih=>
  intro cZ L Ls hf H hs hl;obtain⟨cZ,rfl⟩:∃f,cZ=f+1:=⟨cZ-1,(by lia)⟩;by_cases hz:L=[]
  ·subst hz;refine⟨[],?_,rfl,rfl,by rw[aaC];lia,rfl,(λl h=>by cases h)⟩;rw[xq,aaa,Ig,Yu];rfl
  ·have lp:=abL.mpr hz;obtain⟨K,f1,f2,f3,f4,f5⟩:=AF H;have lK:=Du f2;have wi:=EO H (by rw[f1,XO];lia);have So:XU=16777216:=rfl;have lk:Ls.length<XU:=(by lia)
   rw[f1] at wi;obtain⟨Ms,e,h1,h2,h3,h4,h5⟩:=ih cZ K (Ls++[L.map (·.1)]) (by lia) f2 (by lia) (by rw[XW,ZP];lia);refine⟨L.map (·.1)::Ms,?_,by rw[X5,ZY,h1,f3,XO],by rw[X1,h2,f4 hz];lia,by rw[X1];lia,by rw[Z6,h4,f5],λl IG=>?_⟩
   ·rw[xq,Ig,XO,hJ (show (0:Int)<((L.length:Nat):Int) by lia)];show (OT _).turn _=_;have b:OT [some t,some (.lst (Ls.map U.lst)),some (.lst (L.map (·.1)))]=.nx [some t,some (.lst ((Ls++[L.map (·.1)]).map U.lst)),some (.lst (K.map (·.1)))]:=by
     unfold OT;simp only[Pzz,bx,Nat.reduceAdd,Nat.reduceSub,Dq,XO,lk,wi,Yv,X5,aaa]
    rw[b];show gD hL OT cZ _=_;rw[e,Yi];rfl
   ·rcases Yb.mp IG with rfl|z
    ·intro u hu;obtain⟨r,hr,rfl⟩:=Yn.mp hu;exact⟨_,_,_,_,H r hr⟩
    ·exact h5 l z
theorem qr {h:Nat}(H:BP m k u z h b)(hk:k<=100)(hz:z<=10000):∃Ms:List (List U),cR [u]=.ok (.lst (Ms.map U.lst))/\(Ms.map Z2).sum=z/\Ms.length=h/\Ms.length<=101/\(Ms.all λl=>l.all (qp m))=b/\∀l∈Ms,∀u∈l,∃k z h b,BP m k u z h b:=by
 obtain⟨Ms,e,h1,h2,h3,h4,h5⟩:=ER (m:=m) (t:=u) k 1000 [(u,z,h,b)] [] (by lia) (λr hr=>by rw[Yf.mp hr];exact H) (by simpa [zR] using hz) (by rw[aaC];lia);rw[ZH] at e;refine⟨Ms,?_,by simpa [zR] using h1,by simpa [hR,mx] using h2,(by lia),by simpa [bR] using h4,h5⟩;have en:List.map U.lst []=[]:=rfl;rw[en] at e;rw[cR,TV];have e:gD hL OT 1000 [some u,some (.lst []),some (.lst [u])]=_:=e;simp only[Pzz,bx,Nat.reduceAdd,Nat.reduceSub,e]
theorem AH {h:Nat}(H:BP m k u z h b)(hk:k<=100)(hz:z<=10000):je [u]=.ok (.int (z:Nat)):=by
 obtain⟨Ms,lv,h1,h2,h3,h4,h5⟩:=qr H hk hz;have e2:lq (og [none] (cA 0) bY (fg gw (ae (af 0) ak)) [some u]) (Ms.map U.lst)=.ok ((Ms.map Z2).map λx:Nat=>U.int x):=by
  rw[Yd];exact cb λl hl=>by simp only[av,bJ,NS,bx,Nat.reduceAdd,Nat.reduceSub];rfl
 have e3:=ym (xs:=Ms.map Z2) (by rw[XO];lia) λx hx=>by
  have:=pH x hx;lia
 rw[h1] at e3;simp only[Pzz,bx,Nat.reduceAdd,Nat.reduceSub,je,nO,lv,e2,e3]
theorem Ih {h:Nat}(H:BP m k u z h b)(hk:k<=100)(hz:z<=10000):a7 [u]=.ok (.bl (decide (60<z)||decide (12<h))):=by
 obtain⟨Ms,lv,h1,h2,h3,h4,h5⟩:=qr H hk hz;have e1:=AH H hk hz;have d1:decide ((60:Int)<(z:Nat))=decide (60<z):=decide_eq_decide.mpr (by lia);have d2:decide ((12:Int)<((Ms.map U.lst).length:Nat))=decide (12<h):=decide_eq_decide.mpr (by rw[XO];lia);cases c:decide (60<z) with
 |true=>
  rw[c] at d1;simp only[Pzz,bx,Nat.reduceAdd,Nat.reduceSub,a7,fZ,e1,rR,d1,adi]
 |false=>
  rw[c] at d1;simp only[Pzz,bx,Nat.reduceAdd,Nat.reduceSub,a7,fZ,e1,lv,rR,d1,d2,Bool.false_or]
noncomputable def gA:Ev->R (Bool×Ev):=gB (fg zc (ae (eh (d6 (af 2)) [none,some 0] (cA 0) (gB (aI (cx id) (zqb 0 0) (gC (.str "end")))) (aI (cx id) (fg gw (ae (zqb 0 1) ak)) (af 1))) ak))
def TX:ft=(aE (nv (d6 (fR 1 cR (ae (af 1) ak))) (cA 2) (dR (vv gA) (bg (gC (.bl false))) aR)) (bg (gC (.bl true)))):=rfl
noncomputable def K1 (m:Nat)(u:U):Option Bool:=match u with
 | .tup [.str _,.tup cs]=>some (cs.length==m)
 |_=>none
theorem Ii {f:U->R (Option U)}{g:U->Option Bool}:∀{us:List U},(∀u∈us,f u=.ok ((g u).map U.bl))->lq f us=.ok ((us.filterMap g).map U.bl)
 | [],_=>rfl
 |u::us,h=>by
  unfold lq;rw[h u X2];show (lq f us).bind _=_;rw[Ii λy hy=>h y (X4 _ hy)];show R.ok _=_;rw[aay];cases g u<;>rfl
theorem Ij {m:Nat}:∀us:List U,(us.filterMap (K1 m)).all id=us.all (qp m)
 | []=>rfl
 |u::us=>by
  rw[aay,Z6,←Ij us];unfold K1 qp;split<;>rename_i h
  ·split at h
   ·cases h
   ·simp
  ·split at h
   ·cases h;rfl
   ·cases h
noncomputable def tB:U->Bool
 | .bl b=>b
 |_=>true
def OU (bs:List Bool):zc [.lst (bs.map U.bl)]=.ok (.bl (bs.all id)):=by
 have e:=ue (bs.map U.bl) tB;rw[Yd,abl] at e;exact e
theorem Rg {p:U}{l:List U}(H:∀u∈l,∃k z h b,BP m k u z h b):gA [some (.int m),some p,some (.lst l)]=.ok (l.all (qp m),[some (.int m),some p,some (.lst l)]):=by
 have e:lq (og [none,some 0] (cA 0) (gB (aI (cx id) (zqb 0 0) (gC (.str "end")))) (aI (cx id) (fg gw (ae (zqb 0 1) ak)) (af 1)) [some (.int m),some p,some (.lst l)]) l=.ok ((l.filterMap (K1 m)).map U.bl):=Ii λu hu=>by
  obtain⟨k,z,h,b,B⟩:=H u hu;cases B with
  | @en _ cs h3 ll=>
   have c:(((cs.map U.int).length:Int)==(m:Int))=((cs.map U.int).length==m):=by
    rw[Z_,beq_iff_eq,beq_iff_eq];lia
   unfold aF;simp only[Pzz,bx,Nat.reduceAdd,Nat.reduceSub,aN,bh,jE,id,c];rfl
  |ag h3=>simp only[Pzz,bx,Nat.reduceAdd,Nat.reduceSub,aN,jE,id];rfl
  |la hq=>simp only[Pzz,bx,Nat.reduceAdd,Nat.reduceSub,aN,jE,id];rfl
  |mi hq=>simp only[Pzz,bx,Nat.reduceAdd,Nat.reduceSub,aN,jE,id];rfl
  |lo _ _ _=>simp only[Pzz,bx,Nat.reduceAdd,Nat.reduceSub,aN,jE,id];rfl
 have ea:=OU (l.filterMap (K1 m));unfold gA;rw[Ij] at ea;simp only[Pzz,bx,Nat.reduceAdd,Nat.reduceSub,e,ea]
theorem AI {m:Nat}{p:U}:∀{Ms:List (List U)} {o:Option U},(∀l∈Ms,∀u∈l,∃k z h b,BP m k u z h b)->
  ∃ρ,jH (cA 2) (dR (vv gA) (bg (gC (.bl false))) aR) (Ms.map U.lst) [some (.int m),some p,o]=if (Ms.all λl=>l.all (qp m))=true then .nx ρ else .rt (.bl false) ρ
 | [],o,_=>⟨_,rfl⟩
 |l::Ms,o,H=>by
  have g:=Rg (m:=m) (p:=p) (l:=l) λu hu=>H l X2 u hu;rw[X5,Z6];cases c:l.all (qp m) with
  |false=>
   rw[c] at g;refine⟨[some (.int m),some p,some (.lst l)],?_⟩;rw[t_];simp only[Pzz,bx,Nat.reduceAdd,Nat.reduceSub,Yt,Yo,g,abd,Bool.false_and,Yj,if_false]
  |true=>
   rw[c] at g;obtain⟨ρ,e⟩:=AI (p:=p) (o:=some (.lst l)) λl' hl=>H l' (X4 _ hl);refine⟨ρ,?_⟩;rw[t_,Bool.true_and,←e];simp only[Pzz,bx,Nat.reduceAdd,Nat.reduceSub,Yt,Yo,g,aaq]
theorem Ik {h:Nat}(H:BP m k u z h b)(hk:k<=100)(hz:z<=10000):aH [.int m,u]=.ok (.bl b):=by
 obtain⟨Ms,lv,h1,h2,h3,h4,h5⟩:=qr H hk hz;obtain⟨ρ,e⟩:=AI (p:=u) (o:=none) h5;rw[h4] at e;rw[aH,TX];cases b with
 |true=>
  rw[hZ rfl] at e;simp only[Pzz,bx,Nat.reduceAdd,Nat.reduceSub,lv,e]
 |false=>
  rw[hV XR] at e;simp only[Pzz,bx,Nat.reduceAdd,Nat.reduceSub,lv,e]
def AJ (n:Nat):dq .S 2 (cS n)=a8 n:=rfl
def u9 (n:Nat):dq .S 6 (dH n)=df n:=rfl
def yn:kM .non=true:=nr rfl
def Dv:kM (.tup us)=false:=nr rfl
noncomputable def K2 (us:List U)(ρ:Ev):R (List U×Ev):=match us with
 | [u,w]=>match Em u,Em w with
  |some us,some ws=>.ok (abp (λa b=>.tup [a,b]) us ws,ρ)
  |_,_=>.stk
 |_=>.stk
def MK {ga:Ev->R (List U×Ev)}:En ga ρ=(ga ρ).bind λx=>K2 x.1 x.2:=nr rfl
theorem OV {ga:Ev->R (List U×Ev)}:Aa ga ρ=(ga ρ).bind λx=>(K2 x.1 x.2).bind λy=>.ok (.tup y.1,y.2):=nr (by unfold Aa;rw[MK];cases ga ρ<;>rfl)
def K3:K2 [.tup us,.tup ws] ρ=.ok (abp (λa b=>.tup [a,b]) us ws,ρ):=nr rfl
def K4:K2 [.lst us,.lst ws] ρ=.ok (abp (λa b=>.tup [a,b]) us ws,ρ):=nr rfl
theorem Il {α:Type}{f g:α->U}:∀vs:List α,abp (λa b=>U.tup [a,b]) (vs.map f) (vs.map g)=vs.map λv=>.tup [f v,g v]
 | []=>rfl
 |v::vs=>by rw[X5,X5,List.zipWith_cons_cons,Il vs];rfl
theorem yo {α β:Type}{P:α->β->Prop}:∀{xs:List α},(∀x∈xs,∃y,P x y)->∃vs:List (α×β),vs.map (·.1)=xs/\∀v∈vs,P v.1 v.2
 | [],_=>⟨[],rfl,λv h=>by cases h⟩
 |x::xs,h=>by
  obtain⟨y,hy⟩:=h x X2;obtain⟨vs,e,hv⟩:=yo λz hz=>h z (X4 _ hz);exact⟨(x,y)::vs,by rw[X5,e],λv qz=>(Yb.mp qz).elim (λz=>by rw[z];exact hy) (hv v)⟩
theorem Im (h:∀u∈us,u=.non\/∃vs d,u=.tup vs/\toD u=some d/\cF d<=30):xK id .non (.lst us)=.ok (.bl (us.any kM)):=by
 have key:∃ds,eT us=some ds/\(∀d∈ds,cF d<=30)/\(ds.any λd=>iG d .non)=us.any kM:=by
  induction us with
  |nil=>exact⟨[],by simp[eT],(λd h=>by cases h),rfl⟩
  |cons u us ih=>
   obtain⟨ds,e1,e2,e3⟩:=ih λx hx=>h x (X4 _ hx);rcases h u X2 with rfl|⟨vs,d,rfl,e,l⟩
   ·refine⟨.non::ds,by simp[eT,toD,e1],λd hd=>?_,by rw[List.any_cons,List.any_cons,e3];simp[iG,kM]⟩;rcases Yb.mp hd with rfl|z
    ·simp[cF]
    ·exact e2 d z
   ·refine⟨d::ds,by simp only[eT,e,e1];rfl,λx hx=>?_,?_⟩
    ·rcases Yb.mp hx with rfl|z
     ·exact l
     ·exact e2 x z
    ·rw[List.any_cons,List.any_cons,e3];have:iG d .non=false:=by
      unfold toD at e;obtain⟨xs,_,rfl⟩:=acb.mp e;simp[iG]
     rw[this];rfl
 obtain⟨ds,e1,e2,e3⟩:=key;rw[TR (dx:=.non) (by simp[toD]) e1 e2,e3];rfl
theorem Rh {k2 zq hq:Nat}{bq:Bool}(Q:BP m k2 q zq hq bq){h:Nat}{p:U}(H:BP m k p z h b):∀n,k<=n->k+k2<=30->∃r:Rc,a8 n [p,q]=.ok r.1/\OS m (k+k2) r/\zR r<=z*(zq+1)/\df n [p,.int m,q]=.ok (if b then r.1 else .non):=by
 have q3:=Q.three
 induction H with
 | @en k cs h3 l=>
  intro n hn SA;obtain⟨n,rfl⟩:∃j,n=j+1:=⟨n-1,(by lia)⟩;refine⟨(.tup [.str "lay",aF cs,q],1+zq,1+hq,bq),?_,(BP.la Q).mono (by lia),by show 1+zq<=1*(zq+1);lia,?_⟩
  ·rw[a8,cS,AJ];simp only[Pzz,bx,Nat.reduceAdd,Nat.reduceSub,aN,jE,id]
  ·rw[df,dH,u9];have ll:(cs.map U.int).length=cs.length:=XO _;by_cases c:cs.length=m
   ·have c1:decide ((cs.length:Int)<(m:Int))=false:=hU (by lia);have c2:(cs.length==m)=true:=beq_iff_eq.mpr c;unfold aF;simp only[Pzz,bx,Nat.reduceAdd,Nat.reduceSub,aN,jE,id,ll,c1,c2,if_true]
   ·have c1:decide ((cs.length:Int)<(m:Int))=true:=hJ (by lia);have c2:(cs.length==m)=false:=beq_eq_false_iff_ne.mpr c;unfold aF;simp only[Pzz,bx,Nat.reduceAdd,Nat.reduceSub,aN,jE,id,ll,c1,c2,Yj,if_false]
 | @ag k h3=>
  intro n hn SA;obtain⟨n,rfl⟩:∃j,n=j+1:=⟨n-1,(by lia)⟩;refine⟨(.tup [.str "again"],1,1,true),?_,BP.ag (by lia),by show 1<=1*(zq+1);lia,?_⟩
  ·rw[a8,cS,AJ];simp only[Pzz,bx,Nat.reduceAdd,Nat.reduceSub,aN,jE,id]
  ·rw[df,dH,u9];simp only[Pzz,bx,Nat.reduceAdd,Nat.reduceSub,aN,jE,id,if_true]
 | @la k z h b o p hp ih=>
  intro n hn SA;obtain⟨n,rfl⟩:∃j,n=j+1:=⟨n-1,(by lia)⟩;obtain⟨r,e1,e2,e3,e4⟩:=ih n (by lia) (by lia);obtain⟨us,hus⟩:=e2.tup;refine⟨(.tup [.str "lay",aF o,r.1],1+zR r,1+hR r,bR r),?_,(show BP m (k+k2+1) _ _ _ _ from BP.la e2).mono (by lia),?_,?_⟩
  ·rw[a8,cS,AJ];simp only[Pzz,bx,Nat.reduceAdd,Nat.reduceSub,aN,jE,id,e1]
  ·show 1+zR r<=(1+z)*(zq+1);rw[aba];lia
  ·rw[df,dH,u9];cases b with
   |true=>
    rw[hZ rfl] at e4;rw[hus] at e4 ⊢;simp only[Pzz,bx,Nat.reduceAdd,Nat.reduceSub,aN,jE,id,e4,Dv,if_true]
   |false=>
    rw[hV XR] at e4;simp only[Pzz,bx,Nat.reduceAdd,Nat.reduceSub,aN,jE,id,e4,yn,Yj,if_false]
 | @mi k z h b o p hp ih=>
  intro n hn SA;obtain⟨n,rfl⟩:∃j,n=j+1:=⟨n-1,(by lia)⟩;obtain⟨r,e1,e2,e3,e4⟩:=ih n (by lia) (by lia);obtain⟨us,hus⟩:=e2.tup;refine⟨(.tup [.str "mix",OR o,r.1],1+zR r,1+hR r,bR r),?_,(show BP m (k+k2+1) _ _ _ _ from BP.mi e2).mono (by lia),?_,?_⟩
  ·rw[a8,cS,AJ];simp only[Pzz,bx,Nat.reduceAdd,Nat.reduceSub,aN,jE,id,e1]
  ·show 1+zR r<=(1+z)*(zq+1);rw[aba];lia
  ·rw[df,dH,u9];cases b with
   |true=>
    rw[hZ rfl] at e4;rw[hus] at e4 ⊢;simp only[Pzz,bx,Nat.reduceAdd,Nat.reduceSub,aN,jE,id,e4,Dv,if_true]
   |false=>
    rw[hV XR] at e4;simp only[Pzz,bx,Nat.reduceAdd,Nat.reduceSub,aN,jE,id,e4,yn,Yj,if_false]
 | @lo k pl ws ne l hw ih=>
  intro n hn SA;obtain⟨n,rfl⟩:∃j,n=j+1:=⟨n-1,(by lia)⟩;obtain⟨vs,ev,hv⟩:=yo λw kP=>ih w kP n (by lia) (by lia);have UK:ws.map mQ=vs.map λv=>mQ v.1:=by rw[←ev,Yd];rfl
  have lv:vs.length=ws.length:=by rw[←ev,XO]
  have So:XU=16777216:=rfl;refine⟨(.tup [.str "look",aF pl,.tup ((vs.map λv=>(v.1.1,v.2)).map mQ)],_,_,_),?_,(show BP m (k+k2+3) _ _ _ _ from BP.lo (pl:=pl) (ws:=vs.map λv=>(v.1.1,v.2)) (λz=>ne (by rw[←ev,ZN.mp z];rfl)) (by rw[XO];lia) λw kP=>?_).mono (by lia),?_,?_⟩
  ·have e:lq (og [none,none,some 1] (kL 2 (dk (cA 0) (dk (cA 1) kK))) bY (bu (ae (af 0) (ae (fR 2 (a8 n) (ae (af 1) (ae (af 2) ak))) ak))) [some (.tup [.str "look",aF pl,.tup (ws.map mQ)]),some q]) (ws.map mQ)=.ok ((vs.map λv=>(v.1.1,v.2)).map mQ):=by
    rw[UK,Yd];exact cb λv qz=>by
     obtain⟨e1,_⟩:=hv v qz;unfold mQ kN;rw[zw,OQ];simp only[Pzz,bx,Nat.reduceAdd,Nat.reduceSub,e1];rfl
   rw[a8,cS,AJ];simp only[Pzz,bx,Nat.reduceAdd,Nat.reduceSub,aN,jE,id,e]
  ·obtain⟨v,qz,rfl⟩:=Yn.mp kP;exact (hv v qz).2.1
  ·show 1+((vs.map λv=>(v.1.1,v.2)).map λw=>zR w.2).sum<=(1+(ws.map λw=>zR w.2).sum)*(zq+1);have key:∀xs:List ((List Int×Rc)×Rc),(∀v∈xs,zR v.2<=zR v.1.2*(zq+1))->(xs.map λv=>zR v.2).sum<=((xs.map λv=>zR v.1.2).sum)*(zq+1):=λxs=>by
    induction xs with
    |nil=>intro _;simp
    |cons x xs ih2=>
     intro hx;have h1:=hx x X2;have h2:=ih2 λv hv=>hx v (X4 _ hv);rw[X5,X5,ZY,ZY,aba];lia
   have h1:=key vs λv qz=>(hv v qz).2.2.1;have h2:(ws.map λw=>zR w.2)=vs.map λv=>zR v.1.2:=by rw[←ev,Yd];rfl
   have h3:((vs.map λv=>(v.1.1,v.2)).map λw=>zR w.2)=vs.map λv=>zR v.2:=by rw[Yd];rfl
   rw[h2,h3,aba];lia
  ·have hb:(ws.all λw=>bR w.2)=vs.all λv=>bR v.1.2:=by rw[←ev,abl];rfl
   have e:lq (og [none,none,some 1,some 2] (kL 2 (dk (cA 0) (dk (cA 1) kK))) bY (fR 3 (df n) (ae (af 1) (ae (af 2) (ae (af 3) ak)))) [some (.tup [.str "look",aF pl,.tup (ws.map mQ)]),some (.int m),some q,none,none,none]) (ws.map mQ)=.ok (vs.map λv=>if bR v.1.2 then v.2.1 else .non):=by
    rw[UK];exact cb λv qz=>by
     obtain⟨_,_,_,e1⟩:=hv v qz;unfold mQ kN;rw[zw,OQ];simp only[Pzz,bx,Nat.reduceAdd,Nat.reduceSub,e1]
   have es:∀x3,lq (og [none] (cA 0) bY (zqb 0 0) [some (.tup [.str "look",aF pl,.tup (ws.map mQ)]),some (.int m),some q,x3,none,none]) (ws.map mQ)=.ok (vs.map λv=>aF v.1.1):=λx3=>by
    rw[UK];exact cb λv qz=>by
     unfold mQ kN;simp only[av,bJ,NS,bx,Nat.reduceAdd,Nat.reduceSub]
   have ei:=Im (us:=vs.map λv=>if bR v.1.2 then v.2.1 else .non) λu hu=>by
    obtain⟨v,qz,rfl⟩:=Yn.mp hu;cases bR v.1.2 with
    |false=>exact .inl rfl
    |true=>
     obtain⟨_,B,_⟩:=hv v qz;obtain⟨us,hus⟩:=B.tup;obtain⟨d,e1,e2⟩:=B.toD;exact .inr ⟨us,d,hus,e1,(by lia)⟩
   have ea:((vs.map λv=>if bR v.1.2 then v.2.1 else .non).any kM) = !(vs.all λv=>bR v.1.2):=by
    rw[List.any_map,List.not_all_eq_any_not];refine Z_.mpr ⟨λz=>?_,λz=>?_⟩
    ·obtain⟨v,qz,z⟩:=Z0.mp z;refine Z0.mpr ⟨v,qz,?_⟩;cases c:bR v.1.2 with
     |false=>rfl
     |true=>
      obtain⟨us,hus⟩:=(hv v qz).2.1.tup;have z:kM (if bR v.1.2 then v.2.1 else .non)=true:=z;rw[c,hZ rfl,hus] at z;cases z
    ·obtain⟨v,qz,z⟩:=Z0.mp z;refine Z0.mpr ⟨v,qz,?_⟩;have c:bR v.1.2=false:=by cases c:bR v.1.2 with
      |false=>rfl
      |true=>rw[c] at z;cases z
     show kM (if bR v.1.2 then v.2.1 else .non)=true;rw[c];rfl
   rw[ea,←hb] at ei;rw[df,dH,u9];cases c:(ws.all λw=>bR w.2) with
   |false=>
    rw[c] at ei;simp only[Pzz,bx,Nat.reduceAdd,Nat.reduceSub,aN,jE,id,e,es,ei,abd,Yj,if_false]
   |true=>
    rw[c] at ei hb;have ep:(vs.map λv=>if bR v.1.2 then v.2.1 else .non)=vs.map λv=>v.2.1:=ZL λv qz=>by
     rw[YT.mp hb.symm v qz];rfl
    rw[ep] at ei e;have ez:(vs.map λv=>(v.1.1,v.2)).map mQ=vs.map λv=>U.tup [aF v.1.1,v.2.1]:=by rw[Yd];rfl
    rw[ez];simp only[Pzz,bx,Nat.reduceAdd,Nat.reduceSub,aN,jE,id,e,es,ei,aaq,OV,K4,Il,if_true]
theorem u_:∀(a:Nat) (xs:List Nat),uQ (a:Int) (xs.map λx=>((x:Nat):Int))=((max a (mx xs):Nat):Int)
 |a,[]=>by unfold mx uQ;simp
 |a,x::xs=>by
  rw[X5];unfold uQ;by_cases h:(a:Int)<x
  ·rw[hZ h,u_ x xs];show _=((max a (max x (mx xs)):Nat):Int);congr 1;lia
  ·rw[hV h,u_ a xs];show _=((max a (max x (mx xs)):Nat):Int);congr 1;lia
theorem K5 {xs:List Nat}(h:xs≠[]):wK [.lst (xs.map λx:Nat=>U.int x)]=.ok (.int (mx xs:Nat)):=by
 obtain⟨a,xs,rfl⟩:=aaI h;unfold wK;dsimp only;rw[show ((a::xs).map λx:Nat=>U.int x)=((a::xs).map λx=>((x:Nat):Int)).map U.int by rw[Yd];rfl,kl];rw[X5];dsimp only;rw[u_];rfl
noncomputable def ES (r:Rc):U:=.tup [.int (zR r:Nat),.int (hR r:Nat)]
noncomputable def gE:Ev->SR:=(bg (bu (ae (aI di (zqc 1) (fg rg (ae (eh (d6 (af 2)) [none] (cA 0) bY (zqb 0 0)) ak))) (ae (aI di (zqc 1) (fg wK (ae (eh (d6 (af 2)) [none] (cA 0) bY (zqb 0 1)) ak))) ak))))
theorem Io {x0 x1:Option U}{rs:List Rc}(ne:rs≠[])(hl:rs.length<=1000)(hz:(rs.map zR).sum<=1000000):gE [x0,x1,some (.lst (rs.map ES))]=.rt (.tup [.int ((1+(rs.map zR).sum:Nat)),.int ((1+mx (rs.map hR):Nat))]) [x0,x1,some (.lst (rs.map ES))]:=by
 have e3:lq (og [none] (cA 0) bY (zqb 0 0) [x0,x1,some (.lst (rs.map ES))]) (rs.map ES)=.ok ((rs.map zR).map λx:Nat=>U.int x):=by
  rw[Yd];exact cb λq hq=>by unfold ES;simp only[av,bJ,NS,bx,Nat.reduceAdd,Nat.reduceSub];rfl
 have e4:lq (og [none] (cA 0) bY (zqb 0 1) [x0,x1,some (.lst (rs.map ES))]) (rs.map ES)=.ok ((rs.map hR).map λx:Nat=>U.int x):=by
  rw[Yd];exact cb λq hq=>by unfold ES;simp only[av,bJ,NS,bx,Nat.reduceAdd,Nat.reduceSub];rfl
 have e5:=ym (xs:=rs.map zR) (by rw[XO];lia) λx hx=>by
  have:=pH x hx;lia
 have e6:=K5 (xs:=rs.map hR) λz=>ne (ZN.mp z);unfold gE;simp only[Pzz,bx,Nat.reduceAdd,Nat.reduceSub,e3,e4,e5,e6];rfl
def AK (n:Nat):eZ (n+1)=(aE (dR (gB (aI (xK id) (zqb 0 0) (bu (ae (gC (.str "again")) (ae (gC (.str "end")) ak))))) (bg (bu (ae (zqc 1) (ae (zqc 1) ak)))) aR)
 (aE (a9 1 (eW (ae (zqb 0 2) ak)))
 (aE (dR (gB (aI (cx id) (zqb 0 0) (gC (.str "look")))) (a9 1 (eh (d6 (zqb 0 2)) [none] (cA 0) bY (zqb 0 1))) aR)
 (aE (a9 2 (eh (d6 (af 1)) [none] (cA 0) bY (fR 1 (bF n) (ae (af 0) ak)))) gE)))):=rfl
theorem OW {h:Nat}(H:BP m k u z h b):∀n,k<=n->z<=1000000->bF n [u]=.ok (.tup [.int (z:Nat),.int (h:Nat)]):=by
 induction H with
 |en h3 l=>
  intro n hn hz;obtain⟨n,rfl⟩:∃j,n=j+1:=⟨n-1,(by lia)⟩;rw[bF,AK];simp only[Pzz,bx,Nat.reduceAdd,Nat.reduceSub,ng,jE,Bool.or_true,adi,id];rfl
 |ag h3=>
  intro n hn hz;obtain⟨n,rfl⟩:∃j,n=j+1:=⟨n-1,(by lia)⟩;rw[bF,AK];simp only[Pzz,bx,Nat.reduceAdd,Nat.reduceSub,ng,jE,Bool.or_true,adi,id];rfl
 | @la k z h b o q hq ih=>
  intro n hn hz;obtain⟨n,rfl⟩:∃j,n=j+1:=⟨n-1,(by lia)⟩;have e1:=ih n (by lia) (by lia);obtain⟨rs,hrs⟩:∃rs:List Rc,rs=[(q,z,h,b)]:=⟨_,rfl⟩;have e2:∀ρ,lq (og [none] (cA 0) bY (fR 1 (bF n) (ae (af 0) ak)) ρ) [q]=.ok (rs.map ES):=λρ=>by
   rw[hrs];exact cb (c:=λr:Rc=>r.1) (g:=ES) (xs:=[(q,z,h,b)]) λr hr=>by
    rw[Yf.mp hr];simp only[Pzz,bx,Nat.reduceAdd,Nat.reduceSub,e1];rfl
  have e3:=λx0 x1=>Io (x0:=x0) (x1:=x1) (rs:=rs) (by rw[hrs];simp) (by rw[hrs];simp) (by rw[hrs];simp[zR];lia);rw[bF,AK];simp only[Pzz,bx,Nat.reduceAdd,Nat.reduceSub,ng,aN,jE,acA,id,e2,e3];rw[hrs];simp[zR,hR,mx]
 | @mi k z h b o q hq ih=>
  intro n hn hz;obtain⟨n,rfl⟩:∃j,n=j+1:=⟨n-1,(by lia)⟩;have e1:=ih n (by lia) (by lia);obtain⟨rs,hrs⟩:∃rs:List Rc,rs=[(q,z,h,b)]:=⟨_,rfl⟩;have e2:∀ρ,lq (og [none] (cA 0) bY (fR 1 (bF n) (ae (af 0) ak)) ρ) [q]=.ok (rs.map ES):=λρ=>by
   rw[hrs];exact cb (c:=λr:Rc=>r.1) (g:=ES) (xs:=[(q,z,h,b)]) λr hr=>by
    rw[Yf.mp hr];simp only[Pzz,bx,Nat.reduceAdd,Nat.reduceSub,e1];rfl
  have e3:=λx0 x1=>Io (x0:=x0) (x1:=x1) (rs:=rs) (by rw[hrs];simp) (by rw[hrs];simp) (by rw[hrs];simp[zR];lia);rw[bF,AK];simp only[Pzz,bx,Nat.reduceAdd,Nat.reduceSub,ng,aN,jE,acA,id,e2,e3];rw[hrs];simp[zR,hR,mx]
 | @lo k pl ws ne l hw ih=>
  intro n hn hz;obtain⟨n,rfl⟩:∃j,n=j+1:=⟨n-1,(by lia)⟩;have sm:∀w∈ws,zR w.2<=(ws.map λw=>zR w.2).sum:=λw kP=>pH _ (ZM (f:=λw:List Int×Rc=>zR w.2) kP);have e0:∀ρ,lq (og [none] (cA 0) bY (zqb 0 1) ρ) (ws.map mQ)=.ok (ws.map λw=>w.2.1):=λρ=>cb λw kP=>by
   unfold mQ kN;simp only[av,bJ,NS,bx,Nat.reduceAdd,Nat.reduceSub]
  have e2:∀ρ,lq (og [none] (cA 0) bY (fR 1 (bF n) (ae (af 0) ak)) ρ) (ws.map λw=>w.2.1)=.ok ((ws.map (·.2)).map ES):=λρ=>by
   rw[Yd];exact cb λw kP=>by
    have:=sm w kP;have e1:=ih w kP n (by lia) (by lia);simp only[Pzz,bx,Nat.reduceAdd,Nat.reduceSub,e1];rfl
  have e3:=λx0 x1=>Io (x0:=x0) (x1:=x1) (rs:=ws.map (·.2)) (λz=>ne (ZN.mp z)) (by rw[XO];lia) (by rw[Yd];show (ws.map λw=>zR w.2).sum<=_;lia);rw[bF,AK];simp only[Pzz,bx,Nat.reduceAdd,Nat.reduceSub,ng,aN,jE,acA,id,e0,e2,e3];rw[Yd,Yd];rfl
noncomputable def K6 (T1 T2:String)(u:U)(ρ:Ev):R (U×Ev):=if Ee u="script" then .stk else .ok (.bl (fw (Ee u) T1||fw (Ee u) T2),ρ)
def yp {T1 T2:String}{g:Ev->R (U×Ev)}:BC T1 T2 g ρ=(g ρ).bind λx=>K6 T1 T2 x.1 x.2:=nr rfl
def K7 {i:Int}:K6 "tuple" "list" (.int i) ρ=.ok (.bl false,ρ):=(hV (show ¬("int"="script") by decide)).trans (congrArg (λz=>R.ok (U.bl z,ρ)) (show (fw "int" "tuple"||fw "int" "list")=false by decide))
def K8 {i:Str}:K6 "tuple" "list" (.str i) ρ=.ok (.bl false,ρ):=(hV (show ¬("str"="script") by decide)).trans (congrArg (λz=>R.ok (U.bl z,ρ)) (show (fw "str" "tuple"||fw "str" "list")=false by decide))
def K9:K6 "tuple" "list" (.tup us) ρ=.ok (.bl true,ρ):=(hV (show ¬("tuple"="script") by decide)).trans (congrArg (λz=>R.ok (U.bl z,ρ)) (show (fw "tuple" "tuple"||fw "tuple" "list")=true by decide))
def Iq {i:Int}:bT (k+1) [.int i,.int i]=.ok (.bl true):=by
 simp only[Pzz,bx,Nat.reduceAdd,Nat.reduceSub,bT,dU,yp,K7,bh,u4,beq_self_eq_true,id]
def Ir {i:Str}:bT (k+1) [.str i,.str i]=.ok (.bl true):=by
 simp only[Pzz,bx,Nat.reduceAdd,Nat.reduceSub,bT,dU,yp,K8,aN,u4,beq_self_eq_true,id]
theorem K_ (us:List U):abp (λa b=>U.tup [a,b]) us us=us.map λa=>.tup [a,a]:=by
 induction us with
 |nil=>rfl
 |cons u us ih=>rw[List.zipWith_cons_cons,ih];rfl
def La (n:Nat):dq .S 2 (dU n)=bT n:=rfl
def Iu (h:∀u∈us,bT k [u,u]=.ok (.bl true)):bT (k+1) [.tup us,.tup us]=.ok (.bl true):=by
 have e:lq (og [none,none] (kL 2 (dk (cA 0) (dk (cA 1) kK))) bY (fR 2 (bT k) (ae (af 0) (ae (af 1) ak))) [some (.tup us),some (.tup us)]) (us.map λa=>U.tup [a,a])=.ok (us.map λ_=>.bl true):=cb λx hx=>by
  rw[zw,OQ];simp only[Pzz,bx,Nat.reduceAdd,Nat.reduceSub,h x hx]
 have ea:=ue us λ_=>true;have eb:(us.all λ_=>true)=true:=by rw[YT];intros;rfl
 rw[eb] at ea;rw[bT,dU,La];simp only[Pzz,bx,Nat.reduceAdd,Nat.reduceSub,yp,K9,bh,u4,beq_self_eq_true,aaq,MK,K3,K_,id,e,ea]
def Sm (k:Nat)(u:U):Prop:=∀n,k<=n->bT (n+1) [u,u]=.ok (.bl true)
theorem Sm.tup (h:∀u∈us,Sm k u):Sm (k+1) (.tup us):=λn hn=>by
 obtain⟨n,rfl⟩:∃j,n=j+1:=⟨n-1,(by lia)⟩;exact Iu λu hu=>h u hu n (by lia)
theorem Sm.le (h:Sm k u)(l:k<=j):Sm j u:=λn hn=>h n (by lia)
def lS {s:Str}:Sm k (.str s):=λn _=>Ir
theorem va {p:List Int}:Sm 1 (aF p):=Sm.tup (k:=0) λu hu=>by
 obtain⟨i,_,rfl⟩:=Yn.mp hu;exact λn _=>Iq
theorem Ri {ps:List (List Int)}:Sm 2 (OR ps):=Sm.tup (k:=1) λu hu=>by
 obtain⟨p,_,rfl⟩:=Yn.mp hu;exact va
theorem BP.sm {h:Nat}(H:BP m k u z h b):Sm k u:=by
 induction H with
 |en h3 _=>exact (Sm.tup (k:=1) (KZ lS va)).le (by lia)
 |ag h3=>exact (Sm.tup (k:=1) (Ra lS)).le (by lia)
 |la hq ih=>exact Sm.tup (EN lS (va.le (by have:=hq.three;lia)) ih)
 |mi hq ih=>exact Sm.tup (EN lS (Ri.le (by have:=hq.three;lia)) ih)
 | @lo k _ ws ne _ hw ih=>
  have k3:3<=k:=by
   obtain⟨w,r,rfl⟩:=aaI ne;exact (hw w X2).three
  refine Sm.tup (k:=k+2) (EN lS (va.le (by lia)) (Sm.tup (k:=k+1) λu hu=>?_));obtain⟨w,kP,rfl⟩:=Yn.mp hu;exact Sm.tup (KZ (va.le (by lia)) (ih w kP))
theorem Dx {f:Bool->Bool}{i:Int}:xK f (.int i) (.tup (cs.map U.int))=.ok (.bl (f (cs.any λc=>c==i))):=by
 have e:∀cs:List Int,eT (cs.map U.int)=some (cs.map D.int):=λcs=>by
  induction cs with
  |nil=>simp[eT]
  |cons c cs ih=>rw[X5];simp[eT,toD,ih]
 rw[Q_ (dx:=.int i) (by simp[toD]) (e cs) λd hd=>by
  obtain⟨c,_,rfl⟩:=Yn.mp hd;simp[cF]]
 rw[List.any_map];have:((λd=>iG d (D.int i))∘D.int)=λc=>c==i:=funext λc=>by simp[iG]
 rw[this]
noncomputable def rG (m:Nat)(cs:List Int):List Int:=(a_ m).filter λi=> !(cs.any λc=>c==i)
theorem ET (h:EK m cs):(cs++rG m cs).Perm (a_ m):=by
 refine (ac3 ?_ (ql m)).mpr λx=>?_
 ·refine aco.mpr ⟨h.1,(ql m).filter _,λa ha b hb e=>?_⟩;subst e;have:=(aa0.mp hb).2;have t:(cs.any λc=>c==a)=true:=Z0.mpr ⟨a,ha,beq_self_eq_true a⟩;rw[t] at this;cases this
 ·rw[Yk];constructor
  ·rintro (z|z)
   ·exact ud.mpr (h.2 x z)
   ·exact (aa0.mp z).1
  ·intro z;by_cases c:x∈cs
   ·exact .inl c
   ·refine .inr (aa0.mpr ⟨z,?_⟩);cases q:cs.any λc=>c==x with
    |false=>rfl
    |true=>
     obtain⟨y,hy,e⟩:=Z0.mp q;exact absurd (by rw[←beq_iff_eq.mp e];exact hy) c
def Iv (h:EK m cs):cs.length+(rG m cs).length=m:=by
 have:=(ET h).length_eq
 rwa [XW,fo] at this
theorem vb {G:Gm}{js:List (Option Nat)}{sg:U->Ev->R Ev}{ge:Ev->R (U×Ev)}{ρ:Ev}{α:Type}{c g:α->U}:∀{xs:List α},(∀x∈xs,∃ρi ρi',sg (c x) (iJ js ρ)=.ok ρi/\ge ρi=.ok (g x,ρi')/\wb G js ρi' ρ=ρ)->mK G js sg bY ge (xs.map c) ρ=.ok (xs.map g,ρ)
 | [],_=>rfl
 |x::xs,h=>by
  obtain⟨ρi,ρi',e1,e2,e3⟩:=h x X2;rw[X5,X5,BE,e1,oN,zx,oN,hZ rfl,e2,oN,e3,vb λy hy=>h y (X4 _ hy),oN]
def pJ (n:Nat):iu 4 (cU n)=cH n:=rfl
def fY (m:Nat):aO 0 m=(a_ m).map U.int:=by
 unfold aO a_;rw[Yd];exact ZL λi _=>by show U.int (0+(i:Int))=_;rw[Int.zero_add];rfl
structure Fu (m d:Nat)(u u':U)(z h:Nat)(b:Bool):Prop where
 un:BP m (3*d) u z h b
 small:z<=10 ^ d
 full:BP m (3*d) u' z h true
 run:∀s n,d<=n->cH n [s,u,.int m]=.ok (u',s)
theorem pK {m:Nat}(hm:m<=8):∀{d:Nat} {u:U},dM m d u->d<=6->∃z h b u',Fu m d u u' z h b
 |0,_,h,_=>by cases h
 |d+1,u,h,hd=>by
  have p1:1<=10 ^ d:=Nat.one_le_iff_ne_zero.mpr (by have:=Nat.pow_pos (n:=d) (show 0<10 by decide);lia);have p2:10 ^ (d+1)=10 ^ d*10:=aat _ _;have So:XU=16777216:=rfl;unfold dM at h;rcases h with⟨cs,rfl,hc⟩|rfl|⟨p,q,rfl,hq⟩|⟨ps,q,rfl,hq⟩|⟨pl,ws,rfl,h1,h5,hw⟩
  ·have rl:=Iv hc;have ll:(cs++rG m cs).length=m:=by rw[XW];exact rl
   have fb:BP m (3*(d+1)) (.tup [.str "end",aF (cs++rG m cs)]) 1 1 ((cs++rG m cs).length==m):=BP.en (by lia) (by lia);rw[beq_iff_eq.mpr ll] at fb;refine⟨1,1,_,_,BP.en (by lia) (by lia),(by lia),fb,λs n hn=>?_⟩;obtain⟨n,rfl⟩:∃j,n=j+1:=⟨n-1,(by lia)⟩;have e:lq (og [none,some 1] (cA 0) (gB (aI (xK not) (af 0) (zqb 1 1))) (af 0) [some s,some (.tup [.str "end",aF cs]),some (.int m),none]) (aO 0 m)=.ok ((rG m cs).map U.int):=by
    rw[fY];exact qo λi hi=>by
     unfold aF;cases c : !(cs.any λc=>c==i) with
     |true=>simp only[Pzz,bx,Nat.reduceAdd,Nat.reduceSub,Dx,c,if_true]
     |false=>simp only[Pzz,bx,Nat.reduceAdd,Nat.reduceSub,Dx,c,Yj,if_false]
   have lx:(cs.map U.int).length+((rG m cs).map U.int).length<=XU:=by rw[XO,XO];lia
   have ly:((rG m cs).map U.int).length<=XU:=by rw[XO];lia
   rw[cH,cU,pJ];unfold aF at e ⊢;rw[Yv];simp only[Pzz,bx,Nat.reduceAdd,Nat.reduceSub,aN,jE,id,iw m (by lia),e,lx,ly]
  ·refine⟨1,1,true,_,BP.ag (by lia),(by lia),BP.ag (by lia),λs n hn=>?_⟩;obtain⟨n,rfl⟩:∃j,n=j+1:=⟨n-1,(by lia)⟩;rw[cH,cU,pJ];simp only[Pzz,bx,Nat.reduceAdd,Nat.reduceSub,aN,jE,id]
  ·obtain⟨z,h,b,u',F⟩:=pK hm hq (by lia);refine⟨1+z,1+h,b,.tup [.str "lay",aF p,u'],(BP.la F.un).mono (by lia),by have:=F.small;lia,(BP.la F.full).mono (by lia),λs n hn=>?_⟩;obtain⟨n,rfl⟩:∃j,n=j+1:=⟨n-1,(by lia)⟩;have e:=F.run s n (by lia);rw[cH,cU,pJ];simp only[Pzz,bx,Nat.reduceAdd,Nat.reduceSub,aN,jE,id,e]
  ·obtain⟨z,h,b,u',F⟩:=pK hm hq (by lia);refine⟨1+z,1+h,b,.tup [.str "mix",OR ps,u'],(BP.mi F.un).mono (by lia),by have:=F.small;lia,(BP.mi F.full).mono (by lia),λs n hn=>?_⟩;obtain⟨n,rfl⟩:∃j,n=j+1:=⟨n-1,(by lia)⟩;have e:=F.run s n (by lia);rw[cH,cU,pJ];unfold OR;simp only[Pzz,bx,Nat.reduceAdd,Nat.reduceSub,aN,jE,id,e]
  ·obtain⟨vs,ev,hv⟩:=yo (P:=λ(w:List Int×U) (r:U×Nat×Nat×Bool)=>Fu m d w.2 r.1 r.2.1 r.2.2.1 r.2.2.2) λw kP=>by
    obtain⟨z,h,b,u',F⟩:=pK hm (hw w kP) (by lia);exact⟨(u',z,h,b),F⟩
   have lv:vs.length=ws.length:=by rw[←ev,XO]
   have ne:vs≠[]:=λz=>h1 (by rw[←ev,z];rfl);have b1:=BP.lo (m:=m) (k:=3*d) (pl:=pl) (ws:=vs.map λv=>(v.1.1,v.1.2,v.2.2.1,v.2.2.2.1,v.2.2.2.2)) (λz=>ne (ZN.mp z)) (by rw[XO];lia) λw kP=>by
    obtain⟨v,qz,rfl⟩:=Yn.mp kP;exact (hv v qz).un
   have b2:=BP.lo (m:=m) (k:=3*d) (pl:=pl) (ws:=vs.map λv=>(v.1.1,v.2.1,v.2.2.1,v.2.2.2.1,true)) (λz=>ne (ZN.mp z)) (by rw[XO];lia) λw kP=>by
    obtain⟨v,qz,rfl⟩:=Yn.mp kP;exact (hv v qz).full
   have at_:((vs.map λv=>(v.1.1,v.2.1,v.2.2.1,v.2.2.2.1,true)).all λw=>bR w.2)=true:=by
    rw[abl];exact YT.mpr λv _=>rfl
   rw[at_,Yd,Yd,Yd] at b2;rw[Yd,Yd,Yd] at b1;have e0:(vs.map (mQ∘λv=>(v.1.1,v.1.2,v.2.2.1,v.2.2.2.1,v.2.2.2.2)))=ws.map kN:=by rw[←ev,Yd];rfl
   rw[e0] at b1;refine⟨_,_,_,_,b1,?_,b2,λs n hn=>?_⟩
   ·have key:∀xs:List ((List Int×U)×U×Nat×Nat×Bool),(∀v∈xs,v.2.2.1<=10 ^ d)->(xs.map λv=>v.2.2.1).sum<=xs.length*10 ^ d:=λxs=>by
     induction xs with
     |nil=>intro _;simp
     |cons x xs ih2=>
      intro hx;have g1:=hx x X2;have g2:=ih2 λv hv=>hx v (X4 _ hv);rw[X5,ZY,X1,aba];lia
    have g:=key vs λv qz=>(hv v qz).small;have g2:vs.length*10 ^ d<=5*10 ^ d:=Nat.mul_le_mul_right _ (by lia);show 1+(vs.map λv=>v.2.2.1).sum<=_;lia
   ·obtain⟨n,rfl⟩:∃j,n=j+1:=⟨n-1,(by lia)⟩;have e:mK jM [none,none,some 0,some 2] (kL 2 (dk (cA 0) (dk (cA 1) kK))) bY (bu (ae (af 0) (ae (dw 3 2 (cH n) (ae (af 1) (ae (af 3) ak))) ak))) (ws.map kN) [some s,some (.tup [.str "look",aF pl,.tup (ws.map kN)]),some (.int m),none]=.ok (vs.map (mQ∘λv=>(v.1.1,v.2.1,v.2.2.1,v.2.2.2.1,true)),[some s,some (.tup [.str "look",aF pl,.tup (ws.map kN)]),some (.int m),none]):=by
     have q:ws.map kN=vs.map λv=>kN v.1:=by rw[←ev,Yd];rfl
     rw[q];exact vb λv qz=>by
      have r:=(hv v qz).run s n (by lia);refine⟨[some (aF v.1.1),some v.1.2,some s,some (.int m)],[some (aF v.1.1),some v.1.2,some s,some (.int m)],OQ,?_,rfl⟩;simp only[Pzz,bx,Nat.reduceAdd,Nat.reduceSub,r];rfl
    rw[cH,cU,pJ];simp only[Pzz,bx,Nat.reduceAdd,Nat.reduceSub,aN,jE,id,e]
def pL (n:Nat):dq .S 1 (cT n)=cG n:=rfl
theorem Lb {h:Nat}(H:BP m k u z h b):∀n,k<=n->z<=1000000->cG n [u]=.ok (.int (z:Nat)):=by
 induction H with
 |en h3 l=>
  intro n hn hz;obtain⟨n,rfl⟩:∃j,n=j+1:=⟨n-1,(by lia)⟩;rw[cG,cT,pL];simp only[Pzz,bx,Nat.reduceAdd,Nat.reduceSub,ng,jE,acA,aN,id];rfl
 |ag h3=>
  intro n hn hz;obtain⟨n,rfl⟩:∃j,n=j+1:=⟨n-1,(by lia)⟩;rw[cG,cT,pL];simp only[Pzz,bx,Nat.reduceAdd,Nat.reduceSub,ng,jE,acA,aN,id];rfl
 |la hq ih=>
  intro n hn hz;obtain⟨n,rfl⟩:∃j,n=j+1:=⟨n-1,(by lia)⟩;have e:=ih n (by lia) (by lia);rw[cG,cT,pL];simp only[Pzz,bx,Nat.reduceAdd,Nat.reduceSub,ng,jE,adi,aN,id,e];rfl
 |mi hq ih=>
  intro n hn hz;obtain⟨n,rfl⟩:∃j,n=j+1:=⟨n-1,(by lia)⟩;have e:=ih n (by lia) (by lia);rw[cG,cT,pL];simp only[Pzz,bx,Nat.reduceAdd,Nat.reduceSub,ng,jE,Bool.or_true,aN,id,e];rfl
 | @lo k pl ws ne l hw ih=>
  intro n hn hz;obtain⟨n,rfl⟩:∃j,n=j+1:=⟨n-1,(by lia)⟩;have sm:∀w∈ws,zR w.2<=(ws.map λw=>zR w.2).sum:=λw kP=>pH _ (ZM (f:=λw:List Int×Rc=>zR w.2) kP);have e2:∀ρ,lq (og [none] (cA 0) bY (fR 1 (cG n) (ae (zqb 0 1) ak)) ρ) (ws.map mQ)=.ok ((ws.map λw=>zR w.2).map λx:Nat=>U.int x):=λρ=>by
   rw[Yd];exact cb λw kP=>by
    have:=sm w kP;have e1:=ih w kP n (by lia) (by lia);unfold mQ kN;simp only[Pzz,bx,Nat.reduceAdd,Nat.reduceSub,e1];rfl
  have e5:=ym (xs:=ws.map λw=>zR w.2) (by rw[XO];lia) λx hx=>by
   have:=pH x hx;lia
  rw[cG,cT,pL];simp only[Pzz,bx,Nat.reduceAdd,Nat.reduceSub,ng,jE,acA,aN,id,e2,e5];rfl
def mE (n:Nat):iu 5 (cI n)=cw n:=rfl
theorem Rj (h:i<n):Be n (i:Int)=some i:=by
 unfold Be;rw[hZ (by lia),hZ (by lia)];simp
theorem Dy {α β:Type}{f:α->β}{xs:List α}{x y:α}(h:xs[i]? = some x)(e:f y=f x):(xs.set i y).map f=xs.map f:=by
 rw[List.map_set,e];refine acn λj=>?_;rw[List.getElem?_set];split
 ·rename_i c;subst c;split
  ·rw[Yq,h];rfl
  ·rename_i c2;rw[abq (by lia)]
 ·rfl
theorem Lc (hm:1<=m)(h8:m<=8){h:Nat}(H:BP m k u z h b):∀n s,k<=n->jn s->∃u' s' b',cw n [s,u,.int m]=.ok (u',s')/\BP m k u' z h b'/\jn s':=by
 by_cases m1:m=1
 ·intro n s hn hs;have k3:=H.three;obtain⟨n,rfl⟩:∃j,n=j+1:=⟨n-1,(by lia)⟩;have e1:(((1:Nat):Int)==1)=true:=by decide
  subst m1;refine⟨u,s,b,?_,H,hs⟩;rw[cw,cI,mE];cases H<;>simp only[Pzz,bx,Nat.reduceAdd,Nat.reduceSub,aN,bh,jE,e1,id]
 have e1:((m:Int)==1)=false:=beq_eq_false_iff_ne.mpr (by lia)
 induction H with
 | @en k cs h3 l=>
  intro n s hn hs;obtain⟨n,rfl⟩:∃j,n=j+1:=⟨n-1,(by lia)⟩;obtain⟨t,s1,e2,t0,t1,gy⟩:=bK (m:=(m:Int)-1) hs (by lia) (by lia);obtain⟨j,hj⟩:∃j:Nat,1+t=j:=⟨(1+t).toNat,(by lia)⟩;refine⟨.tup [.str "end",aF (cs.take j)],s1,_,?_,BP.en h3 (by rw[Ys];lia),gy⟩;rw[cw,cI,mE];unfold aF;simp only[Pzz,bx,Nat.reduceAdd,Nat.reduceSub,aN,bh,jE,e1,id,e2,hj,gc,abx]
 |ag h3=>
  intro n s hn hs;obtain⟨n,rfl⟩:∃j,n=j+1:=⟨n-1,(by lia)⟩;refine⟨_,s,_,?_,BP.ag h3,hs⟩;rw[cw,cI,mE];simp only[Pzz,bx,Nat.reduceAdd,Nat.reduceSub,aN,bh,jE,id]
 | @la k z h b p q hq ih=>
  intro n s hn hs;obtain⟨n,rfl⟩:∃j,n=j+1:=⟨n-1,(by lia)⟩;obtain⟨u',s',b',e,B,hs'⟩:=ih n s (by lia) hs;refine⟨.tup [.str "lay",aF p,u'],s',b',?_,BP.la B,hs'⟩;rw[cw,cI,mE];simp only[Pzz,bx,Nat.reduceAdd,Nat.reduceSub,aN,bh,jE,e1,id,e]
 | @mi k z h b p q hq ih=>
  intro n s hn hs;obtain⟨n,rfl⟩:∃j,n=j+1:=⟨n-1,(by lia)⟩;obtain⟨u',s',b',e,B,hs'⟩:=ih n s (by lia) hs;refine⟨.tup [.str "mix",OR p,u'],s',b',?_,BP.mi B,hs'⟩;rw[cw,cI,mE];simp only[Pzz,bx,Nat.reduceAdd,Nat.reduceSub,aN,bh,jE,e1,id,e]
 | @lo k pl ws ne l hw ih=>
  intro n s hn hs;obtain⟨n,rfl⟩:∃j,n=j+1:=⟨n-1,(by lia)⟩;have lp:=abL.mpr ne;obtain⟨t,s1,e2,t0,t1,gy⟩:=bK (m:=((ws.map mQ).length:Int)) hs (by rw[XO];lia) (by rw[XO];lia);rw[XO] at t1;obtain⟨i,rfl⟩:∃i:Nat,t=i:=⟨t.toNat,(by lia)⟩;have hi:i<ws.length:=(by lia)
  have gi:ws[i]? = some ws[i]:=XN hi;obtain⟨u',s',b',e,B,hs'⟩:=ih ws[i] (YU hi) n s1 (by lia) gy;have a1:mS (ws.map mQ) (i:Int)=some (.tup [aF ws[i].1,ws[i].2.1]):=by rw[uc,Yq,gi];rfl
  have ix:Be (ws.map mQ).length (i:Int)=some i:=Rj (by rw[XO];exact hi);have es:(ws.map mQ).set i (.tup [aF ws[i].1,u'])=(ws.set i (ws[i].1,u',zR ws[i].2,hR ws[i].2,b')).map mQ:=by rw[List.map_set];rfl
  have BB:=BP.lo (m:=m) (k:=k) (pl:=pl) (ws:=ws.set i (ws[i].1,u',zR ws[i].2,hR ws[i].2,b')) (λz=>ne (by have:=congrArg Z2 z;rw[Zw] at this;exact List.length_eq_zero_iff.mp this)) (by rw[Zw];exact l) λw kP=>by
   rcases List.mem_or_eq_of_mem_set kP with z|z
   ·exact hw w z
   ·rw[z];exact B
  rw[Dy (f:=λw:List Int×Rc=>zR w.2) (y:=(ws[i].1,u',zR ws[i].2,hR ws[i].2,b')) gi rfl,Dy (f:=λw:List Int×Rc=>hR w.2) (y:=(ws[i].1,u',zR ws[i].2,hR ws[i].2,b')) gi rfl] at BB;refine⟨_,s',_,?_,BB,hs'⟩;rw[←es,cw,cI,mE];simp only[Pzz,bx,Nat.reduceAdd,Nat.reduceSub,aN,bh,jE,e1,id,e2,a1,e,LZ ix]
noncomputable def TY:Ev->SR:=a9 3 (bu (ae (gC (.str "lay")) (ae (dw 2 0 bb (ae (af 1) ak)) (ae (af 3) ak))))
def Rk:lM=(aE (a9 3 (bu (ae (gC (.str "end")) (ae (dw 2 0 bb (ae (af 1) ak)) ak)))) (aE (nv (fA (ae (af 2) ak)) (cA 4) TY) (bg (af 3)))):=rfl
theorem yq (h8:m<=8)(hd:d<=9){s:U}(hs:jn s):∃u s',cV [s,.int m,.int d]=.ok (u,s')/\BP m (d+3) u (d+1) (d+1) true/\jn s':=by
 obtain⟨os,s1,e1,ho,gy⟩:=jo (m:=m) hs (by lia);have b0:BP m 3 (.tup [.str "end",aF os]) 1 1 (os.length==m):=BP.en (by lia) (by rw[pF ho];lia);rw[beq_iff_eq.mpr (pF ho)] at b0;obtain⟨ρ',e,s',u,o,rfl,B,hs'⟩:=gF (sg:=cA 4) (s:=TY) (us:=aO 0 d) (λi ρ=>∃(s' u:U) (o:Option U),ρ=[some s',some (.int m),some (.int d),some u,o]/\BP m (i+3) u (i+1) (i+1) true/\jn s')
  (λi v ρ hv h00=>by
   obtain⟨s',u,o,hρ,B,hs'⟩:=h00;subst hρ;obtain⟨os,s2,e2,ho,cL⟩:=jo (m:=m) hs' (by lia);refine⟨_,_,rfl,.inl (by
    unfold TY;simp only[Pzz,bx,Nat.reduceAdd,Nat.reduceSub,Yt,Yo,e2];rfl),s2,.tup [.str "lay",aF os,u],some v,rfl,?_,cL⟩
   have:=BP.la (p:=os) B;rw[Nat.add_comm 1 (i+1)] at this;exact this) (ρ:=[some s1,some (.int m),some (.int d),some (.tup [.str "end",aF os]),none]) ⟨_,_,_,rfl,b0,gy⟩
 rw[bo] at B;refine⟨u,s',?_,B,hs'⟩;rw[cV,Rk];unfold aF at e;simp only[Pzz,bx,Nat.reduceAdd,Nat.reduceSub,e1,iw d (by lia),e]
theorem Ld {s:U}(hs:jn s):∃(base:List (List Int)) (m:Nat) (rows:List (List Int)) (s':U),fD [s,.int 3]=.ok (.lst (rows.map aF),s')/\BZ base m/\MJ base rows/\jn s':=by
 obtain⟨t,s1,e1,t0,t1,gy⟩:=bK (m:=5) hs (by decide) (by decide);obtain⟨m,hm⟩:∃m:Nat,1+t=m:=⟨(1+t).toNat,(by lia)⟩;obtain⟨q,s2,e2,q0,q1,cL⟩:=bK (m:=3) gy (by decide) (by decide);obtain⟨z,hz⟩:∃z:Nat,1+q=z:=⟨(1+q).toNat,(by lia)⟩;obtain⟨ys,s3,e3,ly,base,hy,hb,yw⟩:=ke (G:=lJ) (js:=[none,some 0,some 2]) (sg:=cA 0) (ge:=dw 2 1 fu (ae (af 2) ak))
  (λx:U=>[some x,some (.int 3),some (.int m),none]) z (λys x=>∃base:List (List Int),ys=base.map aF/\(∀b∈base,b.length=m)/\jn x)
  (λdone u x hd h00=>by
   obtain⟨base,hr,hb,hx⟩:=h00;obtain⟨row,x',f1,f2,_,vk⟩:=OM (m:=m) hx (by lia);refine⟨[some u,some x,some (.int m)],aF row,[some u,some x',some (.int m)],x',rfl,?_,rfl,base++[row],by rw[hr,Yv];rfl,?_,vk⟩
   ·simp only[Pzz,bx,Nat.reduceAdd,Nat.reduceSub,f1,gx]
   ·intro b Xs;rcases Yk.mp Xs with y|y
    ·exact hb b y
    ·rw[Yf.mp y];exact f2) (aO 0 z) [] s2 (by rw[bo];simp) ⟨[],rfl,(λb h=>by cases h),cL⟩
 rw[ZH] at hy;subst hy;rw[bo,XO] at ly;have bas:BZ base m:=⟨(by lia),(by lia),(by lia),hb⟩;obtain⟨rows,e4,hr,_⟩:=kH bas (rows:=base) ⟨λy=>by rw[y] at ly;have e:(([]:List (List Int)).length)=0:=rfl;lia,λr hr=>⟨r,hr,ZE _⟩⟩;refine⟨base,m,rows,s3,?_,bas,hr,yw⟩;simp only[Pzz,bx,Nat.reduceAdd,Nat.reduceSub,fD,lL,e1,hm,e2,hz,iw z (by lia),e3,e4]
theorem AL {s:U}(hb:BZ base m)(hr:MJ base rows)(hs:jn s):∃u s' z h b' u',cP [s,.lst (rows.map aF),.int 4,.bl b]=.ok (u,s')/\Fu m 4 u u' z h b'/\z<=60/\jn s':=by
 have m5:=hb.2.2.1;have m1:=hb.2.1;obtain⟨rows',e1,hr',_⟩:=kH hb hr.1;obtain⟨u,s1,e2,hu,gy⟩:=u7 hb 3 1 rows' s b hr' hs;have e2:bM 8 [s,.lst (rows'.map aF),.int 4,.bl b]=.ok (u,s1):=e2;obtain⟨z,h,b',u',F⟩:=pK (m:=m) (by lia) hu (by lia);have e3:=Lb F.un 20 (by lia) (YX F.small (by decide));by_cases c:z<=60
 ·have d:decide (((z:Nat):Int)<61)=true:=hJ (by lia);refine⟨u,s1,z,h,b',u',?_,F,c,gy⟩;simp only[Pzz,bx,Nat.reduceAdd,Nat.reduceSub,cP,iN,e1,e2,e3,d]
 ·have d:decide (((z:Nat):Int)<61)=false:=hU (by lia);obtain⟨z,h,b',u',F⟩:=pK (m:=m) (by lia) (show dM m 4 (.tup [.str "end",aF [0]]) from u6 ⟨by simp,λi hi=>by rw[Yf.mp hi];lia⟩) (by lia);have z1:z=1:=by
   have B:=F.un;generalize hu:(U.tup [.str "end",aF [0]])=x at B;cases B with
   |en _ _=>rfl
   |ag _=>rfl
   |la _=>cases hu
   |mi _=>cases hu
   |lo _ _ _=>cases hu
  refine⟨.tup [.str "end",aF [0]],s1,z,h,b',u',?_,F,(by lia),gy⟩;simp only[Pzz,bx,Nat.reduceAdd,Nat.reduceSub,cP,iN,e1,e2,e3,d,gx]
theorem wR {G:Gm}{js:List (Option Nat)}{sg:U->Ev->R Ev}{ge:Ev->R (U×Ev)}{σ:Type}(ev:σ->Ev)(P:U->Prop)(I:List U->σ->Prop)
  (step:∀done u s,P u->I done s->∃ρi y ρi' s',sg u (iJ js (ev s))=.ok ρi/\ge ρi=.ok (y,ρi')/\wb G js ρi' (ev s)=ev s'/\I (done++[y]) s') :
  ∀(us done:List U) (s:σ),(∀u∈us,P u)->I done s->∃ys s',mK G js sg bY ge us (ev s)=.ok (ys,ev s')/\ys.length=us.length/\I (done++ys) s'
 | [],done,s,_,h=>⟨[],s,rfl,rfl,by rw[Yu];exact h⟩
 |u::us,done,s,hl,h=>by
  obtain⟨ρi,y,ρi',s',e1,e2,e3,h'⟩:=step done u s (hl u X2) h;obtain⟨ys,DB,e4,e5,h''⟩:=wR ev P I step us (done++[y]) s' (λv hv=>hl v (X4 _ hv)) h';refine⟨y::ys,DB,?_,by rw[X1,X1,e5],by rw[Yi] at h'';exact h''⟩;rw[BE,e1,oN,zx,oN,hZ rfl,e2,oN,e3,e4,oN]
noncomputable def TZ:Ev->R (U×Ev):=bu (ae (bu (ae (af 0) ak)) (ae (dw 3 1 cV (ae (af 2) (ae (dw 2 1 ar (ae (zqc 4) ak)) ak))) ak))
theorem Iw {s:U}(hb:BZ base m)(hr:MJ base rows)(hs:jn s):∃u s' z h b',dC [s,.lst (rows.map aF),.int m]=.ok (u,s')/\BP m 12 u z h b'/\z<=60/\jn s':=by
 have m5:=hb.2.2.1;have m1:=hb.2.1;obtain⟨w,s1,e1,w0,w1,gy⟩:=bK (m:=4) hs (by decide) (by decide);by_cases c0:w=0
 ·subst c0;obtain⟨t,s2,e2,t0,t1,cL⟩:=bK (m:=10) gy (by decide) (by decide);obtain⟨d,rfl⟩:∃d:Nat,t=d:=⟨t.toNat,(by lia)⟩;obtain⟨u,s3,e3,B,yw⟩:=yq (m:=m) (by lia) (d:=d) (by lia) cL;refine⟨u,s3,_,_,_,?_,B.mono (by lia),(by lia),yw⟩;simp only[Pzz,bx,Nat.reduceAdd,Nat.reduceSub,dC,f7,e1,bh,Int.reduceBEq,id,e2,e3]
 ·have b0:(w==0)=false:=beq_eq_false_iff_ne.mpr c0;by_cases c1:w=1
  ·subst c1;obtain⟨t,s2,e2,t0,t1,cL⟩:=bK (m:=10) gy (by decide) (by decide);obtain⟨d,hd⟩:∃d:Nat,1+t=d:=⟨(1+t).toNat,(by lia)⟩;obtain⟨ys,s3,e3,ly,ws,hy,hw,yw⟩:=wR (G:=kC) (js:=[none,some 0,some 2]) (sg:=cA 0) (ge:=TZ)
    (λx:U=>[some x,some (.lst (rows.map aF)),some (.int m),some (.int 1),none]) (λu=>∃i:Int,u=.int i) (λys x=>∃ws:List (List Int×Rc),ys=ws.map mQ/\(∀w∈ws,BP m 6 w.2.1 (zR w.2) (hR w.2) (bR w.2)/\zR w.2<=4)/\jn x)
    (λdone u x ⟨i,hi⟩ ⟨ws,hws,hw,hx⟩=>by
     subst hi;obtain⟨t,x1,f1,t0,t1,AZ⟩:=bK (m:=4) hx (by decide) (by decide);obtain⟨j,rfl⟩:∃j:Nat,t=j:=⟨t.toNat,(by lia)⟩;obtain⟨v,x2,f2,B,Sr⟩:=yq (m:=m) (by lia) (d:=j) (by lia) AZ;refine⟨[some (.int i),some x,some (.int m)],.tup [.tup [.int i],v],[some (.int i),some x2,some (.int m)],x2,rfl,?_,rfl,ws++[([i],v,j+1,j+1,true)],by rw[hws,Yv];rfl,?_,Sr⟩
     ·unfold TZ;simp only[Pzz,bx,Nat.reduceAdd,Nat.reduceSub,f1,f2]
     ·intro w kP;rcases Yk.mp kP with y|y
      ·exact hw w y
      ·rw[Yf.mp y];exact⟨B.mono (by lia),by show j+1<=4;lia⟩) (aO 0 d) [] s2 (λu hu=>by rw[fY] at hu;obtain⟨i,_,rfl⟩:=Yn.mp hu;exact⟨i,rfl⟩) ⟨[],rfl,(λb h=>by cases h),cL⟩
   rw[ZH] at hy;subst hy;rw[bo,XO] at ly;obtain⟨q,s4,e4,q0,q1,PB⟩:=bK (m:=(m:Int)) yw (by lia) (by lia);have BB:=BP.lo (m:=m) (k:=6) (pl:=[q]) (ws:=ws) (λz=>by rw[z] at ly;have e:(([]:List (List Int×Rc)).length)=0:=rfl;lia) (by lia) λw kP=>(hw w kP).1;refine⟨_,s4,_,_,_,?_,BB.mono (by lia),?_,PB⟩
   ·unfold TZ at e3;simp only[Pzz,bx,Nat.reduceAdd,Nat.reduceSub,dC,f7,e1,bh,Int.reduceBEq,id,e2,hd,iw d (by lia),e3,e4];rfl
   ·have key:∀xs:List (List Int×Rc),(∀w∈xs,zR w.2<=4)->(xs.map λw=>zR w.2).sum<=xs.length*4:=λxs=>by
     induction xs with
     |nil=>intro _;simp
     |cons x xs ih2=>
      intro hx;have g1:=hx x X2;have g2:=ih2 λv hv=>hx v (X4 _ hv);rw[X5,ZY,X1,aba];lia
    have g:=key ws λw kP=>(hw w kP).2;lia
  ·have b1:(w==1)=false:=beq_eq_false_iff_ne.mpr c1;obtain⟨t,s2,e2,_,_,cL⟩:=bK (m:=3) gy (by decide) (by decide);obtain⟨u,s3,z,h,b',u',e3,F,hz,yw⟩:=AL (b:=t==0) hb hr cL;have e4:=F.run s3 8 (by lia);refine⟨u',s3,z,h,true,?_,F.full,hz,yw⟩;simp only[Pzz,bx,Nat.reduceAdd,Nat.reduceSub,dC,f7,e1,bh,b0,b1,id,e2,e3,e4]
theorem Le {h zq hq:Nat}{p:U}{bq:Bool}(H:BP m 12 p z h b)(Q:BP m 12 q zq hq bq)(hz:z<=60)(VI:zq<=60):∃x,bN [.int m,p,q]=.ok x/\eE [p,.int m,q]=.ok x/\bT 70 [x,x]=.ok (.bl true):=by
 obtain⟨r,e1,B,zr,e2⟩:=Rh Q H 20 (by lia) (by lia);have zz:z*(zq+1)<=60*61:=Nat.mul_le_mul hz (by lia);have t:=Ik H (by lia) (by lia);have g:=Ih B (by lia) (by lia);have x:=OW B 30 (by lia) (by lia);obtain⟨us,hus⟩:=B.tup;cases b with
 |false=>
  rw[hV XR] at e2;refine⟨.str "plan",?_,?_,lS (k:=0) 69 (by lia)⟩
  ·unfold bN;dsimp only;rw[t]
  ·simp only[Pzz,bx,Nat.reduceAdd,Nat.reduceSub,eE,gH,e2,yn,id]
 |true=>
  rw[hZ rfl] at e2;have d1:decide ((60:Int)<(zR r:Nat))=decide (60<zR r):=decide_eq_decide.mpr (by lia);have d2:decide ((12:Int)<(hR r:Nat))=decide (12<hR r):=decide_eq_decide.mpr (by lia);have n1:kM r.1=false:=by rw[hus];rfl
  cases c1:decide (60<zR r) with
  |true=>
   rw[c1] at d1;rw[c1,adi] at g;refine⟨.str "many",?_,?_,lS (k:=0) 69 (by lia)⟩
   ·unfold bN;dsimp only;rw[t];dsimp only;rw[e1];dsimp only;rw[g]
   ·simp only[Pzz,bx,Nat.reduceAdd,Nat.reduceSub,eE,gH,e2,n1,id,x,OQ,Yt,Yo,rR,d1]
  |false=>
   rw[c1] at d1;rw[c1,Bool.false_or] at g;cases c2:decide (12<hR r) with
   |true=>
    rw[c2] at d2 g;refine⟨.str "many",?_,?_,lS (k:=0) 69 (by lia)⟩
    ·unfold bN;dsimp only;rw[t];dsimp only;rw[e1];dsimp only;rw[g]
    ·simp only[Pzz,bx,Nat.reduceAdd,Nat.reduceSub,eE,gH,e2,n1,id,x,OQ,Yt,Yo,rR,d1,d2]
   |false=>
    rw[c2] at d2 g;refine⟨r.1,?_,?_,B.sm 69 (by lia)⟩
    ·unfold bN;dsimp only;rw[t];dsimp only;rw[e1];dsimp only;rw[g]
    ·simp only[Pzz,bx,Nat.reduceAdd,Nat.reduceSub,eE,gH,e2,n1,id,x,OQ,Yt,Yo,rR,d1,d2]
noncomputable def bL:Ev->SR:=(aE (a9 2 (fR 2 dY (ae (af 0) (ae (af 1) ak))))
 (aE (a9 3 (dw 2 2 fD (ae (zqc 3) ak)))
 (aE (a9 4 (fg gw (ae (zqb 3 0) ak)))
 (aE (a9 5 (dw 3 2 dC (ae (af 3) (ae (af 4) ak))))
 (aE (dR (gB (aI (cx id) (dw 2 2 ar (ae (zqc 4) ak)) (zqc 0))) (a9 5 (dw 3 2 (cw 20) (ae (af 5) (ae (af 4) ak)))) aR)
 (aE (a9 6 (dw 4 2 cP (ae (af 3) (ae (zqc 4) (ae (aI (cx id) (dw 2 2 ar (ae (zqc 3) ak)) (zqc 0)) ak)))))
 (aE (dR (gB (aI (cx id) (dw 2 2 ar (ae (zqc 3) ak)) (zqc 0))) (a9 6 (dw 3 2 cV (ae (af 4) (ae (dw 2 2 ar (ae (zqc 10) ak)) ak)))) aR)
 (dR (vv (gB (fR 2 (bT 70) (ae (fR 3 bN (ae (af 4) (ae (af 5) (ae (af 6) ak)))) (ae (fR 3 eE (ae (af 5) (ae (af 4) (ae (af 6) ak)))) ak))))) (bg (gC (.bl false))) aR))))))))
def Iy:HM=(aE (nv (fA (ae (fg y9 (ae (zqc 1) (ae (fg vZ (ae (fg gw (ae (af 0) ak)) (ae (zqc 3) ak))) ak))) ak)) (cA 1) bL) (bg (gC (.bl true)))):=rfl
theorem Rl {x2 x3 x4 x5 x6:Option U}:∃a b c d e:Option U,bL [some (.scr (ns.map .int)),some (.int i),x2,x3,x4,x5,x6]=.nx [some (.scr (ns.map .int)),some (.int i),a,b,c,d,e]:=by
 obtain⟨s0,e0,h0⟩:=HV (us:=[]) (u:=.scr (ns.map .int)) (ns:=ns) (k:=i) (.inl rfl) (by lia);obtain⟨base,m,rows,s1,e1,hb,hr,h1⟩:=Ld h0;have m5:=hb.2.2.1;have m1:=hb.2.1;obtain⟨r,e2,Uu⟩:=qm hb hr.1;obtain⟨u,s2,z,h,b',e3,B,hz,h2⟩:=Iw hb hr h1;obtain⟨t,s3,e4,_,_,h3⟩:=bK (m:=4) h2 (by decide) (by decide);have less:∃u' s4 b'',(if (t==0)=true then SR.nx [some (.scr (ns.map .int)),some (.int i),some s4,some (.lst (rows.map aF)),some (.int m),some u',x6] else .nx [some (.scr (ns.map .int)),some (.int i),some s4,some (.lst (rows.map aF)),some (.int m),some u',x6])=(dR (gB (aI (cx id) (dw 2 2 ar (ae (zqc 4) ak)) (zqc 0))) (a9 5 (dw 3 2 (cw 20) (ae (af 5) (ae (af 4) ak)))) aR) [some (.scr (ns.map .int)),some (.int i),some s2,some (.lst (rows.map aF)),some (.int m),some u,x6]/\BP m 12 u' z h b''/\jn s4:=by
  cases c:t==0 with
  |true=>
   obtain⟨u',s4,b'',e5,B',h4⟩:=Lc m1 (by lia) B 20 s3 (by lia) h3;refine⟨u',s4,b'',?_,B',h4⟩;simp only[Pzz,bx,Nat.reduceAdd,Nat.reduceSub,e4,bh,c,id,e5,if_true,Yt,Yo]
  |false=>
   refine⟨u,s3,b',?_,B,h3⟩;simp only[Pzz,bx,Nat.reduceAdd,Nat.reduceSub,e4,bh,c,id,Yj,if_false,Yt,Yo]
 obtain⟨p,s4,bp,e5,P,h4⟩:=less;rw[ite_self] at e5;obtain⟨t2,s5,e6,_,_,h5⟩:=bK (m:=3) h4 (by decide) (by decide);obtain⟨v,s6,zv,hv,bv,v',e7,F,hzv,h6⟩:=AL (b:=t2==0) hb hr h5;obtain⟨t3,s7,e8,_,_,h7⟩:=bK (m:=3) h6 (by decide) (by decide);have more:∃q s8 zq hq bq,(dR (gB (aI (cx id) (dw 2 2 ar (ae (zqc 3) ak)) (zqc 0))) (a9 6 (dw 3 2 cV (ae (af 4) (ae (dw 2 2 ar (ae (zqc 10) ak)) ak)))) aR) [some (.scr (ns.map .int)),some (.int i),some s6,some (.lst (rows.map aF)),some (.int m),some p,some v]=.nx [some (.scr (ns.map .int)),some (.int i),some s8,some (.lst (rows.map aF)),some (.int m),some p,some q]/\BP m 12 q zq hq bq/\zq<=60:=by
  cases c:t3==0 with
  |true=>
   obtain⟨t4,s8,e9,t40,t41,h8⟩:=bK (m:=10) h7 (by decide) (by decide);obtain⟨d,rfl⟩:∃d:Nat,t4=d:=⟨t4.toNat,(by lia)⟩;obtain⟨q,s9,e10,B',h9⟩:=yq (m:=m) (by lia) (d:=d) (by lia) h8;refine⟨q,s9,_,_,_,?_,B'.mono (by lia),(by lia)⟩;simp only[Pzz,bx,Nat.reduceAdd,Nat.reduceSub,e8,bh,c,id,e9,e10,Yt,Yo]
  |false=>
   refine⟨v,s7,_,_,_,?_,F.un,hzv⟩;simp only[Pzz,bx,Nat.reduceAdd,Nat.reduceSub,e8,bh,c,id,Yt,Yo]
 obtain⟨q,s8,zq,hq,bq,e9,Q,VI⟩:=more;obtain⟨x,f1,f2,f3⟩:=Le P Q hz VI;refine⟨some s8,some (.lst (rows.map aF)),some (.int m),some p,some q,?_⟩;unfold bL;have a1:∀(s:Ev->SR) (ρ ρ':Ev) (g:Ev->SR),g ρ=.nx ρ'->aE g s ρ=s ρ':=λs ρ ρ' g h=>by rw[GK,h];rfl
 have k1:a9 2 (fR 2 dY (ae (af 0) (ae (af 1) ak))) [some (.scr (ns.map .int)),some (.int i),x2,x3,x4,x5,x6]=.nx [some (.scr (ns.map .int)),some (.int i),some s0,x3,x4,x5,x6]:=by
  simp only[Pzz,bx,Nat.reduceAdd,Nat.reduceSub,e0,Yt,Yo]
 have k2:a9 3 (dw 2 2 fD (ae (zqc 3) ak)) [some (.scr (ns.map .int)),some (.int i),some s0,x3,x4,x5,x6]=.nx [some (.scr (ns.map .int)),some (.int i),some s1,some (.lst (rows.map aF)),x4,x5,x6]:=by
  simp only[Pzz,bx,Nat.reduceAdd,Nat.reduceSub,e1,Yt,Yo]
 have k3:a9 4 (fg gw (ae (zqb 3 0) ak)) [some (.scr (ns.map .int)),some (.int i),some s1,some (.lst (rows.map aF)),x4,x5,x6]=.nx [some (.scr (ns.map .int)),some (.int i),some s1,some (.lst (rows.map aF)),some (.int m),x5,x6]:=by
  simp only[Pzz,bx,Nat.reduceAdd,Nat.reduceSub,e2,gx,XO,Uu,Yt,Yo]
 have k4:a9 5 (dw 3 2 dC (ae (af 3) (ae (af 4) ak))) [some (.scr (ns.map .int)),some (.int i),some s1,some (.lst (rows.map aF)),some (.int m),x5,x6]=.nx [some (.scr (ns.map .int)),some (.int i),some s2,some (.lst (rows.map aF)),some (.int m),some u,x6]:=by
  simp only[Pzz,bx,Nat.reduceAdd,Nat.reduceSub,e3,Yt,Yo]
 have k6:a9 6 (dw 4 2 cP (ae (af 3) (ae (zqc 4) (ae (aI (cx id) (dw 2 2 ar (ae (zqc 3) ak)) (zqc 0)) ak)))) [some (.scr (ns.map .int)),some (.int i),some s4,some (.lst (rows.map aF)),some (.int m),some p,x6]=.nx [some (.scr (ns.map .int)),some (.int i),some s6,some (.lst (rows.map aF)),some (.int m),some p,some v]:=by
  simp only[Pzz,bx,Nat.reduceAdd,Nat.reduceSub,e6,bh,id,e7,Yt,Yo]
 rw[a1 _ _ _ _ k1,a1 _ _ _ _ k2,a1 _ _ _ _ k3,a1 _ _ _ _ k4,a1 _ _ _ _ e5.symm,a1 _ _ _ _ k6,a1 _ _ _ _ e9];simp only[Pzz,bx,Nat.reduceAdd,Nat.reduceSub,f1,f2,f3,aaq]
theorem pure_law (ns:List Int)(hl:ns.length<=63):Ag [.scr (ns.map .int)]=.ok (.bl true):=by
 obtain⟨z,hz⟩:∃z:Nat,(if (if (3:Int)<(((ns.map U.int).length:Nat):Int) then 3 else (((ns.map U.int).length:Nat):Int))>1 then (if (3:Int)<(((ns.map U.int).length:Nat):Int) then 3 else (((ns.map U.int).length:Nat):Int)) else 1)=z:=⟨(if (if (3:Int)<(((ns.map U.int).length:Nat):Int) then 3 else (((ns.map U.int).length:Nat):Int))>1 then (if (3:Int)<(((ns.map U.int).length:Nat):Int) then 3 else (((ns.map U.int).length:Nat):Int)) else 1).toNat,by split<;>(try split)<;>lia⟩;have zb:z<=1000:=by split at hz<;>(try split at hz)<;>lia
 obtain⟨ρ',e,a,b,c,d,e',f,rfl⟩:=gF (us:=aO 0 z) (sg:=cA 1) (s:=bL) (λ_ ρ=>∃a b c d e f:Option U,ρ=[some (.scr (ns.map .int)),a,b,c,d,e,f])
  (λi u ρ hu h00=>by
   obtain⟨a,b,c,d,e,f,hr⟩:=h00;subst hr;have hi:i<z:=by
    rcases aaO i z with y|y
    ·exact y
    ·rw[ZD.mpr (by rw[bo];exact y)] at hu;cases hu
   obtain rfl:u=.int i:=by
    rw[pE,Yq,abb hi] at hu;cases hu;rfl
   obtain⟨a1,b1,c1,d1,e1,q⟩:=Rl (ns:=ns) (i:=i) (x2:=b) (x3:=c) (x4:=d) (x5:=e) (x6:=f);exact⟨_,_,rfl,.inl q,_,_,_,_,_,_,rfl⟩)
  (ρ:=[some (.scr (ns.map .int)),none,none,none,none,none,none]) ⟨_,_,_,_,_,_,rfl⟩
 unfold Ag;rw[Iy];simp only[Pzz,bx,Nat.reduceAdd,Nat.reduceSub,hz,iw z (by lia),e]
def walk {q:aaT}{d:DefRec}{K:Params->XX}(Rq:d.params.defaults=[])(hY:∀(w:Y6) (h:Z9),YP w h->(K w.params).In h)(F:∀(w:Y6) (mg:Str->Option XY) (fa:Ye) (h:Z9),(K w.params).In h->h.Ns YC mg->mg d.name=some (.ref fa)->
   ∃fd:aa9,(∀(s:Ya) (u:XY),BindsTo s fd ⟨[u],[]⟩ [("script",u)])/\∀base:Z9,(K w.params).In base->base.Ns YC mg->j3 PySem.Challenge.rw_hushcards_k51_one_plan_behind_another.prog w (K w.params) mg base vR 72 fa fd ["script"] (yY (K w.params))) :
  PySem.W.WalkO q loose XP YP PySem.Challenge.rw_hushcards_k51_one_plan_behind_another.row.toRowW d [] (λf vs=>PySem.call f vs):=
 L2.walk_of (l:=PySem.Challenge.rw_hushcards_k51_one_plan_behind_another) (n:=63) (k:=72) (x:="script") (CX:=λ_=>vR) (sp:=λw=>yY (K w.params)) rfl (by decide) Rq ⟨rfl,(by decide),(by decide)⟩ hY F (λ_ _ a ns hl hO hS=>⟨a,ns,rfl,NY hO hS,hl,λ_=>rfl⟩) λ_ _ _ _ _ z=>z
end Hc
open PySem PySem.W PyProof.Rows
set_option maxRecDepth 100000 in
set_option maxHeartbeats 0 in
theorem PySem.Challenge.cw_hushcards_k51_one_plan_behind_another_holds : PySem.Challenge.rw_hushcards_k51_one_plan_behind_another.Holds := by
 w_on
 refine PySem.W.holds_law (by decide+kernel) λUL=>?_;refine' PySem.W.holds_open Hc.left (PySem.W.Hook.of _) (PySem.W.Hook.keeps _) (XP:=PySem.W.XL Hc.vw [])
  (λs e=>PySem.W.xl_of s (Bool.and_eq_true_iff.mp e).1) PySem.W.XL.keeps ?d ?t ?k
  (λs e=>PySem.W.recFacts_of (Bool.and_eq_true_iff.mp e).2) ?w UL ?g ⟨rfl,rfl,rfl,rfl,rfl,by decide+kernel⟩ ?hw ?hc
 case d=>rfl
 case t=>rfl
 case k=>rfl
 case w=>rfl
 case g=>decide+kernel
 case hw=>w_witness2
 show PySem.W.WalkO Hc.vw [] (PySem.W.XL Hc.vw []) (PySem.W.InK Hc.Kf) _ _ _ _
 k_fill
 refine Hc.walk rfl (λw h Y=>Y) ?F
 case F=>
  intro w mg fa h KX G Rr;refine' Hc.all_mk KX G Rr ?_ ?_ ?_ ?_ ?_ ?_ ?_ ?_ ?_ ?_ ?_ ?_ ?_ ?_ ?_ ?_ ?_ ?_ ?_ ?_ ?_ ?_ ?_ ?_ ?_ ?_ ?_ ?_ ?_ ?_ ?_ ?_ ?_ ?_ ?_ ?_ ?_ ?_ ?_ ?_ ?_ ?_ ?_ ?_ ?_ ?_ ?_ ?lY ?sP ?sQ ?jR ?ko ?pR ?mH ?jS ?DM ?IV ?Pe ?Pf ?Pg ?Ln ?Lo ?Lp ?Ph ?B_ ?Pj ?vf ?yB ?yC ?l5 ?qv ?vg ?qw ?Ca ?IW ?IX ?IY ?DP ?IZ ?yD ?I_ ?qx ?vh ?vi ?kJ ?n8 ?qy ?n9 Hc.pure_law
  (case lY=>k_is)
  (case sP=>k_is)
  (case sQ=>k_is)
  (case jR=>k_is)
  (case ko=>k_is)
  (case pR=>k_is)
  (case mH=>k_is)
  (case jS=>k_is)
  (case DM=>k_is)
  (case IV=>k_exc)
  (case Pe=>k_is)
  (case Pf=>k_is)
  (case Pg=>k_is)
  (case Ln=>k_is)
  (case Lo=>k_is)
  (case Lp=>k_is)
  (case Ph=>k_is)
  (case B_=>kts_exm)
  (case Pj=>kit_is)
  (case vf=>kit_is)
  (case yB=>kit_is)
  (case yC=>kit_is)
  (case l5=>kit_is)
  (case qv=>kit_is)
  (case vg=>kit_is)
  (case qw=>kit_is)
  (case Ca=>k_exc)
  (case IW=>k_is)
  (case IX=>k_is)
  (case IY=>k_is)
  (case DP=>k_is)
  (case IZ=>k_is)
  (case yD=>kts_exm)
  (case I_=>kit_is)
  (case qx=>kit_is)
  (case vh=>kit_is)
  (case vi=>kit_is)
  (case kJ=>kit_is)
  (case n8=>kit_is)
  (case qy=>kit_is)
  (case n9=>kit_is)
  all_goals first|k_is|exact .mk (by k_is) (by k_is) (by k_is) (by k_is)|skip