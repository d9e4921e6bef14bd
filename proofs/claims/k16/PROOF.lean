import PyProof.Rows.All
import Wide.All
import OpenK.AllK
import Wide.FinOn
import Lean
import PyProof.EqAt
import PyProof.EqKinds
import PyProof.TupleCall
import PyProof.NeKinds
import PyProof.TupleKey
import PyProof.DictRoadsH
import PyProof.Rows.SetFrom
import PyProof.WalksMore
import PyProof.SetRoads
import PyProof.ListMulRoad
import PyProof.FactsAll.subtypes_4
import PyProof.Rows.ListMulArg
import KE.KTryMore
import PyProof.Rows.TopTwo
import PyProof.NsDelKeeps
import KE.RegKTryMore
import KE.RegKIsAll
import PyProof.DictItems
import PyProof.DictValues
import PyProof.DictWalks
import PyProof.FactsAll.dict_itemiterator
import PyProof.Rows.SortShell
import PyProof.Rows.SortWalk
import KE.KSortTup
import KE.KDictList
import KE.KEqDict
import PyProof.AutoListH
import PyProof.SumWalk
import PySem.Challenge.RW_hushcards_k16_whole_shuffles_one_behind
abbrev hJ:=@decide_eq_true
abbrev hV:=@decide_eq_false
abbrev hZ.{u}:=@if_neg.{u}
abbrev h9.{u}:=@if_pos.{u}
set_option Elab.async false
set_option linter.all false
set_option maxRecDepth 100000
set_option maxHeartbeats 4000000
open PySem renaming wpAny_bind->RW,wpAny_pure->RZ,sizeLine->R3,Value->R6,Shared->Sk,starEach->Sq,Addr->Sr,wpAny->Sv,wpAny_newObj_type->SG,wpAny_call_entry->SI,model->SN,mainGlobals->SS,bootBuiltins->S0,Around->S2,wpAny_dictEntries->S5,wpAny_holding->S7,wpAny_mono->S8,mem_of_lookup->Td,wpAny_callSpecial?_slot->Te,World->Tq,sysModules->Tr,compareOp->TB,wpAny_dictEpoch->TM,assignEach->T4,Expr->T6,wpAny_truthy_bool->T7,wpAny_typeNameOfWhole_itemiter->Ud,wpAny_typeNameOfWhole_keyiter->Uk,wpAny_typeNameOfWhole_valiter->Ul,sizeLine_eq->Ut,cLine->Uu,backTo->Ux,wpAny_typeNameOf_itemiter->UB,wpAny_passesOwn->UC,foldedSetIterable->UD,wpAny_typeNameOf_keyiter->UH,wpAny_typeNameOf_valiter->UI,Program->UN,Heap->UU,IsItemIter->UW,wpAny_setField_rec->U1,wpAny_notOrdered_dict->U3,binaryOp->U7,wpAny_attempt->U_,wpAny_fieldsOf->Vi,firstArgMember->Vj,FuncData->Vk,wpAny_isInstance->Vl,wpAny_field->Vp,wpAny_execs_nil->VA,behindInMarks->VC,wpAny_Call_Name_kw->VD,wpAny_specialOf->VH,eval->VP,wpAny_isOneOf_itemiter->VY,sliceBounds->VZ,wpAny_Call_method->V1,wpAny_pyIter_slot->V2,wpAny_setField->V_,swapsWith->Wc,wpAny_isOneOf_valiter->Wg,Paired->Ws,Stmt->Wv,attributeBase->Ww,strLen_append->Wx,pyNext->WA,letOwnedTupleGo->WB,getItem->WD,codeAny_builtin->WI,rawInt->WY,codeAny_mono->W2,tupleKind_room_in1->W3,Keyword->Xa,wpAny_pyIter_list->Xk,seqIndex?->Xl,wpAny_collect_seq->Xn,NameKind->Xu,DictEntry->Xv,PassesOwn->Xw
open List renaming length_map->RX,map_cons->RY,getElem?_eq_getElem->R5,size_toArray->R7,getElem?_eq_some_iff->R8,getElem?_map->R_,mem_cons_self->Sd,length_append->Se,map_map->Sg,map_congr_left->Si,length_cons->Sj,mem_cons_of_mem->Sn,mem_map->So,mem_cons->Ss,map_append->Su,take_succ_eq_append_getElem->Sw,mem_map_of_mem->Sy,sum_cons->SA,getElem?_set_ne->SD,replicate->SE,length_take->SF,length_pos_iff->SV,mem_append_right->SW,range->SX,getD_eq_getElem?_getD->S3,all_eq_true->S4,getElem_mem->S6,mem_singleton->Ta,map_nil->Tb,append_nil->Tg,take_length->Th,length_range->Ti,drop_eq_getElem_cons->Tj,flatMap_cons->Tn,length_set->Tu,replicate_succ->Tv,all_cons->Tx,mem_append->Tz,find?_cons->TF,getElem?_eq_none_iff->TL,length_drop->TN,append_assoc->TX,nodup_cons->T1,getElem?_cons_succ->T2,pairwise_cons->T3,lookup_cons->T5,length_replicate->Ua,length_singleton->Ub,take_append_drop->Ug,foldl_cons->Uh,mem_of_getElem?->Uo,nil_append->Uv,perm_append_comm->Uz,drop_length->US,mem_flatMap->UT,getElem?_set_self->UX,zipWith_cons_cons->UY,flatten_cons->U9,mem_append_left->Vc,getElem?_append_left->Vf,drop_zero->Vh,filterMap_cons->Vo,zipWith->Vw,eq_of_mem_replicate->Vz,length_nil->VG,pairwise_singleton->VJ,take_of_length_le->VX,pairwise_map->V6,map_id->V7,nodup_nil->V8,cons_append->Wn,eq_nil_of_length_eq_zero->Wr,mem_of_mem_take->Wu,length_zipWith->WK,getElem?_range->WL,flatMap_append->WM,map_eq_nil_iff->WN,getElem?_append_right->WQ,perm_ext_iff_of_nodup->WV,mem_filterMap->WZ,zip_cons_cons->W7,mem_range->W8,nodup_append->Xo,foldl_append->Xr
open Bool renaming false_ne_true->R0,and_eq_true->Sa,false_eq_true->SQ,or_eq_false_iff->To,eq_iff_iff->Tt,not_true->Up,or_eq_true->UG,false_and->W_,eq_false_iff->Xm
open PySem.W renaming Frag->R1,mg_none_of->S1,nsIn->Tw,kia_one->TC,fnOf->TU,keepIn->T9,findIn->Ve,codeIn->Xb,methodObj->Xj
open PySem.Heap renaming get?_push_of_some->R4,get?_push_size->R9,lt_size->Sl,SameBut->Ur,get?_update_self->Wd,size_push->Xc
open Nat renaming le_refl->Sb,le_trans->Sz,ne_of_lt->SJ,lt_of_lt_of_le->SK,gcd->TR,lt_irrefl->TZ,lt_of_le_of_lt->VF,min_eq_left->VM,gcd_pos_of_pos_left->VN,lt_succ_of_lt->V0,add_le_add->V9,mul_le_mul->Wb,lt_or_ge->Wj,zero_le->WG,le_of_lt->WW,ne_of_gt->WX,min_self->W4,gcd_pos_of_pos_right->Xs
open Option.some renaming inj->SH
open Array renaming length_toList->SM,getElem?_toList->Tc,getElem?_eq_getElem->TJ,getElem?_eq_none->UZ,perm_iff_toList_perm->WU
open Int renaming toNat_natCast->SO,toNat_of_nonneg->Tf,emod_lt_of_pos->Uy,mul_ediv_cancel_left->UL,mul_assoc->UR,emod_nonneg->U4,natCast_mul->U5,natCast_ediv->Vn,natCast_dvd_natCast->VO,mul_le_mul_of_nonneg_right->Wl,mul_le_mul->Xh,eq_of_mul_eq_mul_left->Xi,pos_of_mul_pos_right->Xt
open PySem.Builtin.Dict_items renaming ownsTuple->SY,ownedTupleFields->Vq,ownedTupleIsFree->Vr,pairFromOwner->VR,newIterator->Wf,dictOf->Xe
open PyProof.Rows renaming arrOf->S9,wpS_bind->Tp,SortSt->TQ,slot_tuple_getitem->T8,wpS_pure->Uj,pendingOf->UK,envOfC->UM,kindOf->U0,evalArgs_none->Vb,Keyed->Vs,pairsOf_toList->Wa,wpS_forRange->Wi,reverseSlice'->Wz,callWith_type1->WC,IntsAre->WE,seqObj->W6,AllBare->W9
open PySem.PassesOwn renaming never->S_,leaving->Xq
open PySem.Builtin.Tuple renaming tupleHashOf->TH,tupleExact->TV,tupleItemsOf->Va,tupleIsExact->WS
open PySem.Builtin.Dict renaming showsAll->TY,dictSlotArgs->Xg
open List.Perm renaming refl->T_
open PySem.F renaming slot_dict_valueiterator_next->Uc,slot_dict_itemiterator_next->Um,slot_dict_keyiterator_next->Uq,slot_dict_values->UJ,plainAttrs_dict->UO,plainAttrs_list->UQ,slot_dict_get->U2,args_tuple_add_2->Vu,slot_list_extend->Vx,type_list_extend->Vy,entry_tuple_add->VE,args_dict_get_3->VI,args_dict_valueiterator_next_1->VQ,slot_tuple_add->VS,entry_dict_get->VU,entry_dict_valueiterator_next->V3,args_dict_itemiterator_next_1->V4,args_dict_keyiterator_next_1->We,entry_dict_itemiterator_next->Wh,entry_dict_keyiterator_next->Wo,slot_dict_itemiterator_iter->Wq,args_dict_values_1->WT,entry_dict_values->Xf,type_dict_values->Xp
open PyProof.Rows.KeyOrd renaming kle_refl->Ue,kle_trans->Vm,kle_of_klt->V5
open False renaming elim->Ui
open PySem.Str renaming ofString->Us
open PySem.Calls renaming callWith_builtin->Uw,evalArgs_plain->Wt,Name_function_global->WO,spliced_cons->W0,call_function_entry->Xd
open PySem.Builtin.Slice renaming slicePlaces->UA,sliceAdjust->Vg,sliceApplied->WR
open PySem.Builtin.List renaming listTooLong->UE,listExtendWith->WJ
open PySem.Heap.SameBut renaming update->UP
open PySem.Paired renaming length->U6
open PySem.Obj renaming mapSeq->U8,data_mapFields->VL,mapFields->Wy
open PySem.Around renaming under_plainId->Vd
open Option renaming isSome_iff_exists->Vt,map_eq_some_iff->VT,getD_none->Wm
open PySem.SeqAt renaming EqAt->Vv,RcNeAt->Xx
open PySem.Builtin.Range renaming rangeSize->VB
open PySem.SeqAt.EqAt renaming same->WH,of_refs->W5
open PySem PySem.Spec PyProof.Rows
variable {a b f C:Sr}{P q prog:UN}{h h':UU}{g':Array GenState}{t' i j k n m ep:Nat}{ch fp:List Sr}{x qual:Str}{N ps loose:List Str}{M:Model}{A:Sr->Prop}{E Q:R6->Sk->Prop}{t:Int}{s:Sk}{pos p2:Pos}{pins:List (Sr×Obj)}{K:R1}{st:Wv}{tg iter:T6}{body:List Wv}{hi:Option Int}{op:CmpOp}{mg:Str->Option R6}{fd:Vk}{scope:Scope}{items:Array R6}{ns:List Int}{ax:List R6}{T:String}{XP:(Str->Option R6)->UU->Prop}{YP:Tq->UU->Prop}{env:Env}{js:List (Option Nat)}{wx elts:List T6}{ds:Array Xv}{ss:List (List Int)}
namespace L2
noncomputable def dD (s:Wv):Arguments:=match s with
 | .FunctionDef _ a _ _ _ _ _ _ _ _=>a
 |_=>{posonlyargs:=[],args:=[],vararg:=none,kwonlyargs:=[],kw_defaults:=[],kwarg:=none,defaults:=[]}
noncomputable def bC (s:Wv):List Wv:=match s with
 | .FunctionDef _ _ b _ _ _ _ _ _ _=>b
 |_=>[]
noncomputable def aj (s:Wv):Scope:=match s with
 | .FunctionDef _ _ _ _ _ _ sc _ _ _=>sc
 |_=>{kind:=.function,names:=[],isGenerator:=false,isCoroutine:=false}
end L2
namespace Hc
open L2
noncomputable def top (i:Nat):Wv:=PySem.Challenge.pw_hushcards_k16_whole_shuffles_one_behind.main.body.getD i (.Pass ⟨0,0,0,0⟩)
noncomputable abbrev hS (s:String)(n:Nat):R6:=.str (Us s) n
noncomputable abbrev hT (l:List R6):Obj:=⟨.type "tuple",none,.seq l.toArray 0,#[]⟩
noncomputable abbrev hE (P:Params)(s:String)(n:Nat)(v:R6):Xv:=⟨PyData.keyHash P (Us s),hS s n,v⟩
noncomputable abbrev hD (c:R6)(l:List Xv)(n:Nat):Obj:=⟨c,none,.dict l.toArray n,#[]⟩
noncomputable abbrev hX (c:R6)(l:List R6):Obj:=⟨c,none,.fields l.toArray,#[]⟩
noncomputable abbrev hC (n q:String)(a:Nat)(l k:Int)(r r1:Nat)(v1 v2:R6)(r2:Nat)(m:Int)(m':Nat):Obj:=hX (.type "code") [hS n a,hS q (a+1),hS "/claim/cut.py" (a+2),.int l 0,.int k 0,.int 0 0,.int 0 0,.int 3 0,.ref r,.bool true,.int 181 0,.ref r1,.none,v1,v2,.ref r2,.int m 0,.int l 0,hS "/claim/cut.py" m']
noncomputable abbrev hF (n q:String)(s:Wv)(kV ku pm:R6)(an:Option Sr)(cd ct:R6):Obj:=⟨.type "function",none,.func (TU n q (dD s) (bC s) (aj s) .none kV ku pm an cd ct),#[]⟩
noncomputable def Kf (P:Params):R1:=
 (nat_lit 2,hD .none [] 0) ::
 (nat_lit 3,hD (.type "dict") [hE P "__name__" 165 (hS "law_hushcards_k16_whole_shuffles_one_behind" 355),hE P "__doc__" 166 .none,hE P "__package__" 167 .none,hE P "__loader__" 168 (.builtin "__main__.__loader__#opaque"),hE P "__spec__" 169 .none,hE P "__annotations__" 170 (.ref 6),hE P "__builtins__" 171 (.ref 4),hE P "__file__" 173 (hS "/claim/cut.py" 172),hE P "__cached__" 174 .none,hE P "CardError" 206 (.ref 24),hE P "TooMany" 222 (.ref 37),hE P "greatest_divisor" 233 (.ref 46),hE P "ratio" 242 (.ref 53),hE P "common_bottom" 251 (.ref 60),hE P "is_whole" 260 (.ref 67),hE P "is_order" 266 (.ref 72),hE P "cards_at" 272 (.ref 77),hE P "then" 280 (.ref 84),hE P "MOST_ORDERS" 284 (.int 24 283),hE P "is_shuffle" 290 (.ref 89),hE P "counted" 299 (.ref 96),hE P "spread" 313 (.ref 103),hE P "shuffled" 319 (.ref 108),hE P "lessened" 330 (.ref 115),hE P "same" 338 (.ref 122),hE P "both" 354 (.ref 129),hE P "_law_cell_at" 364 (.ref 136),hE P "_law_state" 373 (.ref 143),hE P "_law_take" 383 (.ref 150),hE P "_law_order" 389 (.ref 155),hE P "_law_shuffle" 395 (.ref 160),hE P "_law_row" 401 (.ref 165),hE P "_law_both" 410 (.ref 172),hE P "_law_three" 421 (.ref 179),hE P "law" 427 (.ref 184)] 35) ::
 (nat_lit 15,hT [.type "ValueError"]) ::
 (nat_lit 22,hT []) ::
 (nat_lit 23,hD (.type "dict") [hE P "__module__" 196 (hS "hushcards.errors" 187),hE P "__firstlineno__" 200 (.int 2 199),hE P "__static_attributes__" 201 (.ref 22),hE P "__weakref__" 203 (.ref 25),hE P "__doc__" 204 .none] 3) ::
 (nat_lit 24,⟨.type "type",none,.cls {name:="CardError",bases:=[.type "ValueError"],mro:=[.ref 24,.type "ValueError",.type "Exception",.type "BaseException",.type "object"],ns:=23,qualname:="CardError",subclasses:=[.ref 37]},#[some (.ref 15),none,some (hS "CardError" 189),some (hS "CardError" 197),some (.builtin "ValueError.__new__"),some (.bool true)]⟩) ::
 (nat_lit 25,hX (.type "getset_descriptor") [hS "__weakref__" 202,.ref 24,.builtin "ExceptionGroup.__weakref__",.none]) ::
 (nat_lit 28,hT [.ref 24]) ::
 (nat_lit 35,hT []) ::
 (nat_lit 36,hD (.type "dict") [hE P "__module__" 214 (hS "hushcards.errors" 187),hE P "__firstlineno__" 218 (.int 4 217),hE P "__static_attributes__" 219 (.ref 35),hE P "__doc__" 220 .none] 2) ::
 (nat_lit 37,⟨.type "type",none,.cls {name:="TooMany",bases:=[.ref 24],mro:=[.ref 37,.ref 24,.type "ValueError",.type "Exception",.type "BaseException",.type "object"],ns:=36,qualname:="TooMany"},#[some (.ref 28),none,some (hS "TooMany" 207),some (hS "TooMany" 215),some (.builtin "ValueError.__new__"),some (.bool true)]⟩) ::
 (nat_lit 40,hT []) ::
 (nat_lit 42,hT [hS "one" 228,hS "other" 229,hS "rest" 230]) ::
 (nat_lit 43,hT []) ::
 (nat_lit 45,hC "greatest_divisor" "greatest_divisor" 225 7 2 40 41 (.ref 42) (.ref 43) 44 231 232) ::
 (nat_lit 46,hF "greatest_divisor" "greatest_divisor" (top 4) .none .none (hS "hushcards.fractions" 223) none (.ref 45) .none) ::
 (nat_lit 47,hT []) ::
 (nat_lit 49,hT [hS "top" 237,hS "bottom" 238,hS "divisor" 239]) ::
 (nat_lit 50,hT []) ::
 (nat_lit 52,hC "ratio" "ratio" 234 15 2 47 48 (.ref 49) (.ref 50) 51 240 241) ::
 (nat_lit 53,hF "ratio" "ratio" (top 5) .none .none (hS "hushcards.fractions" 223) none (.ref 52) .none) ::
 (nat_lit 54,hT []) ::
 (nat_lit 56,hT [hS "some" 246,hS "bottom" 247,hS "fraction" 248]) ::
 (nat_lit 57,hT []) ::
 (nat_lit 59,hC "common_bottom" "common_bottom" 243 20 1 54 55 (.ref 56) (.ref 57) 58 249 250) ::
 (nat_lit 60,hF "common_bottom" "common_bottom" (top 6) .none .none (hS "hushcards.fractions" 223) none (.ref 59) .none) ::
 (nat_lit 61,hT []) ::
 (nat_lit 63,hT [hS "thing" 257]) ::
 (nat_lit 64,hT []) ::
 (nat_lit 66,hC "is_whole" "is_whole" 254 26 1 61 62 (.ref 63) (.ref 64) 65 258 259) ::
 (nat_lit 67,hF "is_whole" "is_whole" (top 8) .none .none (hS "hushcards.orders" 252) none (.ref 66) .none) ::
 (nat_lit 68,hT []) ::
 (nat_lit 71,hC "is_order" "is_order" 261 28 2 68 69 .none .none 70 264 265) ::
 (nat_lit 72,hF "is_order" "is_order" (top 9) .none .none (hS "hushcards.orders" 252) none (.ref 71) .none) ::
 (nat_lit 73,hT []) ::
 (nat_lit 76,hC "cards_at" "cards_at" 267 32 2 73 74 .none .none 75 270 271) ::
 (nat_lit 77,hF "cards_at" "cards_at" (top 10) .none .none (hS "hushcards.orders" 252) none (.ref 76) .none) ::
 (nat_lit 78,hT []) ::
 (nat_lit 80,hT [hS "one" 276,hS "other" 277]) ::
 (nat_lit 81,hT []) ::
 (nat_lit 83,hC "then" "then" 273 34 2 78 79 (.ref 80) (.ref 81) 82 278 279) ::
 (nat_lit 84,hF "then" "then" (top 11) .none .none (hS "hushcards.orders" 252) none (.ref 83) .none) ::
 (nat_lit 85,hT []) ::
 (nat_lit 88,hC "is_shuffle" "is_shuffle" 285 38 2 85 86 .none .none 87 288 289) ::
 (nat_lit 89,hF "is_shuffle" "is_shuffle" (top 14) .none .none (hS "hushcards.shuffles" 281) none (.ref 88) .none) ::
 (nat_lit 90,hT []) ::
 (nat_lit 92,hT [hS "shuffle" 294,hS "often" 295,hS "order" 296]) ::
 (nat_lit 93,hT []) ::
 (nat_lit 95,hC "counted" "counted" 291 42 1 90 91 (.ref 92) (.ref 93) 94 297 298) ::
 (nat_lit 96,hF "counted" "counted" (top 15) .none .none (hS "hushcards.shuffles" 281) none (.ref 95) .none) ::
 (nat_lit 97,hT []) ::
 (nat_lit 99,hT [hS "weights" 303,hS "shuffle" 304,hS "gathered" 305,hS "order" 306,hS "often" 307,hS "row" 308,hS "weight" 309,hS "changed" 310]) ::
 (nat_lit 100,hT []) ::
 (nat_lit 102,hC "spread" "spread" 300 47 2 97 98 (.ref 99) (.ref 100) 101 311 312) ::
 (nat_lit 103,hF "spread" "spread" (top 16) .none .none (hS "hushcards.shuffles" 281) none (.ref 102) .none) ::
 (nat_lit 104,hT []) ::
 (nat_lit 107,hC "shuffled" "shuffled" 314 54 2 104 105 .none .none 106 317 318) ::
 (nat_lit 108,hF "shuffled" "shuffled" (top 17) .none .none (hS "hushcards.shuffles" 281) none (.ref 107) .none) ::
 (nat_lit 109,hT []) ::
 (nat_lit 111,hT [hS "often" 323,hS "divisor" 324,hS "number" 325,hS "least" 326,hS "order" 327]) ::
 (nat_lit 112,hT []) ::
 (nat_lit 114,hC "lessened" "lessened" 320 61 1 109 110 (.ref 111) (.ref 112) 113 328 329) ::
 (nat_lit 115,hF "lessened" "lessened" (top 18) .none .none (hS "hushcards.shuffles" 281) none (.ref 114) .none) ::
 (nat_lit 116,hT []) ::
 (nat_lit 118,hT [hS "one" 334,hS "other" 335]) ::
 (nat_lit 119,hT []) ::
 (nat_lit 121,hC "same" "same" 331 69 2 116 117 (.ref 118) (.ref 119) 120 336 337) ::
 (nat_lit 122,hF "same" "same" (top 19) .none .none (hS "hushcards.shuffles" 281) none (.ref 121) .none) ::
 (nat_lit 123,hT []) ::
 (nat_lit 125,hT [hS "one" 342,hS "other" 343,hS "often" 344,hS "first" 345,hS "number" 346,hS "second" 347,hS "more" 348,hS "order" 349,hS "least" 350,hS "orders" 351]) ::
 (nat_lit 126,hT []) ::
 (nat_lit 128,hC "both" "both" 339 71 2 123 124 (.ref 125) (.ref 126) 127 352 353) ::
 (nat_lit 129,hF "both" "both" (top 20) .none .none (hS "hushcards.shuffles" 281) none (.ref 128) .none) ::
 (nat_lit 130,hT []) ::
 (nat_lit 132,hT [hS "script" 360,hS "k" 361]) ::
 (nat_lit 133,hT []) ::
 (nat_lit 135,hC "_law_cell_at" "_law_cell_at" 357 85 2 130 131 (.ref 132) (.ref 133) 134 362 363) ::
 (nat_lit 136,hF "_law_cell_at" "_law_cell_at" (top 22) .none .none (hS "law_hushcards_k16_whole_shuffles_one_behind" 355) none (.ref 135) .none) ::
 (nat_lit 137,hT []) ::
 (nat_lit 139,hT [hS "script" 368,hS "k" 369,hS "cell" 370]) ::
 (nat_lit 140,hT []) ::
 (nat_lit 142,hC "_law_state" "_law_state" 365 89 2 137 138 (.ref 139) (.ref 140) 141 371 372) ::
 (nat_lit 143,hF "_law_state" "_law_state" (top 23) .none .none (hS "law_hushcards_k16_whole_shuffles_one_behind" 355) none (.ref 142) .none) ::
 (nat_lit 144,hT []) ::
 (nat_lit 146,hT [hS "state" 377,hS "many" 378,hS "found" 379,hS "mixed" 380]) ::
 (nat_lit 147,hT []) ::
 (nat_lit 149,hC "_law_take" "_law_take" 374 94 2 144 145 (.ref 146) (.ref 147) 148 381 382) ::
 (nat_lit 150,hF "_law_take" "_law_take" (top 24) .none .none (hS "law_hushcards_k16_whole_shuffles_one_behind" 355) none (.ref 149) .none) ::
 (nat_lit 151,hT []) ::
 (nat_lit 154,hC "_law_order" "_law_order" 384 103 2 151 152 .none .none 153 387 388) ::
 (nat_lit 155,hF "_law_order" "_law_order" (top 25) .none .none (hS "law_hushcards_k16_whole_shuffles_one_behind" 355) none (.ref 154) .none) ::
 (nat_lit 156,hT []) ::
 (nat_lit 159,hC "_law_shuffle" "_law_shuffle" 390 106 2 156 157 .none .none 158 393 394) ::
 (nat_lit 160,hF "_law_shuffle" "_law_shuffle" (top 26) .none .none (hS "law_hushcards_k16_whole_shuffles_one_behind" 355) none (.ref 159) .none) ::
 (nat_lit 161,hT []) ::
 (nat_lit 164,hC "_law_row" "_law_row" 396 127 2 161 162 .none .none 163 399 400) ::
 (nat_lit 165,hF "_law_row" "_law_row" (top 27) .none .none (hS "law_hushcards_k16_whole_shuffles_one_behind" 355) none (.ref 164) .none) ::
 (nat_lit 166,hT []) ::
 (nat_lit 168,hT [hS "one" 405,hS "other" 406,hS "found" 407]) ::
 (nat_lit 169,hT []) ::
 (nat_lit 171,hC "_law_both" "_law_both" 402 132 2 166 167 (.ref 168) (.ref 169) 170 408 409) ::
 (nat_lit 172,hF "_law_both" "_law_both" (top 28) .none .none (hS "law_hushcards_k16_whole_shuffles_one_behind" 355) none (.ref 171) .none) ::
 (nat_lit 173,hT []) ::
 (nat_lit 175,hT [hS "one" 414,hS "other" 415,hS "third" 416,hS "left" 417,hS "right" 418]) ::
 (nat_lit 176,hT []) ::
 (nat_lit 178,hC "_law_three" "_law_three" 411 141 3 173 174 (.ref 175) (.ref 176) 177 419 420) ::
 (nat_lit 179,hF "_law_three" "_law_three" (top 29) .none .none (hS "law_hushcards_k16_whole_shuffles_one_behind" 355) none (.ref 178) .none) ::
 (nat_lit 180,hT []) ::
 (nat_lit 183,hC "law" "law" 422 145 1 180 181 .none .none 182 425 426) ::
 (nat_lit 184,hF "law" "law" (top 30) .none .none (hS "law_hushcards_k16_whole_shuffles_one_behind" 355) none (.ref 183) .none)::[]
noncomputable def vw:UN:={PySem.Challenge.pw_hushcards_k16_whole_shuffles_one_behind with main:={PySem.Challenge.pw_hushcards_k16_whole_shuffles_one_behind.main with body:=([1,2,4,5,6,8,9,10,11,13,14,15,16,17,18,19,20,22,23,24,25,26,27,28,29,30]:List Nat).map top}}
noncomputable def hk:PySem.W.Hook:=PySem.W.kHook Kf [2,3,15,22,23,24,25,28,35,36,37,40,42,43,45,46,47,49,50,52,53,54,56,57,59,60,61,63,64,66,67,68,71,72,73,76,77,78,80,81,83,84,85,88,89,90,92,93,95,96,97,99,100,102,103,104,107,108,109,111,112,114,115,116,118,119,121,122,123,125,126,128,129,130,132,133,135,136,137,139,140,142,143,144,146,147,149,150,151,154,155,156,159,160,161,164,165,166,168,169,171,172,173,175,176,178,179,180,183,184] (λ_=>by kernel_rfl)
noncomputable abbrev PY:=PySem.Challenge.rw_hushcards_k16_whole_shuffles_one_behind.row
theorem left:PySem.W.LeftO PY.prog vw [] (λs=>PySem.W.xlAt vw [] s&&PySem.W.recOk (PySem.W.RowW.records PY.toRowW) s) hk.obs hk.val 2402:=λw=>by kernel_rfl
end Hc
namespace L2
noncomputable abbrev Key:=Sum Int Str
noncomputable def qR:Key->R6->Bool
 | .inl k,v=>Value.isInt k v
 | .inr x,v=>Value.isStrOf x v
noncomputable def N8 (w:Tq):Key->Int
 | .inl k=>hashInt k
 | .inr x=>hashStr w x
theorem bU:∀{k:Key} {v:R6},qR k v=true->(∃i t,k=Sum.inl i/\v=Value.int i t)\/(∃x t,k=Sum.inr x/\v=Value.str x t)
 | .inl i,v,h=>by
  obtain⟨t,e⟩:=Value.isInt_shape (k:=i) (v:=v) h;exact .inl ⟨i,t,rfl,e⟩
 | .inr x,v,h=>by
  obtain⟨t,e⟩:=Value.isStrOf_shape (x:=x) (v:=v) h;exact .inr ⟨x,t,rfl,e⟩
theorem zH (i:Int)(t:Tok):qR (.inl i) (.int i t)=true:=by simp[qR,Value.isInt]
theorem zI (x:Str)(t:Tok):qR (.inr x) (.str x t)=true:=by simp[qR,Value.isStrOf]
theorem Iv (a b:Int):decide ((Sum.inl a:Key)=Sum.inl b)=(a==b):=by
 by_cases e:a=b
 ·subst e;simp
 ·have h:¬(Sum.inl a:Key)=Sum.inl b:=λq=>e (Sum.inl.inj q);rw[hV h];exact (beq_eq_false_iff_ne.mpr e).symm
theorem Iw (a b:Str):decide ((Sum.inr a:Key)=Sum.inr b)=decide (a=b):=by
 by_cases e:a=b
 ·subst e;simp
 ·have h:¬(Sum.inr a:Key)=Sum.inr b:=λq=>e (Sum.inr.inj q);rw[hV h,hV e]
theorem Iy (a:Int)(b:Str):decide ((Sum.inl a:Key)=Sum.inr b)=false:=hV (λq=>nomatch q)
theorem Iz (a:Str)(b:Int):decide ((Sum.inr a:Key)=Sum.inl b)=false:=hV (λq=>nomatch q)
noncomputable def cw (prog:UN)(w:Tq):PySem.KeyKind prog w Key where
 is:=qR
 hash:=N8 w
 inj:=λv a b ha hb=>by
  rcases bU ha with⟨i,t,rfl,rfl⟩|⟨x,t,rfl,rfl⟩
  ·rcases bU hb with⟨j,u,rfl,e⟩|⟨y,u,rfl,e⟩
   ·injection e with e1 _;rw[e1]
   ·exact nomatch e
  ·rcases bU hb with⟨j,u,rfl,e⟩|⟨y,u,rfl,e⟩
   ·exact nomatch e
   ·injection e with e1 _;rw[e1]
 byValue:=λk v h=>by
  rcases bU h with⟨i,t,rfl,rfl⟩|⟨x,t,rfl,rfl⟩<;>rfl
 pyHash:=λhv h=>by
  rcases bU hv with⟨i,t,rfl,rfl⟩|⟨x,t,rfl,rfl⟩
  ·exact wpAny_pyHash_int h
  ·exact wpAny_pyHash_str h
 eqBool:=λhu hv h=>by
  rcases bU hu with⟨i,t,rfl,rfl⟩|⟨x,t,rfl,rfl⟩
  ·rcases bU hv with⟨j,u,rfl,rfl⟩|⟨y,u,rfl,rfl⟩
   ·rw[Iv] at h;exact wpAny_eqBool_int h
   ·rw[Iy] at h;exact SeqAt.EqAt.int_str i t y u _ _ _ _ h
  ·rcases bU hv with⟨j,u,rfl,rfl⟩|⟨y,u,rfl,rfl⟩
   ·rw[Iz] at h;exact SeqAt.EqAt.str_int x t j u _ _ _ _ h
   ·rw[Iw] at h;exact wpAny_eqBool_str h
 «strs»:=λk x t v h=>by
  rcases bU h with⟨i,u,rfl,e⟩|⟨y,u,rfl,e⟩
  ·exact nomatch e
  ·injection e with e1 _
   subst e1;cases v<;>rfl
theorem uj (prog:UN)(w:Tq)(i:Int)(t:Tok):(cw prog w).is (.inl i) (.int i t)=true:=zH i t
theorem uk (prog:UN)(w:Tq)(x:Str)(t:Tok):(cw prog w).is (.inr x) (.str x t)=true:=zI x t
end L2
namespace L2
inductive V where
 |non|bl (b:Bool)|int (i:Int)|str (x:Str)|byt (b:Array UInt8)|flt (b:UInt64)|ref (a:Sr)|ty (n:String)
 deriving DecidableEq
def aM:V->R6->Prop
 | .non,u=>u=Value.none
 | .bl b,u=>u=Value.bool b
 | .int i,u=>∃t,u=Value.int i t
 | .str x,u=>∃t,u=Value.str x t
 | .byt b,u=>∃t,u=Value.bytes b t
 | .flt b,u=>∃t,u=Value.float b t
 | .ref a,u=>u=Value.ref a
 | .ty n,u=>u=Value.type n
abbrev aO:List V->List R6->Prop:=Ws aM
theorem aO.length {xs:List V}{us:List R6}(r:aO xs us):xs.length=us.length:=U6 r
theorem aO.get:∀{xs:List V} {us:List R6} {i:Nat} {x:V},aO xs us->xs[i]? = some x->∃u,us[i]? = some u/\aM x u
 |_,_,_,_,.nil,e=>by simp at e
 |_,_,0,_,.cons r _,e=>by simp at e;subst e;exact⟨_,rfl,r⟩
 |_,_,i+1,x,.cons _ t,e=>by
  obtain⟨u,h1,h2⟩:=aO.get (i:=i) (x:=x) t (by simpa using e);exact⟨u,by simpa using h1,h2⟩
theorem aO.set {x:V}{u:R6}(r:aM x u):∀{xs:List V} {us:List R6} (i:Nat),aO xs us->aO (xs.set i x) (us.set i u)
 |_,_,_,.nil=>.nil
 |_,_,0,.cons _ t=>.cons r t
 |_,_,i+1,.cons q t=>.cons q (aO.set r i t)
theorem aO.append:∀{xs ys:List V} {us ws:List R6},aO xs us->aO ys ws->aO (xs++ys) (us++ws)
 |_,_,_,_,.nil,s=>s
 |_,_,_,_,.cons r t,s=>.cons r (aO.append t s)
theorem aO.take:∀{xs:List V} {us:List R6} (n:Nat),aO xs us->aO (xs.take n) (us.take n)
 |_,_,0,_=>.nil
 |_,_,_+1,.nil=>.nil
 |_,_,n+1,.cons r t=>.cons r (aO.take n t)
theorem aO.drop:∀{xs:List V} {us:List R6} (n:Nat),aO xs us->aO (xs.drop n) (us.drop n)
 |_,_,0,r=>r
 |_,_,_+1,.nil=>.nil
 |_,_,n+1,.cons _ t=>aO.drop n t
def jZ:Option V->Option R6->Prop
 |some v,some u=>aM v u
 |none,none=>True
 |_,_=>False
def KV {κ:Type}:List (κ×V)->List (κ×R6)->Prop:=Ws λ(p:κ×V) (q:κ×R6)=>p.1=q.1/\aM p.2 q.2
noncomputable def kV:Key->V
 | .inl i=>.int i
 | .inr x=>.str x
inductive HO where
 |lst (xs:List V)
 |tup (xs:List V)
 |dK (aP:List (Key×V))|dT (aP:List (List Key×V))
 |set (S:Int->Bool) (n:Nat)
 |ins (C dx:Sr) (fs:List (Str×V))
 |own (x:Sr)
 |xd (fs:List (Str×V))
 |met (f x:Sr)
 |rng (lo hi:Int)
 |frz (o:Obj) (u:HO)
 |tbl (ps:Array R6)
 |ext (φ:UU->Prop)
noncomputable abbrev Hp:=Sr->Option HO
noncomputable def cu (H:Hp)(a:Sr)(o:HO):Hp:=λb=>if b=a then some o else H b
theorem bo {H:Hp}{o:HO}:cu H a o a=some o:=by unfold cu;rw[h9 rfl]
theorem aL {H:Hp}{o:HO}(h:b≠a):cu H a o b=H b:=by unfold cu;rw[hZ h]
theorem K1 {H:Hp}{o u:HO}(h:H a=some o)(h':H b=some u)(d:o≠u):a≠b:=by
 intro e;subst e;rw[h] at h';exact d (SH h')
theorem br {H:Hp}{o:HO}(h:H a=some o)(h':H b=none):a≠b:=by
 intro e;subst e;rw[h] at h';cases h'
section
variable (P:UN)(w:Tq)
def bz (H:Hp)(h:UU)(a:Sr):HO->Prop
 | .lst xs=>xs.length<=R3/\∃(ax:List R6) (n:Nat),aO xs ax/\h.get? a=some {cls:=.type "list",data:=.seq ax.toArray n}
 | .tup xs=>xs.length<=R3/\∃ax:List R6,aO xs ax/\IsTup h a ax.toArray/\∃n,h.get? a=some {cls:=.type "tuple",data:=.seq ax.toArray n}
 | .dK aP=>aP.length<=R3/\(a==Tr)=false/\∃vs,KV aP vs/\h.DictOf (cw P w) a vs
 | .dT aP=>aP.length<=R3/\(a==Tr)=false/\∃xs:List (List Key×Sr×R6),
   Ws (λ(p:List Key×V) (q:List Key×Sr×R6)=>p.1=q.1/\H q.2.1=some (.tup (p.1.map kV))/\aM p.2 q.2.2) aP xs/\
   ∃o es ep,h.get? a=some o/\o.ExactDict/\o.data=.dict es ep/\es.toList=xs.map (entryOfKey (tupleKind (cw P w)))/\(xs.map (·.1)).Nodup
 | .set S n=>h.SetOf (intKind P w) a S n
 | .ins C dx fs=>H dx=some (.own a)/\fs.length<=1000/\dx≠a/\h.get? a=some (PySem.W.instObj C dx)/\
   ∃mA,h.Ns1 dx mA/\(∀f,jZ (fs.lookup f) (mA f))/\PySem.Within mA (fs.map (·.1))
 | .own _=>∃o,h.get? a=some o
 | .xd fs=>∃mA,h.Ns1 a mA/\∀f,jZ (fs.lookup f) (mA f)
 | .rng lo hi=>∃t u v,h.get? a=some {cls:=.type "range",data:=.fields #[.int lo t,.int hi u,.int 1 v]}
 | .frz o u=>h.get? a=some o/\bz H h a u
 | .tbl ps=>h.get? a=some {cls:=.none,data:=.fields ps}
 | .met f x=>h.get? a=some (Xj (.ref f) (.ref x))
 | .ext φ=>φ h/\(∃o,h.get? a=some o)/\∀h1 h2:UU,φ h1->(∀o,h1.get? a=some o->h2.get? a=some o)->φ h2
def gK (H:Hp)(h:UU):Prop:=∀a o,H a=some o->bz P w H h a o
end
section
variable {w:Tq}{H H':Hp}{o:HO}
theorem bz.lt (x:bz P w H h a o):a<h.objs.size:=by
 cases o with
 |lst xs=>obtain⟨_,_,_,_,e⟩:=x;exact Sl e
 |tup xs=>obtain⟨_,_,_,p,_⟩:=x;exact p.lt
 |dK aP=>obtain⟨_,_,_,_,o,_,_,e,_⟩:=x;exact Sl e
 |dT aP=>obtain⟨_,_,_,_,o,_,_,e,_⟩:=x;exact Sl e
 |set S n=>obtain⟨o,_,_,_,e,_⟩:=x;exact Sl e
 |ins C dx fs=>obtain⟨_,_,_,e,_⟩:=x;exact Sl e
 |own y=>obtain⟨_,e⟩:=x;exact Sl e
 |xd fs=>obtain⟨_,⟨_,_,_,e,_⟩,_⟩:=x;exact Sl e
 |rng lo hi=>obtain⟨_,_,_,e⟩:=x;exact Sl e
 |frz ob u=>obtain⟨e,_⟩:=x;exact Sl e
 |tbl ps=>exact Sl (show h.get? a=some _ from x)
 |met f y=>exact Sl (show h.get? a=some _ from x)
 |ext φ=>obtain⟨_,⟨_,e⟩,_⟩:=x;exact Sl e
theorem Paired.mapP {α β:Type}{F G:α->β->Prop}:∀{l₁:List α} {l₂:List β},Ws F l₁ l₂->(∀a b,F a b->G a b)->Ws G l₁ l₂
 |_,_,.nil,_=>.nil
 |_,_,.cons r t,f=>.cons (f _ _ r) (Paired.mapP t f)
theorem bz.stay (x:bz P w H h a o)(k:∀b u,(b=a\/H b=some (.own a))->h.get? b=some u->h'.get? b=some u)
  (ho:∀b,H b=some (.own a)->H' b=some (.own a)) (ht:∀b xs,H b=some (.tup xs)->H' b=some (.tup xs)):bz P w H' h' a o:=by
 induction o with
 |lst xs=>obtain⟨z,ax,n,r,e⟩:=x;exact⟨z,ax,n,r,k _ _ (.inl rfl) e⟩
 |tup xs=>obtain⟨z,ax,r,⟨ob,e,c⟩,n2,e2⟩:=x;exact⟨z,ax,r,⟨ob,k _ _ (.inl rfl) e,c⟩,n2,k _ _ (.inl rfl) e2⟩
 |dK aP=>obtain⟨z,y,vs,r,ob,es,ep,e,c⟩:=x;exact⟨z,y,vs,r,ob,es,ep,k _ _ (.inl rfl) e,c⟩
 |dT aP=>
  obtain⟨z,y,xs,r,ob,es,ep,e,c⟩:=x;exact⟨z,y,xs,Paired.mapP r λp q z=>⟨z.1,ht _ _ z.2.1,z.2.2⟩,ob,es,ep,k _ _ (.inl rfl) e,c⟩
 |set S n=>obtain⟨ob,es,ep,t,e,c⟩:=x;exact⟨ob,es,ep,t,k _ _ (.inl rfl) e,c⟩
 |ins C dx fs=>
  obtain⟨d,z,ne,e,mA,⟨od,es,ep,e2,c⟩,r⟩:=x;exact⟨ho _ d,z,ne,k _ _ (.inl rfl) e,mA,⟨od,es,ep,k _ _ (.inr d) e2,c⟩,r⟩
 |own y=>obtain⟨ob,e⟩:=x;exact⟨ob,k _ _ (.inl rfl) e⟩
 |xd fs=>obtain⟨mA,⟨od,es,ep,e,c⟩,r⟩:=x;exact⟨mA,⟨od,es,ep,k _ _ (.inl rfl) e,c⟩,r⟩
 |rng lo hi=>obtain⟨t,u,v,e⟩:=x;exact⟨t,u,v,k _ _ (.inl rfl) e⟩
 |frz ob u ih=>obtain⟨e,q⟩:=x;exact⟨k _ _ (.inl rfl) e,ih q⟩
 |tbl ps=>
  have e:h.get? a=some {cls:=.none,data:=.fields ps}:=x;show h'.get? a=some {cls:=.none,data:=.fields ps};exact k a _ (.inl rfl) e
 |met f y=>
  have e:h.get? a=some (Xj (.ref f) (.ref y)):=x;show h'.get? a=some (Xj (.ref f) (.ref y));exact k a _ (.inl rfl) e
 |ext φ=>obtain⟨p,⟨o,e⟩,st⟩:=x;exact⟨st _ _ p λo q=>k _ _ (.inl rfl) q,⟨o,k _ _ (.inl rfl) e⟩,st⟩
theorem gK.lt (x:gK P w H h)(e:H a=some o):a<h.objs.size:=(x a o e).lt
theorem gK.fresh (x:gK P w H h)(e:h.objs.size<=a):H a=none:=by
 cases q:H a with
 |none=>rfl
 |some u=>exact absurd (SK (x.lt q) e) (TZ _)
theorem gK.kept (x:gK P w H h)(k:∀b u,h.get? b=some u->h'.get? b=some u):gK P w H h':=λa o e=>
 (x a o e).stay (λb u _ q=>k b u q) (λ_ q=>q) λ_ _ q=>q
theorem gK.laid (x:gK P w H h)(k:∀b u,h.get? b=some u->h'.get? b=some u)(hp:h.objs.size<=a)(new:bz P w (cu H a o) h' a o):gK P w (cu H a o) h':=λb u e=>by
 have hn:=x.fresh hp;by_cases hb:b=a
 ·subst hb;rw[bo] at e;cases e;exact new
 ·rw[aL hb] at e;exact (x b u e).stay (λc v _ q=>k c v q) (λc q=>by rw[aL (br q hn)];exact q) λc xs q=>by rw[aL (br q hn)];exact q
end
def Rd (H:Hp)(a:Sr)(u:HO):Prop:=H a=some u\/∃o,H a=some (.frz o u)
theorem Rd.ok {w:Tq}{H:Hp}{u:HO}(r:Rd H a u)(x:gK P w H h):bz P w H h a u:=by
 rcases r with r|⟨o,r⟩
 ·exact x a u r
 ·obtain⟨_,q⟩:=x a _ r;exact q
def KO:Option HO->Prop
 |some (.lst _)=>True
 |some (.dK _)=>True
 |some (.dT _)=>True
 |some (.set _ _)=>True
 |some (.ins _ _ _)=>True
 |some (.ext _)=>True
 |_=>False
section
variable {w:Tq}{H:Hp}{x e:Sr}{o':HO}
theorem gK.write (ok:gK P w H h)(mu:KO (H x))(he:e=x\/H e=some (.own x))(k:∀b u,b≠e->h.get? b=some u->h'.get? b=some u)(KU:∃u,h'.get? e=some u)
  (new:bz P w (cu H x o') h' x o'):gK P w (cu H x o') h':=λb u q=>by
 have M8:∀c y,H c=some (.own y)->c≠x:=λc y r z=>by subst z;rw[r] at mu;exact mu
 have OX:∀c xs,H c=some (.tup xs)->c≠x:=λc xs r z=>by subst z;rw[r] at mu;exact mu
 by_cases hb:b=x
 ·subst hb;rw[bo] at q;cases q;exact new
 ·rw[aL hb] at q;by_cases hbe:b=e
  ·have q':H b=some (.own x):=by
    rcases he with z|z
    ·exact absurd (hbe.trans z) hb
    ·rw[hbe];exact z
   rw[q] at q';cases q';obtain⟨v,hv⟩:=KU;exact⟨v,by rw[hbe];exact hv⟩
  ·refine (ok b u q).stay (λc v hc r=>k c v ?_ r) (λc r=>by rw[aL (M8 c b r)];exact r) λc xs r=>by rw[aL (OX c xs r)];exact r
   rcases hc with rfl|hc
   ·exact hbe
   ·rintro rfl;rcases he with z|z
    ·exact M8 c b hc z
    ·rw[hc] at z;cases z;exact hb rfl
end
structure Un (fs ex:List Sr)(H H':Hp)(h h':UU):Prop where
 keep:∀b o,h.get? b=some o->H b=none->b∉fs->b∉ex->h'.get? b=some o
 slot:∀b o,h.get? b=some o->H b=none->b∈fs->b∉ex->∃sl,h'.get? b=some {o with slots:=sl}
 free:∀b o,h.get? b=some o->H b=none->b∉ex->H' b=none
 there:∀b o,h.get? b=some o->b∉ex->∃o',h'.get? b=some o'
 tups:∀b xs,H b=some (.tup xs)->H' b=some (.tup xs)
 frzs:∀b o u,H b=some (.frz o u)->H' b=some (.frz o u)
 tbls:∀b ps,H b=some (.tbl ps)->∃more,H' b=some (.tbl (ps++more))
section
variable {fs fs' ex ex':List Sr}{H H1 H2:Hp}{h1 h2:UU}{x e:Sr}{o:HO}
theorem Un.any (u:Un fs ex H H1 h h1){ob:Obj}(q:h.get? b=some ob)(n:H b=none)(hx:b∉ex):∃sl,h1.get? b=some {ob with slots:=sl}:=by
 by_cases hb:b∈fs
 ·exact u.slot b ob q n hb hx
 ·exact⟨ob.slots,u.keep b ob q n hb hx⟩
theorem Un.kept (k:∀b u,h.get? b=some u->h'.get? b=some u):Un fs ex H H h h' :=
 ⟨λb ob q _ _ _=>k b ob q,λb ob q _ _ _=>⟨ob.slots,k b ob q⟩,λ_ _ _ n _=>n,λb ob q _=>⟨ob,k b ob q⟩,λ_ _ q=>q,λ_ _ _ q=>q,λ_ ps q=>⟨#[],by rw[q];simp⟩⟩
theorem Un.refl:Un fs ex H H h h:=Un.kept λ_ _ q=>q
theorem Un.laid (k:∀b u,h.get? b=some u->h'.get? b=some u)(hp:h.objs.size<=a)(hn:H a=none):Un fs ex H (cu H a o) h h' where
 keep:=λb u q _ _ _=>k b u q
 slot:=λb u q _ _ _=>⟨u.slots,k b u q⟩
 free:=λb u q n _=>by rw[aL (SJ (SK (Sl q) hp))];exact n
 there:=λb u q _=>⟨u,k b u q⟩
 tups:=λb xs q=>by rw[aL (br q hn)];exact q
 frzs:=λb u xs q=>by rw[aL (br q hn)];exact q
 tbls:=λb ps q=>⟨#[],by rw[aL (br q hn),q];simp⟩
theorem Un.write (mu:KO (H x))(he:e=x\/H e=some (.own x))(k:∀b u,b≠e->h.get? b=some u->h'.get? b=some u)(KU:∃u,h'.get? e=some u):Un fs ex H (cu H x o) h h':=by
 have hx:∀b,H b=none->b≠x:=λb n z=>by subst z;rw[n] at mu;exact mu
 have hb:∀b,H b=none->b≠e:=λb n z=>by
  subst z;rcases he with r|r
  ·exact hx b n r
  ·rw[n] at r;cases r
 have hm:∀b u,H b=some u->¬KO (some u)->b≠x:=λb u q nm z=>by subst z;rw[q] at mu;exact nm mu
 refine⟨λb u q n _ _=>k b u (hb b n) q,λb u q n _ _=>⟨u.slots,k b u (hb b n) q⟩,λb u q n _=>by rw[aL (hx b n)];exact n,λb u q _=>?_,
  λb xs q=>by rw[aL (hm b _ q λz=>z)];exact q,λb u xs q=>by rw[aL (hm b _ q λz=>z)];exact q,λb ps q=>⟨#[],by rw[aL (hm b _ q λz=>z),q];simp⟩⟩
 by_cases hbe:b=e
 ·subst hbe;exact KU
 ·exact⟨u,k b u hbe q⟩
end
noncomputable def ND (h:UU)(H:Hp):List Sr:=(SX h.objs.size).filter λa=>(H a).isSome
noncomputable def sf (h:UU)(H:Hp):UU:=PySem.W.hideAll h (ND h H)
theorem zJ (h:UU)(H:Hp):(sf h H).objs.size=h.objs.size:=PySem.W.hideAll_size _ _
theorem A6 {H:Hp}{o:Obj}(e:h.get? b=some o)(n:H b=none):(sf h H).get? b=some o:=
 PySem.W.hideAll_get _ e λhm=>by
  have q:(H b).isSome=true:=(List.mem_filter.mp hm).2;rw[n] at q;simp at q
theorem Eu {H:Hp}{o:Obj}(e:(sf h H).get? b=some o):h.get? b=some o/\H b=none:=by
 have e':h.get? b=some o:=PySem.W.of_hideAll (ND h H) e;refine⟨e',?_⟩;cases q:H b with
 |none=>rfl
 |some x=>
  have hm:b∈ND h H:=List.mem_filter.mpr ⟨W8.mpr (Sl e'),by simp[q]⟩;have z:(sf h H).get? b=none:=PySem.W.hideAll_none (ND h H) hm;rw[z] at e;cases e
end L2
variable {xs vs:List L2.V}{H H' H1 H2:L2.Hp}{o:L2.HO}{v y:L2.V}{aP:List (List L2.Key×L2.V)}
namespace L2
structure Mod (K:R1)(mg:Str->Option R6)(base:UU):Prop where
 kin:K.In base
 glob:base.Ns SS mg
 blt:∃mb,base.Ns builtinsNs mb/\∀x:Str,x≠"__name__"->mb x=S0 x
 nolimit:base.NoLimit
structure Cx where
 prog:UN
 w:Tq
 K:R1
 mg:Str->Option R6
 base:UU
 A:S2
 N:List Str
 s₀:Sk
 H₀:Hp
 env:Env
 outer:List Env
 stack:List Env
 ex:List Sr
 fn:Str->Bool
 calm:Bool
 pn:List (Sr×Obj)
 xe:R6->Sk->Prop
noncomputable def oh (l:List Env):List Sr:=l.filterMap (·.frame)
noncomputable abbrev Cx.fs (X:Cx):List Sr:=oh X.outer
def AR (sc:Scope)(x:Str):Prop:=sc.names.lookup x=some .local\/sc.names.lookup x=some .cell\/sc.names.lookup x=some .free
def GI (sc:Scope)(x:Str):Prop:=sc.names.lookup x=some .local\/sc.names.lookup x=some .cell
def N9 (env:Env)(h:UU)(m:Str->Option R6)(x:Str)(u:R6):Prop:=
 (env.kindOf x=some .local/\m x=some u)\/((env.kindOf x=some .cell\/env.kindOf x=some .free)/\∃c,env.cells.lookup x=some c/\h.IsCell c (some u))
structure Cx.Ok (X:Cx):Prop where
 mod:Mod X.K X.mg X.base
 kind:X.env.scope.kind=.function
 glob:X.env.globals=SS
 blt:X.env.builtins=builtinsNs
 above:X.s₀.heap.objs.size<=X.env.locals
 inj:∀x y c,X.env.cells.lookup x=some c->X.env.cells.lookup y=some c->x=y
 has:∀x,(X.env.kindOf x=some .cell\/X.env.kindOf x=some .free)->∃c,X.env.cells.lookup x=some c
 cab:∀x c,X.fn x=true->X.env.cells.lookup x=some c->X.s₀.heap.objs.size<=c
 hd:X.calm=true->X.A.handled=none
 frames:X.A.frames=some X.stack
 stk:X.stack=X.outer\/(X.stack=X.env::X.outer/\X.env.frame=some X.env.locals)
 exf:∀b∈X.ex,b≠X.env.locals/\∀x c,X.env.cells.lookup x=some c->c≠b
 bs:∀b o,X.base.get? b=some o->X.s₀.heap.get? b=some o/\X.H₀ b=none
 bsz:X.base.objs.size<=X.s₀.heap.objs.size
 noex:∀b o,X.base.get? b=some o->b∉X.ex
 exfs:∀b∈X.ex,b∉X.fs
 funs:X.s₀.heap.FunFrames X.base X.outer
 frf:∀b∈X.fs,X.H₀ b=none
structure ay (X:Cx)(pins:List (Sr×Obj))(σ:List (Option V))(H:Hp)(s:Sk):Prop where
 ok:X.Ok
 os:s.os=X.s₀.os
 bare:W9 s.gens
 base:Un X.fs X.ex X.H₀ H X.s₀.heap s.heap
 loc:∃m,s.heap.Ns X.env.locals m/\∀(i:Nat) (x:Str) (v:V),X.N[i]? = some x->σ[i]? = some (some v)->AR X.env.scope x->∃u,aM v u/\N9 X.env s.heap m x u
 cell:∀x c,X.env.cells.lookup x=some c->∃v,s.heap.IsCell c v
 free:H X.env.locals=none
 freeC:∀x c,X.env.cells.lookup x=some c->H c=none
 pin:∀p∈X.pn++pins,s.heap.get? p.1=some p.2/\H p.1=none/\p.1≠X.env.locals/\p.1∉X.fs/\∀v,p.2.data≠.cell v
 hok:gK X.prog X.w H s.heap
 len:σ.length=X.N.length
section
variable {X:Cx}{σ:List (Option V)}
theorem Cx.Ok.nofr (ok:X.Ok){o:Obj}(e:X.base.get? b=some o):b∉X.fs:=λhb=>by
 have:=(ok.funs.mem hb).1;rw[e] at this;cases this
theorem ay.bs (I:ay X pins σ H s):∀b o,X.base.get? b=some o->s.heap.get? b=some o/\H b=none:=λb o e=>
 ⟨I.base.keep b o (I.ok.bs b o e).1 (I.ok.bs b o e).2 (I.ok.nofr e) (I.ok.noex b o e),I.base.free b o (I.ok.bs b o e).1 (I.ok.bs b o e).2 (I.ok.noex b o e)⟩
theorem ay.bk (I:ay X pins σ H s):∀b o,X.base.get? b=some o->s.heap.get? b=some o:=λb o e=>(I.bs b o e).1
theorem ay.mod (I:ay X pins σ H s):Mod X.K X.mg X.base:=I.ok.mod
theorem ay.kIn (I:ay X pins σ H s):X.K.In s.heap:=I.ok.mod.kin.keeps I.bk
theorem ay.lt (I:ay X pins σ H s):X.env.locals<s.heap.objs.size:=let ⟨_,hn,_⟩:=I.loc;hn.lt
theorem ay.sz (I:ay X pins σ H s):X.s₀.heap.objs.size<=s.heap.objs.size:=Sz I.ok.above (WW I.lt)
theorem ay.nofs (I:ay X pins σ H s)(h:s.heap.objs.size<=a):a∉X.fs:=λhb=>by
 obtain⟨_,o,ho,_⟩:=I.ok.funs.mem hb;exact absurd (SK (Sl ho) (Sz I.sz h)) (TZ _)
theorem ay.cne (I:ay X pins σ H s):∀x c,X.env.cells.lookup x=some c->c≠X.env.locals:=λx c e z=>by
 obtain⟨v,o,ho,hd⟩:=I.cell x c e;obtain⟨m,⟨o',es,ep,Ec,hd',_⟩,_⟩:=I.loc;rw[z,Ec] at ho;cases ho;rw[hd'] at hd;cases hd
theorem ay.funs (I:ay X pins σ H s):s.heap.FunFrames X.base X.outer:=by
 have all:∀(l:List Env),(∀b∈oh l,b∈X.fs)->X.s₀.heap.FunFrames X.base l->s.heap.FunFrames X.base l:=by
  intro l
  induction l with
  |nil=>intro _ _;trivial
  |cons env r ih=>
   intro hs hl;obtain⟨hk,⟨L,o,hf,hn,ho,hd⟩,hr⟩:=hl;have hL:L∈X.fs:=hs L (by unfold oh;rw[Vo,hf];exact Sd);obtain⟨sl,e⟩:=I.base.slot L o ho (I.ok.frf L hL) hL λz=>I.ok.exfs L z hL;exact⟨hk,⟨L,_,hf,hn,e,hd⟩,ih (λb hb=>hs b (by unfold oh;rw[Vo,hf];exact Sn _ hb)) hr⟩
 exact all X.outer (λ_ hb=>hb) I.ok.funs
theorem ay.stack (I:ay X pins σ H s):s.heap.FunFrames X.base X.stack:=by
 rcases I.ok.stk with e|⟨e,hf⟩
 ·rw[e];exact I.funs
 ·rw[e];obtain⟨m,hn,_⟩:=I.loc;refine .cons (by rw[I.ok.kind];decide) hf hn ?_ I.funs;exact Heap.get?_none_of_le (Sz I.ok.bsz I.ok.above)
theorem ay.stkSub (I:ay X pins σ H s):∀b∈oh X.stack,b∈X.env.locals::X.fs:=λb hb=>by
 rcases I.ok.stk with e|⟨e,hf⟩
 ·rw[e] at hb;exact Sn _ hb
 ·rw[e] at hb;unfold oh at hb;rw[Vo,hf] at hb;exact hb
theorem ay.stkFree (I:ay X pins σ H s):∀b∈oh X.stack,H b=none:=λb hb=>by
 rcases Ss.mp (I.stkSub b hb) with e|hb
 ·rw[e];exact I.free
 ·obtain⟨_,o,ho,_⟩:=I.ok.funs.mem hb;exact I.base.free b o ho (I.ok.frf b hb) λz=>I.ok.exfs b z hb
theorem ay.step {t':Nat}{d':Drawn}(I:ay X pins σ H s)(Ep:∀b∈ch,(b∈X.ex\/X.s₀.heap.objs.size<=b)/\b≠X.env.locals/\(∀x c,X.env.cells.lookup x=some c->c≠b)/\∀p∈X.pn++pins,p.1≠b)(keep:∀b o,b≠X.env.locals->b∉X.fs->b∉ch->s.heap.get? b=some o->H b=none->h'.get? b=some o)(slot:∀b o,b≠X.env.locals->b∈X.fs->b∉ch->s.heap.get? b=some o->H b=none->∃sl,h'.get? b=some {o with slots:=sl})(free:∀b o,b∉ch->s.heap.get? b=some o->H b=none->H' b=none)(there:∀b o,b∉ch->s.heap.get? b=some o->∃o',h'.get? b=some o')(tups:∀b xs,H b=some (.tup xs)->H' b=some (.tup xs))(frzs:∀b o u,H b=some (.frz o u)->H' b=some (.frz o u))(tbls:∀b ps,H b=some (.tbl ps)->∃more,H' b=some (.tbl (ps++more)))(ns:∀m,s.heap.Ns X.env.locals m->h'.Ns X.env.locals m)(hok:gK X.prog X.w H' h')(hg:W9 g') :
  ay X pins σ H' {s with heap:=h',gens:=g',drawn:=d',toks:=t'}:=by
 have M9:∀b o,X.s₀.heap.get? b=some o->b≠X.env.locals:=λb o e=>SJ (SK (Sl e) I.ok.above);have N0:∀b o,X.s₀.heap.get? b=some o->b∉X.ex->b∉ch:=λb o e hx hb=>by
  rcases (Ep b hb).1 with z|z
  ·exact hx z
  ·exact absurd (SK (Sl e) z) (TZ _)
 have Ii:∀x c,X.env.cells.lookup x=some c->∀v,s.heap.IsCell c v->h'.IsCell c v:=λx c e v h00=>by
  obtain⟨o,ho,hd⟩:=h00;have M_:c∉ch:=λz=>(Ep c z).2.2.1 x c e rfl;by_cases hc:c∈X.fs
  ·obtain⟨sl,q⟩:=slot c o (I.cne x c e) hc M_ ho (I.freeC x c e);exact⟨_,q,hd⟩
  ·exact⟨o,keep c o (I.cne x c e) hc M_ ho (I.freeC x c e),hd⟩
 refine⟨I.ok,I.os,hg,⟨λb o e n hb hx=>?_,λb o e n hb hx=>?_,λb o e n hx=>?_,λb o e hx=>?_,λb xs e=>tups b xs (I.base.tups b xs e),λb o xs e=>frzs b o xs (I.base.frzs b o xs e),λb ps e=>?_⟩,?_,λx c e=>?_,?_,λx c e=>?_,λp hp=>?_,hok,I.len⟩
 ·exact keep b o (M9 b o e) hb (N0 b o e hx) (I.base.keep b o e n hb hx) (I.base.free b o e n hx)
 ·obtain⟨sl,e1⟩:=I.base.slot b o e n hb hx;obtain⟨sl',e2⟩:=slot b _ (M9 b o e) hb (N0 b o e hx) e1 (I.base.free b o e n hx);exact⟨sl',e2⟩
 ·obtain⟨o',e1⟩:=I.base.there b o e hx;exact free b o' (N0 b o e hx) e1 (I.base.free b o e n hx)
 ·obtain⟨o',e1⟩:=I.base.there b o e hx;exact there b o' (N0 b o e hx) e1
 ·obtain⟨m1,e1⟩:=I.base.tbls b ps e;obtain⟨m2,e2⟩:=tbls b _ e1;exact⟨m1++m2,by rw[e2,Array.append_assoc]⟩
 ·obtain⟨m,hn,hl⟩:=I.loc;refine⟨m,ns m hn,λi x v e1 e2 e3=>?_⟩;obtain⟨u,r,l⟩:=hl i x v e1 e2 e3;refine⟨u,r,?_⟩;rcases l with l|⟨k,c,e,z⟩
  ·exact .inl l
  ·exact .inr ⟨k,c,e,Ii x c e _ z⟩
 ·obtain⟨v,z⟩:=I.cell x c e;exact⟨v,Ii x c e v z⟩
 ·obtain⟨m,⟨o,_,_,ho,_⟩,_⟩:=I.loc;exact free _ o (λz=>(Ep _ z).2.1 rfl) ho I.free
 ·obtain⟨v,o,ho,hd⟩:=I.cell x c e;exact free c o (λz=>(Ep c z).2.2.1 x c e rfl) ho (I.freeC x c e)
 ·obtain⟨e,n,ne,nf,d⟩:=I.pin p hp;have M_:p.1∉ch:=λz=>(Ep p.1 z).2.2.2 p hp rfl;exact⟨keep p.1 p.2 ne nf M_ e n,free p.1 p.2 M_ e n,ne,nf,d⟩
theorem ay.un {t':Nat}(I:ay X pins σ H s)(u:Un X.fs [] H H' s.heap h')(hok:gK X.prog X.w H' h'):ay X pins σ H' {s with heap:=h',toks:=t'}:=by
 obtain⟨m,⟨o,es,ep,ho,r⟩,_⟩:=id I.loc;obtain⟨sl,hL⟩:=u.any ho I.free (by simp);exact I.step (g':=s.gens) (d':=s.drawn) (ch:=[]) (λ_ z=>nomatch z) (λb o _ hb _ e n=>u.keep b o e n hb (by simp)) (λb o _ hb _ e n=>u.slot b o e n hb (by simp)) (λb o _ e n=>u.free b o e n (by simp)) (λb o _ e=>u.there b o e (by simp)) u.tups u.frzs u.tbls (λm' hm=>by
  obtain⟨o',es',ep',Ec,r'⟩:=hm;rw[ho] at Ec;cases Ec;exact⟨_,es',ep',hL,r'⟩) hok I.bare
theorem ay.call {t':Nat}{d':Drawn}(I:ay X pins σ H s)(u:Un (oh X.stack) ch H H' s.heap h')(hok:gK X.prog X.w H' h')(hg:W9 g')(Ep:∀b∈ch,(b∈X.ex\/X.s₀.heap.objs.size<=b)/\b≠X.env.locals/\(∀x c,X.env.cells.lookup x=some c->c≠b)/\∀p∈X.pn++pins,p.1≠b) :
  ay X pins σ H' {s with heap:=h',gens:=g',drawn:=d',toks:=t'}:=by
 obtain⟨m,⟨o,es,ep,ho,r⟩,_⟩:=id I.loc;obtain⟨sl,hL⟩:=u.any ho I.free λz=>(Ep _ z).2.1 rfl;exact I.step (ch:=ch) Ep (λb o hL hb hc e n=>u.keep b o e n (λz=>(Ss.mp (I.stkSub b z)).elim hL hb) hc) (λb o _ _ hc e n=>u.any e n hc) (λb o hc e n=>u.free b o e n hc) (λb o hc e=>u.there b o e hc) u.tups u.frzs u.tbls (λm' hm=>by
  obtain⟨o',es',ep',Ec,r'⟩:=hm;rw[ho] at Ec;cases Ec;exact⟨_,es',ep',hL,r'⟩) hok hg
theorem ay.turned {t':Nat}{it:Sr}(I:ay X pins σ H s)(k:∀b o,b≠it->s.heap.get? b=some o->h'.get? b=some o)(hn:H it=none)(hL:it≠X.env.locals)(h1:it∈X.ex\/X.s₀.heap.objs.size<=it)(h2:∀x c,X.env.cells.lookup x=some c->c≠it)(h3:∀p∈X.pn++pins,p.1≠it):ay X pins σ H {s with heap:=h',toks:=t'}:=by
 have P2:∀b u,H b=some u->b≠it:=λb u e z=>by rw[z,hn] at e;cases e
 refine I.step (g':=s.gens) (d':=s.drawn) (ch:=[it]) (λb hb=>?_) (λb o _ _ hc e _=>k b o (λz=>hc (by simp[z])) e) (λb o _ _ hc e _=>⟨o.slots,k b o (λz=>hc (by simp[z])) e⟩) (λ_ _ _ _ n=>n)
  (λb o hc e=>⟨o,k b o (λz=>hc (by simp[z])) e⟩) (λ_ _ e=>e) (λ_ _ _ e=>e) (λb ps e=>⟨#[],by rw[e];simp⟩) (λm hm=>?_) (λb u e=>?_) I.bare
 ·have e:b=it:=by simpa using hb
  subst e;exact⟨h1,hL,h2,h3⟩
 ·obtain⟨o,es,ep,ho,r⟩:=hm;exact⟨o,es,ep,k _ o (Ne.symm hL) ho,r⟩
 ·refine (I.hok b u e).stay (λc v hc q=>k c v ?_ q) (λ_ q=>q) λ_ _ q=>q;rcases hc with z|z
  ·rw[z];exact P2 b u e
  ·exact P2 c _ z
theorem ay.tok (I:ay X pins σ H s)(t:Nat):ay X pins σ H {s with toks:=t}:=I.un (h':=s.heap) (t':=t) Un.refl I.hok
theorem ay.kept {t':Nat}(I:ay X pins σ H s)(k:∀b u,s.heap.get? b=some u->h'.get? b=some u):ay X pins σ H {s with heap:=h',toks:=t'}:=I.un (Un.kept k) (I.hok.kept k)
theorem ay.laid {t':Nat}(I:ay X pins σ H s)(k:∀b u,s.heap.get? b=some u->h'.get? b=some u)(hp:s.heap.objs.size<=a)(new:bz X.prog X.w (cu H a o) h' a o) :
  ay X pins σ (cu H a o) {s with heap:=h',toks:=t'}:=I.un (Un.laid k hp (I.hok.fresh hp)) (I.hok.laid k hp new)
theorem ay.write {t':Nat}{x e:Sr}(I:ay X pins σ H s)(mu:KO (H x))(he:e=x\/H e=some (.own x))(k:∀b u,b≠e->s.heap.get? b=some u->h'.get? b=some u)(KU:∃u,h'.get? e=some u)(new:bz X.prog X.w (cu H x o) h' x o):ay X pins σ (cu H x o) {s with heap:=h',toks:=t'}:=I.un (Un.write mu he k KU) (I.hok.write mu he k KU new)
theorem ay.pins_of {Ij:List (Sr×Obj)}(I:ay X pins σ H s)(h:∀p∈Ij,s.heap.get? p.1=some p.2/\H p.1=none/\p.1≠X.env.locals/\p.1∉X.fs/\∀v,p.2.data≠.cell v):ay X Ij σ H s:=
 ⟨I.ok,I.os,I.bare,I.base,I.loc,I.cell,I.free,I.freeC,λp hp=>(Tz.mp hp).elim (λz=>I.pin p (Vc _ z)) (h p),I.hok,I.len⟩
theorem um (hN:N.Nodup)(a:N[i]? = some x)(b:N[j]? = some x):i=j:=by
 obtain⟨h1,e1⟩:=R8.mp a;obtain⟨h2,e2⟩:=R8.mp b;exact (List.getElem_inj hN).mp (e1.trans e2.symm)
theorem zK {A:S2}{u:R6}{Q:Unit->Sk->Prop}(I:ay X pins σ H s)(hN:X.N.Nodup)(hi:X.N[i]? = some x)(hx:GI X.env.scope x)(r:aM v u)(h:∀s',ay X pins (σ.set i (some v)) H s'->(∃a,Ur a s.heap s'.heap/\(a=X.env.locals\/X.env.cells.lookup x=some a))->Q () s')(hf:X.fn x=true\/X.env.scope.names.lookup x=some .local:=by first|exact .inl rfl|exact .inr rfl|assumption):Sv M A (storeName X.env x u) Q E s:=by
 obtain⟨m,hn,hl⟩:=id I.loc;have OY:(X.env.scope.kind==.class||(X.env.scope.kind==.module&&X.env.locals != X.env.globals))=false:=by rw[I.ok.kind];rfl
 have P4:i<σ.length:=by rw[I.len];exact (R8.mp hi).1
 have cne:=I.cne;have zA:∀{a:Sr} {h':UU},(∃o,s.heap.get? a=some o/\H a=none)->Ur a s.heap h'->gK X.prog X.w H h':=λ{a h'} ha hs b ob e=>by
  obtain⟨_,_,hfree⟩:=ha;refine (I.hok b ob e).stay (λc w' hc q=>(hs.2 c ?_).trans q) (λ_ q=>q) λ_ _ q=>q;rintro rfl;rcases hc with rfl|hc
  ·rw[hfree] at e;cases e
  ·rw[hfree] at hc;cases hc
 rcases hx with hk|hk
 ·refine wpAny_storeName_local hk hn (λh' QG hs=>?_) OY;obtain⟨oL,_,_,KD,_⟩:=id hn;refine h _ ⟨I.ok,I.os,I.bare,⟨λb o e n hb hx=>?_,λb o e n hb hx=>?_,I.base.free,λb o e hx=>?_,I.base.tups,I.base.frzs,I.base.tbls⟩,⟨_,QG,λj y v' e1 e2 e3=>?_⟩,λy c e=>?_,I.free,I.freeC,λp hp=>?_,zA ⟨oL,KD,I.free⟩ hs,by simpa using I.len⟩ ⟨_,hs,.inl rfl⟩
  ·exact (hs.2 b (SJ (SK (Sl e) I.ok.above))).trans (I.base.keep b o e n hb hx)
  ·obtain⟨sl,e1⟩:=I.base.slot b o e n hb hx;exact⟨sl,(hs.2 b (SJ (SK (Sl e) I.ok.above))).trans e1⟩
  ·obtain⟨o',e1⟩:=I.base.there b o e hx;exact⟨o',(hs.2 b (SJ (SK (Sl e) I.ok.above))).trans e1⟩
  ·by_cases hj:j=i
   ·subst hj;rw[hi] at e1;cases e1;rw[UX P4] at e2;cases e2;exact⟨u,r,.inl ⟨hk,by simp⟩⟩
   ·rw[SD (Ne.symm hj)] at e2;obtain⟨u',r',q⟩:=hl j y v' e1 e2 e3;refine⟨u',r',?_⟩;rcases q with⟨k,e⟩|⟨k,c,e,z⟩
    ·refine .inl ⟨k,?_⟩;have:y≠x:=λe=>hj (um hN e1 (e▸hi));simp[this,e]
    ·exact .inr ⟨k,c,e,z.sameBut hs (cne y c e)⟩
  ·obtain⟨w',z⟩:=I.cell y c e;exact⟨w',z.sameBut hs (cne y c e)⟩
  ·obtain⟨e,n,ne,nf,d⟩:=I.pin p hp;exact⟨(hs.2 p.1 ne).trans e,n,ne,nf,d⟩
 ·have OZ:X.fn x=true:=by
   rcases hf with z|z
   ·exact z
   ·rw[z] at hk;cases hk
  obtain⟨c,hc⟩:=I.ok.has x (.inl hk);obtain⟨w',z⟩:=I.cell x c hc;refine wpAny_storeName_cell I.ok.kind hk hc z (λh' N1 hs=>?_);obtain⟨oc,hoc,hocd⟩:=id z;refine h {s with heap:=h'} ⟨I.ok,I.os,I.bare,⟨λb o e n hb hx=>?_,λb o e n hb hx=>?_,I.base.free,λb o e hx=>?_,I.base.tups,I.base.frzs,I.base.tbls⟩,⟨m,hn.sameBut hs (Ne.symm (cne x c hc)),λj y v' e1 e2 e3=>?_⟩,λy c' e=>?_,I.free,I.freeC,λp hp=>?_,zA ⟨oc,hoc,I.freeC x c hc⟩ hs,by simpa using I.len⟩ ⟨c,hs,.inr hc⟩
  ·exact (hs.2 b (SJ (SK (Sl e) (I.ok.cab x c OZ hc)))).trans (I.base.keep b o e n hb hx)
  ·obtain⟨sl,e1⟩:=I.base.slot b o e n hb hx;exact⟨sl,(hs.2 b (SJ (SK (Sl e) (I.ok.cab x c OZ hc)))).trans e1⟩
  ·obtain⟨o',e1⟩:=I.base.there b o e hx;exact⟨o',(hs.2 b (SJ (SK (Sl e) (I.ok.cab x c OZ hc)))).trans e1⟩
  ·by_cases hj:j=i
   ·subst hj;rw[hi] at e1;cases e1;rw[UX P4] at e2;cases e2;exact⟨u,r,.inr ⟨.inl hk,c,hc,N1⟩⟩
   ·rw[SD (Ne.symm hj)] at e2;obtain⟨u',r',q⟩:=hl j y v' e1 e2 e3;refine⟨u',r',?_⟩;rcases q with q|⟨k,c',e,z'⟩
    ·exact .inl q
    ·refine .inr ⟨k,c',e,z'.sameBut hs ?_⟩;rintro rfl;exact hj (um hN e1 (I.ok.inj _ _ _ e hc▸hi))
  ·by_cases hcc:c'=c
   ·subst hcc;exact⟨_,N1⟩
   ·obtain⟨w2,z2⟩:=I.cell y c' e;exact⟨w2,z2.sameBut hs hcc⟩
  ·obtain⟨e,n,ne,nf,d⟩:=I.pin p hp;refine⟨(hs.2 p.1 ?_).trans e,n,ne,nf,d⟩;intro q;rw[q,hoc] at e;have q':oc=p.2:=SH e;exact d w' (by rw[←q'];exact hocd)
theorem uo {A:S2}{u:R6}{Q:Unit->Sk->Prop}(I:ay X pins σ H s)(hN:X.N.Nodup)(hi:X.N[i]? = some x)(hx:GI X.env.scope x)(r:aM v u)(h:∀s',ay X pins (σ.set i (some v)) H s'->Q () s')(hf:X.fn x=true\/X.env.scope.names.lookup x=some .local:=by first|exact .inl rfl|exact .inr rfl|assumption):Sv M A (storeName X.env x u) Q E s:=
 zK I hN hi hx r (λs' I' _=>h s' I') hf
theorem ay.call' {s':Sk}(I:ay X pins σ H s)(ho:s'.os=s.os)(u:Un (oh X.stack) ch H H' s.heap s'.heap)(hok:gK X.prog X.w H' s'.heap)(hg:W9 s'.gens)(Ep:∀b∈ch,(b∈X.ex\/X.s₀.heap.objs.size<=b)/\b≠X.env.locals/\(∀x c,X.env.cells.lookup x=some c->c≠b)/\∀p∈X.pn++pins,p.1≠b):ay X pins σ H' s':=by
 obtain⟨h',g',d',t',o'⟩:=s';have e:o'=s.os:=ho;subst e;exact I.call (g':=g') (t':=t') (d':=d') u hok hg Ep
end
abbrev XK:=R6->Option Sr->Hp->Prop
noncomputable abbrev St:=List (Option V)
abbrev VK:=V->Hp->Prop
abbrev TE:=St->Hp->VK->Prop
abbrev TT:=St->Hp->(Bool->Hp->Prop)->Prop
abbrev TA:=St->Hp->(List V->Hp->Prop)->Prop
structure lR where
 nx:St->Hp->Prop
 rt:VK
 bk:St->Hp->Prop:=λ_ _=>False
 ct:St->Hp->Prop:=λ_ _=>False
abbrev TS:=lR->St->Hp->Prop
def EP (X:Cx)(pins:List (Sr×Obj))(σ:St)(Q:VK)(u:R6)(s':Sk):Prop:=∃v H',ay X pins σ H' s'/\aM v u/\Q v H'
def TP (X:Cx)(pins:List (Sr×Obj))(σ:St)(Q:Bool->Hp->Prop)(b:Bool)(s':Sk):Prop:=∃H',ay X pins σ H' s'/\Q b H'
def AP (X:Cx)(pins:List (Sr×Obj))(σ:St)(Q:List V->Hp->Prop)(us:List R6)(s':Sk):Prop:=∃vs H',ay X pins σ H' s'/\aO vs us/\Q vs H'
def SP (X:Cx)(pins:List (Sr×Obj))(D:lR)(f:Flow)(s':Sk):Prop:=
 match f with
 | .next=>∃σ' H',ay X pins σ' H' s'/\D.nx σ' H'
 | .brk=>∃σ' H',ay X pins σ' H' s'/\D.bk σ' H'
 | .cont=>∃σ' H',ay X pins σ' H' s'/\D.ct σ' H'
 | .ret u=>∃v σ' H',ay X pins σ' H' s'/\aM v u/\D.rt v H'
def PE (X:Cx)(e:T6)(t:TE):Prop:=
 ∀(pins:List (Sr×Obj)) (s:Sk) (σ:St) (H:Hp) (Q:VK),ay X pins σ H s->t σ H Q->Sv (SN X.prog X.w) X.A (VP e X.env) (EP X pins σ Q) X.xe s
def PT (X:Cx)(e:T6)(t:TT):Prop:=
 ∀(pins:List (Sr×Obj)) (s:Sk) (σ:St) (H:Hp) (Q:Bool->Hp->Prop),ay X pins σ H s->t σ H Q->Sv (SN X.prog X.w) X.A (isTrue e X.env (VP e X.env)) (TP X pins σ Q) X.xe s
def PW (X:Cx)(e:T6)(t:TT):Prop:=
 ∀(lO:Sem R6) (pins:List (Sr×Obj)) (s:Sk) (σ:St) (H:Hp) (Q:Bool->Hp->Prop),ay X pins σ H s->t σ H Q->Sv (SN X.prog X.w) X.A (isTrue e X.env lO) (TP X pins σ Q) X.xe s
theorem PW.pt {X:Cx}{e:T6}{t:TT}(h:PW X e t):PT X e t:=h _
def PA (X:Cx)(es:List T6)(t:TA):Prop:=
 ∀(pos:Pos) (pins:List (Sr×Obj)) (s:Sk) (σ:St) (H:Hp) (Q:List V->Hp->Prop),ay X pins σ H s->t σ H Q->Sv (SN X.prog X.w) X.A (spliced (Ux pos (Sq es X.env))) (AP X pins σ Q) X.xe s
def PS (X:Cx)(st:Wv)(t:TS):Prop:=
 ∀(pins:List (Sr×Obj)) (s:Sk) (σ:St) (H:Hp) (D:lR),ay X pins σ H s->t D σ H->Sv (SN X.prog X.w) X.A (exec st X.env) (SP X pins D) X.xe s
def qy (X:Cx)(st:List Wv)(t:TS):Prop:=
 ∀(pins:List (Sr×Obj)) (s:Sk) (σ:St) (H:Hp) (D:lR),ay X pins σ H s->t D σ H->Sv (SN X.prog X.w) X.A (execs st X.env) (SP X pins D) X.xe s
theorem cM {α:Type}{t:Sem α}{Q Q':α->Sk->Prop}{A:S2}(h:Sv M A t Q E s)(hQ:∀a s,Q a s->Q' a s):Sv M A t Q' E s:=S8 h hQ λ_ _ x=>x
end L2
variable {X:L2.Cx}{σ:L2.St}{te:L2.TE}{tb:L2.TS}
namespace L2
section
def Ew (i:Nat):TE:=λσ H Q=>∃v,σ[i]? = some (some v)/\Q v H
def tC (v:V):TE:=λ_ H Q=>Q v H
theorem gz (hN:X.N[i]? = some x)(hv:AR X.env.scope x)(hd:(x==("__debug__":Str))=false:=by decide)(kr:(x==("__classdict__":Str))=false:=by decide):PE X (.Name x pos) (Ew i):=by
 intro pins s σ H Q I h;obtain⟨v,e,h⟩:=h;obtain⟨m,hn,hl⟩:=I.loc;obtain⟨u,r,l⟩:=hl i x v hN e hv;have fin:EP X pins σ Q u s:=⟨v,H,I,r,h⟩;rcases l with⟨hk,hm⟩|⟨hk,c,hc,r9⟩
 ·exact wpAny_Name (wpAny_loadName_local I.ok.kind hk hn hm fin) hd
 ·rcases hk with hk|hk
  ·exact wpAny_Name (wpAny_loadName_cell I.ok.kind hk hc r9 fin) hd
  ·exact wpAny_Name (wpAny_loadName_free I.ok.kind hk hc r9 fin kr) hd
theorem IA {i j pos}:PE X (.Constant (.int i) j pos) (tC (.int i)):=λ_ _ _ H _ I h=>wpAny_Constant_int ⟨.int i,H,I.tok _,⟨_,rfl⟩,h⟩
theorem K2 {b j pos}:PE X (.Constant (.bool b) j pos) (tC (.bl b)):=λ_ _ _ H _ I h=>Constant_bool ⟨.bl b,H,I,rfl,h⟩
theorem wy {j pos}:PE X (.Constant .none j pos) (tC .non):=λ_ _ _ H _ I h=>Constant_none ⟨.non,H,I,rfl,h⟩
def Gl (X:Cx)(x:Str):Prop:=X.env.kindOf x=some .globalImplicit
theorem kC {u:R6}(I:ay X pins σ H s)(hg:Gl X x)(hm:X.mg x=some u)(h:Q u s)(hd:(x==("__debug__":Str))=false:=by decide):Sv (SN X.prog X.w) X.A (VP (.Name x pos) X.env) Q E s:=
 WO I.ok.kind hg (Calls.loadGlobal_global (by rw[I.ok.glob];exact I.mod.glob.keeps I.bk) hm h) hd
theorem sr {u:R6}(I:ay X pins σ H s)(hg:Gl X x)(hm:X.mg x=none)(hv:S0 x=some u)(h:Q u s)(hn:x≠"__name__":=by decide)(hd:(x==("__debug__":Str))=false:=by decide):Sv (SN X.prog X.w) X.A (VP (.Name x pos) X.env) Q E s:=by
 obtain⟨mb,h1,h2⟩:=I.mod.blt;exact WO I.ok.kind hg (Calls.loadGlobal_builtin (by rw[I.ok.glob];exact I.mod.glob.keeps I.bk) hm (by rw[I.ok.blt];exact h1.keeps I.bk) ((h2 x hn).trans hv) h) hd
theorem xY {u:R6}(hg:Gl X x)(hm:X.mg x=some u)(r:aM v u)(hd:(x==("__debug__":Str))=false:=by decide):PE X (.Name x pos) (tC v):=
 λ_ _ _ H _ I h=>kC I hg hm ⟨v,H,I,r,h⟩ hd
theorem Ex {u:R6}(hg:Gl X x)(hm:X.mg x=none)(hv:S0 x=some u)(r:aM v u)(hn:x≠"__name__":=by decide)(hd:(x==("__debug__":Str))=false:=by decide):PE X (.Name x pos) (tC v):=
 λ_ _ _ H _ I h=>sr I hg hm hv ⟨v,H,I,r,h⟩ hn hd
variable {a b:T6}{ta tb:TE}
def tB (t:TE):TT:=λσ H Q=>t σ H λx H1=>∃c,x=.bl c/\Q c H1
theorem IB {e:T6}{t:TE}(h:PE X e t)(he:∀lO,isTrue e X.env lO=(do let v ←lO;standAt e.pos;holding [v] (truthy v)):=by intro _;rfl):PT X e (tB t):=by
 intro pins s σ H Q I hw;refine isTrue_plain (cM (h pins s σ H _ I hw) λv s1 ⟨x,H1,I1,r1,q1⟩=>?_) (he _);obtain⟨d,rfl,q⟩:=q1;cases r1;exact T7 ⟨H1,I1,q⟩
variable {tA tB':TT}{rest:List T6}
def K3 (t u:TT):TT:=λσ H Q=>t σ H λc H1=>if c=true then u σ H1 Q else Q false H1
def Pp (t u:TT):TT:=λσ H Q=>t σ H λc H1=>if c=true then Q true H1 else u σ H1 Q
def N_ (t:TT):TT:=λσ H Q=>t σ H λc H1=>Q (!c) H1
theorem Ey (ha:PT X a tA):PW X (.BoolOp .And [a] pos) tA:=by
 intro wh pins s σ H Q I h;refine isTrue_and (cM (ha pins s σ H Q I h) λc s1 e=>?_);cases c with
 |true=>exact isTrue_and_nil e
 |false=>exact e
theorem IC (ha:PT X a tA):PW X (.BoolOp .Or [a] pos) tA:=by
 intro wh pins s σ H Q I h;refine isTrue_or (cM (ha pins s σ H Q I h) λc s1 e=>?_);cases c with
 |false=>exact isTrue_or_nil e
 |true=>exact e
theorem ID (ha:PT X a tA)(hb:PW X (.BoolOp .And (b::rest) pos) tB'):PW X (.BoolOp .And (a::b::rest) pos) (K3 tA tB'):=by
 intro wh pins s σ H Q I h;refine isTrue_and (cM (ha pins s σ H _ I h) λc s1 ⟨H1,I1,q1⟩=>?_);cases c with
 |true=>exact hb wh pins s1 σ H1 Q I1 q1
 |false=>exact⟨H1,I1,q1⟩
theorem K4 (ha:PT X a tA)(hb:PW X (.BoolOp .Or (b::rest) pos) tB'):PW X (.BoolOp .Or (a::b::rest) pos) (Pp tA tB'):=by
 intro wh pins s σ H Q I h;refine isTrue_or (cM (ha pins s σ H _ I h) λc s1 ⟨H1,I1,q1⟩=>?_);cases c with
 |true=>exact⟨H1,I1,q1⟩
 |false=>exact hb wh pins s1 σ H1 Q I1 q1
theorem IE (ha:PT X a tA):PT X (.UnaryOp .Not a pos) (N_ tA):=by
 intro pins s σ H Q I h;exact isTrue_not (ha pins s σ H (λc H1=>Q (!c) H1) I h)
def K5 (ta tb:TE):TE:=λσ H Q=>ta σ H λx H1=>∃c,x=.bl c/\if c=true then tb σ H1 Q else Q (.bl false) H1
def Oa (ta tb:TE):TE:=λσ H Q=>ta σ H λx H1=>∃c,x=.bl c/\if c=true then Q (.bl true) H1 else tb σ H1 Q
def K6 (ta:TE):TE:=λσ H Q=>ta σ H λx H1=>∃c,x=.bl c/\Q (.bl (!c)) H1
theorem IF {op}{t:TE}(h:PE X a t):PE X (.BoolOp op [a] pos) t:=λpins s σ H Q I hw=>BoolOp_one (h pins s σ H Q I hw)
theorem IG (ha:PE X a ta)(hb:PE X (.BoolOp .And (b::rest) pos) tb):PE X (.BoolOp .And (a::b::rest) pos) (K5 ta tb):=by
 intro pins s σ H Q I h;refine BoolOp_and (cM (ha pins s σ H _ I h) λv s1 ⟨x,H1,I1,r1,q1⟩=>?_);obtain⟨c,rfl,q1⟩:=q1;cases r1;refine T7 ?_;cases c with
 |true=>exact hb pins s1 σ H1 Q I1 q1
 |false=>exact⟨.bl false,H1,I1,rfl,q1⟩
theorem K7 (ha:PE X a ta)(hb:PE X (.BoolOp .Or (b::rest) pos) tb):PE X (.BoolOp .Or (a::b::rest) pos) (Oa ta tb):=by
 intro pins s σ H Q I h;refine BoolOp_or (cM (ha pins s σ H _ I h) λv s1 ⟨x,H1,I1,r1,q1⟩=>?_);obtain⟨c,rfl,q1⟩:=q1;cases r1;refine T7 ?_;cases c with
 |false=>exact hb pins s1 σ H1 Q I1 q1
 |true=>exact⟨.bl true,H1,I1,rfl,q1⟩
theorem IH (ha:PE X a ta):PE X (.UnaryOp .Not a pos) (K6 ta):=by
 intro pins s σ H Q I h;refine UnaryOp_ (cM (ha pins s σ H _ I h) λv s1 ⟨x,H1,I1,r1,q1⟩=>?_);obtain⟨c,rfl,q1⟩:=q1;cases r1;exact not_of (T7 ⟨.bl (!c),H1,I1,rfl,q1⟩)
end
end L2
namespace L2
def eN (K:R1)(H:Hp)(a:Sr)(xs:List V):Prop:=
 Rd H a (.lst xs) \/
  ∃(o:Obj) (ax:Array R6) (n:Nat),K.lookup a=some o/\o.cls=.type "list"/\o.dict=none/\o.data=.seq ax n/\ax.size<=R3/\aO xs ax.toList
def fF (K:R1)(H:Hp)(a:Sr)(xs:List V):Prop:=
 Rd H a (.tup xs) \/
  ∃(o:Obj) (ax:Array R6) (n:Nat),K.lookup a=some o/\o.cls=.type "tuple"/\o.data=.seq ax n/\ax.size<=R3/\aO xs ax.toList
noncomputable def Ob:R6->Option V
 | .none=>some .non
 | .bool b=>some (.bl b)
 | .int i _=>some (.int i)
 | .str x _=>some (.str x)
 | .bytes b _=>some (.byt b)
 | .float b _=>some (.flt b)
 | .ref a=>some (.ref a)
 | .type n=>some (.ty n)
 |_=>none
theorem aM.abs {x:V}{u:R6}(r:aM x u):Ob u=some x:=by
 cases x with
 |non=>cases r;rfl
 |bl _=>cases r;rfl
 |int _=>obtain⟨t,rfl⟩:=r;rfl
 |str _=>obtain⟨t,rfl⟩:=r;rfl
 |byt _=>obtain⟨t,rfl⟩:=r;rfl
 |flt _=>obtain⟨t,rfl⟩:=r;rfl
 |ref _=>cases r;rfl
 |ty _=>cases r;rfl
theorem aM.inj {x:V}{u:R6}(r:aM x u)(q:aM y u):x=y:=SH (r.abs.symm.trans q.abs)
theorem aO.inj:∀{xs ys:List V} {us:List R6},aO xs us->aO ys us->xs=ys
 |_,_,_,.nil,.nil=>rfl
 |_,_,_,.cons r t,.cons r' t'=>by rw[r.inj r',aO.inj t t']
section
variable {ys:List V}
theorem eN.of (h:H a=some (.lst xs)):eN K H a xs:=.inl (.inl h)
theorem fF.of (h:H a=some (.tup xs)):fF K H a xs:=.inl (.inl h)
theorem ay.list (I:ay X pins σ H s)(h:eN X.K H a xs):∃ax:List R6,aO xs ax/\PlainL s.heap a ax.toArray/\xs.length<=R3:=by
 rcases h with h|⟨o,ax,n,hk,hc,hd,hs,hz,r⟩
 ·obtain⟨z,ax,n,r,e⟩:=h.ok I.hok;exact⟨ax,r,⟨_,n,e,rfl,rfl,rfl⟩,z⟩
 ·refine⟨ax.toList,r,⟨o,n,I.kIn a o hk,hc,hd,by simpa using hs⟩,?_⟩;have e:=r.length;simp only[SM] at e;lia
theorem ay.tuple (I:ay X pins σ H s)(h:fF X.K H a xs):∃ax:List R6,aO xs ax/\IsTup s.heap a ax.toArray/\xs.length<=R3:=by
 rcases h with h|⟨o,ax,n,hk,hc,hs,hz,r⟩
 ·obtain⟨z,ax,r,p,_⟩:=h.ok I.hok;exact⟨ax,r,p,z⟩
 ·refine⟨ax.toList,r,⟨o,I.kIn a o hk,hc,n,by simpa using hs⟩,?_⟩;have e:=r.length;simp only[SM] at e;lia
theorem ay.list_inj (I:ay X pins σ H s)(h:eN X.K H a xs)(h':eN X.K H a ys):xs=ys:=by
 obtain⟨ax,r,⟨o,n,e,_,_,d⟩,_⟩:=I.list h;obtain⟨its',r',⟨o',n',e',_,_,d'⟩,_⟩:=I.list h';rw[e] at e';cases e';rw[d] at d';injection d' with d1 _
 have:ax=its':=by simpa using congrArg Array.toList d1
 subst this;exact r.inj r'
theorem ay.tuple_inj (I:ay X pins σ H s)(h:fF X.K H a xs)(h':fF X.K H a ys):xs=ys:=by
 obtain⟨ax,r,⟨o,e,_,n,d⟩,_⟩:=I.tuple h;obtain⟨its',r',⟨o',e',_,n',d'⟩,_⟩:=I.tuple h';rw[e] at e';cases e';rw[d] at d';injection d' with d1 _
 have:ax=its':=by simpa using congrArg Array.toList d1
 subst this;exact r.inj r'
end
noncomputable abbrev Cx.wish (X:Cx)(E:R6->Sk->Prop):Cx:={X with xe:=E}
noncomputable abbrev Cx.nox (X:Cx):Cx:=X.wish λ_ _=>False
theorem Cx.Ok.wish (ok:X.Ok)(E:R6->Sk->Prop):(X.wish E).Ok:=
 ⟨ok.mod,ok.kind,ok.glob,ok.blt,ok.above,ok.inj,ok.has,ok.cab,ok.hd,ok.frames,ok.stk,ok.exf,ok.bs,ok.bsz,ok.noex,ok.exfs,ok.funs,ok.frf⟩
theorem Cx.Ok.unwish (ok:(X.wish E).Ok):X.Ok:=
 ⟨ok.mod,ok.kind,ok.glob,ok.blt,ok.above,ok.inj,ok.has,ok.cab,ok.hd,ok.frames,ok.stk,ok.exf,ok.bs,ok.bsz,ok.noex,ok.exfs,ok.funs,ok.frf⟩
theorem ay.wish (I:ay X pins σ H s)(E:R6->Sk->Prop):ay (X.wish E) pins σ H s:=⟨I.ok.wish E,I.os,I.bare,I.base,I.loc,I.cell,I.free,I.freeC,I.pin,I.hok,I.len⟩
theorem ay.unwish (I:ay (X.wish E) pins σ H s):ay X pins σ H s:=⟨I.ok.unwish,I.os,I.bare,I.base,I.loc,I.cell,I.free,I.freeC,I.pin,I.hok,I.len⟩
theorem SP.unwish {D:lR}{f:Flow}{s':Sk}(h:SP (X.wish E) pins D f s'):SP X pins D f s':=by
 cases f with
 |next=>obtain⟨σ',H',I,q⟩:=h;exact⟨σ',H',I.unwish,q⟩
 |brk=>obtain⟨σ',H',I,q⟩:=h;exact⟨σ',H',I.unwish,q⟩
 |cont=>obtain⟨σ',H',I,q⟩:=h;exact⟨σ',H',I.unwish,q⟩
 |ret u=>obtain⟨v,σ',H',I,r,q⟩:=h;exact⟨v,σ',H',I.unwish,r,q⟩
theorem qy.nox {st:List Wv}{t:TS}(h:qy X.nox st t):qy X st t:=λpins s σ H D I hw=>
 S8 (h pins s σ H D (I.wish _) hw) (λ_ _ q=>q.unwish) λ_ _ z=>Ui z
section
variable {rest:List Wv}{t u:TS}{e:T6}
def K8:TS:=λD σ H=>D.nx σ H
def Oc (t u:TS):TS:=λD σ H=>t {D with nx:=u D} σ H
theorem Ez:qy X [] K8:=λ_ _ σ H _ I h=>VA ⟨σ,H,I,h⟩
theorem kD (h1:PS X st t)(h2:qy X rest u):qy X (st::rest) (Oc t u):=by
 intro pins s σ H D I h;refine wpAny_execs_cons (cM (h1 pins s σ H {D with nx:=u D} I h) λf s1 q=>?_);cases f with
 |next=>
  obtain⟨σ',H',I',q⟩:=q;exact h2 pins s1 σ' H' D I' q
 |ret v=>exact q
 |brk=>exact q
 |cont=>exact q
theorem su (h1:PS X st t):qy X [st] t:=by
 intro pins s σ H D I h;refine wpAny_execs_cons (cM (h1 pins s σ H D I h) λf s1 q=>?_);cases f with
 |next=>exact VA q
 |ret v=>exact q
 |brk=>exact q
 |cont=>exact q
theorem ay.quiet (I:ay X pins σ H s):interactive X.env=false:=by simp[interactive,I.ok.kind]
def K9 (te:TE):TS:=λD σ H=>te σ H λ_ H1=>D.nx σ H1
theorem EA (he:PE X e te)(hs:Wc e none pos.line X.env=pure false:=by rfl):PS X (.Expr e pos) (K9 te):=by
 intro pins s σ H D I h;exact wpAny_Expr_any (cM (he pins s σ H _ I h) λv s1 ⟨x,H1,I1,r1,q1⟩=>⟨σ,H1,I1,q1⟩) I.quiet hs
def Od (te:TE):TS:=λD σ H=>te σ H D.rt
theorem sv (he:PE X e te):PS X (.Return (some e) pos) (Od te):=by
 intro pins s σ H D I h;exact wpAny_Return_some (cM (he pins s σ H _ I h) λv s1 ⟨x,H1,I1,r1,q1⟩=>⟨x,σ,H1,I1,r1,q1⟩)
def Oe (c:TT)(t u:TS):TS:=λD σ H=>c σ H λb H1=>if b=true then t D σ H1 else u D σ H1
theorem K_ {c:T6}{a b:List Wv}{tc:TT}(hc:PT X c tc)(ha:qy X a t)(hb:qy X b u):PS X (.If c a b pos) (Oe tc t u):=by
 intro pins s σ H D I h;refine wpAny_If (cM (hc pins s σ H _ I h) λd s1 ⟨H1,I1,q1⟩=>?_);cases d with
 |true=>exact ha pins s1 σ H1 D I1 q1
 |false=>exact hb pins s1 σ H1 D I1 q1
end
abbrev TG:=V->St->Hp->(St->Hp->Prop)->Prop
abbrev A7:=List V->St->Hp->(St->Hp->Prop)->Prop
def PG (X:Cx)(mD:T6)(t:TG):Prop:=
 ∀(pins:List (Sr×Obj)) (s:Sk) (σ:St) (H:Hp) (v:V) (u:R6) (Q:St->Hp->Prop),ay X pins σ H s->aM v u->t v σ H Q->
  Sv (SN X.prog X.w) X.A (assign mD X.env u) (λ_ s'=>∃σ' H',ay X pins σ' H' s'/\Q σ' H') X.xe s
def EB (X:Cx)(ts:List T6)(t:A7):Prop:=
 ∀(pins:List (Sr×Obj)) (s:Sk) (σ:St) (H:Hp) (vs:List V) (us:List R6) (Q:St->Hp->Prop),ay X pins σ H s->aO vs us->t vs σ H Q->
  Sv (SN X.prog X.w) X.A (assignInOrder ((T4 ts X.env).map (·.2)) us) (λ_ s'=>∃σ' H',ay X pins σ' H' s'/\Q σ' H') X.xe s
abbrev II:=V->V->V->Hp->(Hp->Prop)->Prop
def La (X:Cx)(t:II):Prop:=
 ∀(pins:List (Sr×Obj)) (s:Sk) (σ:St) (H:Hp) (o i v:V) (ov iv u:R6) (Q:Hp->Prop),ay X pins σ H s->aM o ov->aM i iv->aM v u->t o i v H Q->
  Sv (SN X.prog X.w) X.A (setItem ov iv u) (λ_ s'=>∃H',ay X pins σ H' s'/\Q H') X.xe s
def xZ (i:Nat):TG:=λv σ H Q=>Q (σ.set i (some v)) H
theorem EC (hN:X.N.Nodup)(hi:X.N[i]? = some x)(hx:GI X.env.scope x)(hf:X.fn x=true\/X.env.scope.names.lookup x=some .local:=by first|exact .inl rfl|exact .inr rfl|assumption):PG X (.Name x pos) (xZ i):=by
 intro pins s σ H v u Q I r h;exact wpAny_assign_Name (uo I hN hi hx r (λs' I'=>⟨_,H,I',h⟩) hf)
def Of:A7:=λvs σ H Q=>vs=[]/\Q σ H
def Lb (t:TG)(u:A7):A7:=λvs σ H Q=>∃v r,vs=v::r/\t v σ H λσ' H'=>u r σ' H' Q
theorem ED:EB X [] Of:=by
 intro pins s σ H vs us Q I r h;obtain⟨e,h⟩:=h;subst e;cases r;exact assignInOrder_nil ⟨σ,H,I,h⟩
theorem A8 {e:T6}{es:List T6}{t:TG}{u:A7}(h1:PG X e t)(h2:EB X es u)
  (hs:(T4 (e::es) X.env).map (·.2)=assign e X.env::(T4 es X.env).map (·.2):=by rfl):EB X (e::es) (Lb t u):=by
 intro pins s σ H vs us Q I r h;obtain⟨v,vr,e1,h⟩:=h;subst e1;cases r with
 |cons r rr=>
  rw[hs];refine assignInOrder_cons (cM (h1 pins s σ H _ _ _ I r h) λ_ s1 ⟨σ1,H1,I1,q1⟩=>?_);exact h2 pins s1 σ1 H1 _ _ Q I1 rr q1
def Og (K:R1)(n:Nat)(t:A7):TG:=λv σ H Q=>∃a xs,v=.ref a/\fF K H a xs/\xs.length=n/\t xs σ H Q
theorem IJ {es:List T6}{t:A7}(hc:X.calm=true)(h:EB X es t)(hn:(T4 es X.env).length=n:=by rfl)(zB:(T4 es X.env).findIdx? (·.1)=none:=by rfl):PG X (.Tuple es k pos) (Og X.K n t):=by
 intro pins s σ H v u Q I r hw;obtain⟨a,xs,e1,hq,hl,hw⟩:=hw;subst e1;cases r;obtain⟨ax,rv,ht,hz⟩:=I.tuple hq;refine assign_Tuple_tuple (I.ok.hd hc) ht (by simp[hn,←hl,rv.length]) zB λh' hx=>?_;have I1:ay X pins σ H {s with heap:=h'}:=I.kept (t':=s.toks) λb o e=>hx b o (SJ (Sl e)) e;exact h pins _ σ H xs _ Q I1 (by simpa using rv) hw
def Oh (to ti:TE)(t:II):TG:=λv σ H Q=>to σ H λo H1=>ti σ H1 λi H2=>t o i v H2 λH3=>Q σ H3
theorem IK {o i:T6}{to ti:TE}{t:II}(ho:PE X o to)(hi:PE X i ti)(hs:La X t)
  (ha:∀v,assign (.Subscript o i pos) X.env v=(do
   let ov ←holding [v] (VP o X.env)
   let iv ←holding [v,ov] (VP i X.env)
   standAt pos
   holding [v,ov,iv] (setItem ov iv v)
   release [v,ov,iv] []):=by intro _;rfl):PG X (.Subscript o i pos) (Oh to ti t):=by
 intro pins s σ H v u Q I r h;rw[ha];refine RW (S7 (cM (ho pins s σ H _ I h) λov s1 ⟨x,H1,I1,r1,q1⟩=>?_));refine RW (S7 (cM (hi pins s1 σ H1 _ I1 q1) λiv s2 ⟨y,H2,I2,r2,q2⟩=>?_));refine RW (wpAny_standAt (RW (S7 (cM (hs pins s2 σ H2 x y v ov iv u _ I2 r1 r2 r q2) λ_ s3 ⟨H3,I3,q3⟩=>?_))));exact wpAny_release ⟨σ,H3,I3,q3⟩
def EE (te:TE)(g:TG):TS:=λD σ H=>te σ H λx H1=>g x σ H1 D.nx
theorem A9 {e:T6}{g:TG}(he:PE X e te)(hg:PG X tg g)(hs:swapsWithSole [tg] e pos.line X.env=pure false:=by rfl)(hw:swappedStores [tg] e X.env=pure none:=by rfl)(h1:(T4 [tg] X.env).map (·.2)=[assign tg X.env]:=by rfl):PS X (.Assign [tg] e pos) (EE te g):=by
 intro pins s σ H D I h;refine wpAny_Assign_stores (cM (he pins s σ H _ I h) λv s1 ⟨x,H1,I1,r1,q1⟩=>?_) hs hw;rw[h1];exact cM (hg pins s1 σ H1 x v _ I1 r1 q1) λ_ s2 q=>q
theorem oj {e:T6}{uc:Pos}(hN:X.N.Nodup)(hi:X.N[i]? = some x)(hx:GI X.env.scope x)(he:PE X e te)(hs:Wc e (some (.Name x uc)) pos.line X.env=pure false:=by rfl)(hf:X.fn x=true\/X.env.scope.names.lookup x=some .local:=by first|exact .inl rfl|exact .inr rfl|assumption) :
  PS X (.Assign [.Name x uc] e pos) (EE te (xZ i)):=by
 intro pins s σ H D I h;refine wpAny_Assign_Name (cM (he pins s σ H _ I h) λv s1 ⟨y,H1,I1,r1,q1⟩=>?_) hs;exact uo I1 hN hi hx r1 (λs2 I2=>⟨_,H1,I2,q1⟩) hf
def IL (c:TT)(tb:TS):TS:=λD σ H=>∃W:Nat->St->Hp->Prop,(∃m,W m σ H)/\∀m σ H,W m σ H->
 c σ H λb H1=>if b=true then ∃N:St->Hp->Prop,(∀σ' H',N σ' H'->∃m',m'<m/\W m' σ' H')/\tb {D with nx:=N,ct:=N,bk:=D.nx} σ H1 else D.nx σ H1
theorem A_ {c:T6}{tc:TT}(hp:Xw (SN X.prog X.w) X.A X.env X.xe)(hc:PT X c tc)(hb:qy X body tb):PS X (.While c body [] pos) (IL tc tb):=by
 intro pins s σ H D I h;obtain⟨W,⟨m0,w0⟩,turn⟩:=h;refine wpAny_While (codeAny_whileLoop (λn s'=>∃σ' H',ay X pins σ' H' s'/\W n σ' H') ?_ m0 ⟨σ,H,I,w0⟩);rintro n s1 ⟨σ1,H1,I1,w1⟩;refine UC hp (cM (hc pins s1 σ1 H1 _ I1 (turn n σ1 H1 w1)) λb s2 ⟨H2,I2,q2⟩=>?_);cases b with
 |true=>
  obtain⟨N,hN,q2⟩:=q2;rw[h9 rfl];refine UC hp (cM (hb pins s2 σ1 H2 _ I2 q2) λf s3 q3=>?_);cases f with
  |next=>
   obtain⟨σ3,H3,I3,n3⟩:=q3;obtain⟨m',hm,w3⟩:=hN σ3 H3 n3;exact⟨m',hm,σ3,H3,I3,w3⟩
  |cont=>
   obtain⟨σ3,H3,I3,n3⟩:=q3;obtain⟨m',hm,w3⟩:=hN σ3 H3 n3;exact⟨m',hm,σ3,H3,I3,w3⟩
  |brk=>exact q3
  |ret v=>exact q3
 |false=>
  rw[hZ R0];exact VA ⟨σ1,H2,I2,q2⟩
structure It where
 go:Nat->Hp->Prop
 yld:Nat->Hp->V->Hp->Prop
 stop:Nat->Hp->Prop
def om (X:Cx)(pins:List (Sr×Obj))(H:Hp)(b:Sr):Prop:=
 H b=none/\b≠X.env.locals/\b∉X.fs/\(b∈X.ex\/X.s₀.heap.objs.size<=b)/\(∀x c,X.env.cells.lookup x=some c->c≠b)/\∀p∈X.pn++pins,p.1≠b
theorem ay.fpOk (I:ay X pins σ H s)(hb:s.heap.objs.size<=b)(hn:H' b=none):om X pins H' b:=by
 refine⟨hn,WX (SK I.lt hb),I.nofs hb,.inr (Sz I.sz hb),λx c e z=>?_,λp hp z=>?_⟩
 ·obtain⟨v,q⟩:=I.cell x c e;exact absurd (SK q.lt (by rw[z];exact hb)) (TZ _)
 ·exact absurd (SK (Sl (I.pin p hp).1) (by rw[z];exact hb)) (TZ _)
structure wz (P:UN)(w:Tq)(K:R1)(tg:T6)(J:It)(fp:List Sr)(it:Sr)(tn:Nat->UU->Prop):Prop where
 mem:it∈fp
 obj:∀i h,tn i h->∀b∈fp,∃o,h.get? b=some o/\∀v,o.data≠.cell v
 keep:∀i h h',tn i h->(∀b∈fp,∀o,h.get? b=some o->h'.get? b=some o)->tn i h'
 item:∀(X:Cx),X.prog=P->X.w=w->X.K=K->X.calm=true->∀(i:Nat) (pins:List (Sr×Obj)) (s:Sk) (σ:St) (H:Hp) (E:R6->Sk->Prop),ay X pins σ H s->(∀b∈fp,om X pins H b)->tn i s.heap->J.go i H->
  Sv (SN P w) X.A (WA (.ref it)) (λr s1=>∃u,r=some u/\
   Sv (SN P w) X.A (WB tg (.ref it) u) (λ_ s2=>∃x H',ay X pins σ H' s2/\aM x u/\J.yld i H x H'/\tn (i+1) s2.heap/\∀b∈fp,H' b=none) E s1) E s
 done:∀(X:Cx),X.prog=P->X.w=w->X.K=K->X.calm=true->∀(i:Nat) (pins:List (Sr×Obj)) (s:Sk) (σ:St) (H:Hp) (E:R6->Sk->Prop),ay X pins σ H s->(∀b∈fp,om X pins H b)->tn i s.heap->J.stop i H->
  Sv (SN P w) X.A (WA (.ref it)) (λr s1=>r=none/\ay X pins σ H s1) E s
 self:∀(A:S2) (i:Nat) (s:Sk) (Q:R6->Sk->Prop) (E:R6->Sk->Prop),tn i s.heap->Q (.ref it) s->Sv (SN P w) A (pyIter (.ref it)) Q E s
abbrev TI:=St->Hp->(It->Hp->Prop)->Prop
def Pq (X:Cx)(pins:List (Sr×Obj))(σ:St)(tg:T6)(R:It->Hp->Prop)(O0:R6)(s2:Sk):Prop:=
 ∃(it:Sr) (fp:List Sr) (tn:Nat->UU->Prop) (J:It) (H':Hp),O0=.ref it/\ay X pins σ H' s2/\wz X.prog X.w X.K tg J fp it tn/\tn 0 s2.heap/\(∀b∈fp,om X pins H' b)/\R J H'
def PI (X:Cx)(tg iter:T6)(wi:TI):Prop:=
 ∀(pins:List (Sr×Obj)) (s:Sk) (σ:St) (H:Hp) (R:It->Hp->Prop),ay X pins σ H s->wi σ H R->
  Sv (SN X.prog X.w) X.A (VP iter X.env) (λv s1=>Sv (SN X.prog X.w) X.A (pyIter v) (Pq X pins σ tg R) X.xe s1) X.xe s
theorem x_ {A:S2}{it:Sr}{u:R6}{o:Obj}{n:String}{vs:Array R6}{Q:Unit->Sk->Prop}(ho:s.heap.get? it=some o)(hc:o.cls=.type n)(hd:o.data=.fields vs)(hn:["enumerate","zip","dict_itemiterator","dict_reverseitemiterator","odict_iterator","itertools.zip_longest","itertools.pairwise"].contains n=false)(hQ:Q () s):Sv M A (WB tg (.ref it) u) Q E s:=by
  unfold WB;cases tg<;>first
    |exact RZ hQ
    | (cases u<;>first
        |exact RZ hQ
        | (refine RW (wpAny_load ho ?_)
           rw[hc,hd];show Sv M A (if (["enumerate","zip","dict_itemiterator","dict_reverseitemiterator","odict_iterator","itertools.zip_longest","itertools.pairwise"].contains n&&vs[0]? == some (WY _))=true then _ else _) Q E s;rw[hZ (by intro h;rw[hn,W_] at h;cases h)];exact RZ hQ))
noncomputable def NF (K:R1)(a:Sr):It:=
 ⟨λi H=>∃xs x,eN K H a xs/\xs[i]? = some x,λi H x H'=>H'=H/\∀xs,eN K H a xs->xs[i]? = some x,λi H=>∃xs,eN K H a xs/\xs.length<=i⟩
noncomputable def Oi (K:R1)(a:Sr):It:=
 ⟨λi H=>∃xs x,fF K H a xs/\xs[i]? = some x,λi H x H'=>H'=H/\∀xs,fF K H a xs->xs[i]? = some x,λi H=>∃xs,fF K H a xs/\xs.length<=i⟩
noncomputable def NG (lo:Int)(n:Nat):It:=⟨λi _=>i<n,λi H x H'=>H'=H/\x=.int (lo+i),λi _=>n<=i⟩
theorem zL {w:Tq}(a it:Sr):wz P w K tg (NF K a) [it] it (λi h=>h.IsListIter it a i) where
 mem:=by simp
 obj:=λi h st b hb=>by
  have e:b=it:=by simpa using hb
  subst e;obtain⟨o,e,c,d⟩:=st;exact⟨o,e,λv z=>by rw[d] at z;cases z⟩
 keep:=λi h h' st k=>st.at λo e=>k it (by simp) o e
 item:=by
  intro X hP hw hK hc i pins s σ H E I hf st hg;subst hP hw hK;obtain⟨xs,x,hq,hx⟩:=hg;obtain⟨ax,rv,p,hz⟩:=I.list hq;obtain⟨u,hu,ru⟩:=rv.get hx;obtain⟨f0,f1,f2,f3,f4,f5⟩:=hf it (by simp);refine wpAny_pyNext_list_item st p.isList (x:=u) (by simpa using hu) λh' bq sb=>?_;have I1:ay X pins σ H {s with heap:=h'}:=I.turned (t':=s.toks) (λb o hb e=>(sb.2 b hb).trans e) f0 f1 f3 f4 f5;obtain⟨o,e,c,d⟩:=id bq;exact⟨u,rfl,x_ (s:={s with heap:=h'}) e c d (by decide) ⟨x,H,I1,ru,⟨rfl,λys hy=>by rw[I.list_inj hy hq];exact hx⟩,bq,λb hb=>(hf b hb).1⟩⟩
 done:=by
  intro X hP hw hK hc i pins s σ H E I hf st hg;subst hP hw hK;obtain⟨xs,hq,hx⟩:=hg;obtain⟨ax,rv,p,hz⟩:=I.list hq;obtain⟨f0,f1,f2,f3,f4,f5⟩:=hf it (by simp);have hl:=rv.length;exact wpAny_pyNext_list_end (I.ok.hd hc) st p.isList (by simp;lia) λh' eb=>⟨rfl,I.turned (t':=s.toks) (λb o hb e=>eb b o hb e) f0 f1 f3 f4 f5⟩
 self:=λ_ _ _ _ _ st h=>wpAny_pyIter_listiter st h
theorem wA {w:Tq}(a it:Sr):wz P w K tg (Oi K a) [it] it (λi h=>h.IsTupleIter it a i) where
 mem:=by simp
 obj:=λi h st b hb=>by
  have e:b=it:=by simpa using hb
  subst e;obtain⟨o,e,c,d⟩:=st;exact⟨o,e,λv z=>by rw[d] at z;cases z⟩
 keep:=λi h h' st k=>st.at λo e=>k it (by simp) o e
 item:=by
  intro X hP hw hK hc i pins s σ H E I hf st hg;subst hP hw hK;obtain⟨xs,x,hq,hx⟩:=hg;obtain⟨ax,rv,p,hz⟩:=I.tuple hq;obtain⟨u,hu,ru⟩:=rv.get hx;obtain⟨f0,f1,f2,f3,f4,f5⟩:=hf it (by simp);refine wpAny_pyNext_tuple_item st (show s.heap.IsTuple a ax.toArray from p) (x:=u) (by simpa using hu) λh' bq sb=>?_;have I1:ay X pins σ H {s with heap:=h'}:=I.turned (t':=s.toks) (λb o hb e=>(sb.2 b hb).trans e) f0 f1 f3 f4 f5;obtain⟨o,e,c,d⟩:=id bq;exact⟨u,rfl,x_ (s:={s with heap:=h'}) e c d (by decide) ⟨x,H,I1,ru,⟨rfl,λys hy=>by rw[I.tuple_inj hy hq];exact hx⟩,bq,λb hb=>(hf b hb).1⟩⟩
 done:=by
  intro X hP hw hK hc i pins s σ H E I hf st hg;subst hP hw hK;obtain⟨xs,hq,hx⟩:=hg;obtain⟨ax,rv,p,hz⟩:=I.tuple hq;obtain⟨f0,f1,f2,f3,f4,f5⟩:=hf it (by simp);have hl:=rv.length;exact wpAny_pyNext_tuple_end (I.ok.hd hc) st (show s.heap.IsTuple a ax.toArray from p) (by simp;lia) λh' eb=>⟨rfl,I.turned (t':=s.toks) (λb o hb e=>eb b o hb e) f0 f1 f3 f4 f5⟩
 self:=λ_ _ _ _ _ st h=>wpAny_pyIter_tupleiter st h
theorem wB {w:Tq}(it:Sr)(lo:Int)(n:Nat):wz P w K tg (NG lo n) [it] it (λi h=>IsRangeIter h it (lo+(i:Nat)*1) ((n:Int)-(i:Nat)) 1) where
 mem:=by simp
 obj:=λi h st b hb=>by
  have e:b=it:=by simpa using hb
  subst e;exact⟨_,st,λv z=>by
   have z':Data.fields _=Data.cell v:=z;cases z'⟩
 keep:=λi h h' st k=>k it (by simp) _ st
 item:=by
  intro X hP hw hK hc i pins s σ H E I hf st hg;subst hP hw hK;obtain⟨f0,f1,f2,f3,f4,f5⟩:=hf it (by simp);have W:=Walks.range (prog:=X.prog) (w:=X.w) (I.ok.hd hc) it lo 1 n;refine W.item i s _ _ hg st λv h' tk hv bq kk=>?_;obtain⟨t,rfl⟩:=hv;have I1:ay X pins σ H {s with heap:=h',toks:=tk}:=I.turned (λb o hb e=>kk b o (by simpa using hb) e) f0 f1 f3 f4 f5;refine⟨_,rfl,x_ (s:={s with heap:=h',toks:=tk}) (n:="range_iterator") bq rfl rfl (by decide) ⟨.int (lo+i),H,I1,⟨t,?_⟩,⟨rfl,rfl⟩,bq,λb hb=>(hf b hb).1⟩⟩;rw[Int.mul_one]
 done:=by
  intro X hP hw hK hc i pins s σ H E I hf st hg;subst hP hw hK;obtain⟨f0,f1,f2,f3,f4,f5⟩:=hf it (by simp);exact wpAny_pyNext_range_end (I.ok.hd hc) st (by have:n<=i:=hg;lia) λh' eb=>⟨rfl,I.turned (t':=s.toks) (λb o hb e=>eb b o hb e) f0 f1 f3 f4 f5⟩
 self:=λ_ _ _ _ _ st h=>wpAny_pyIter_rangeiter st h
end L2
namespace L2
def Lc (K:R1)(tl:TE):TI:=λσ H R=>tl σ H λx H1=>∃a,x=.ref a/\(∃xs,eN K H1 a xs)/\R (NF K a) H1
def Oj (K:R1)(tl:TE):TI:=λσ H R=>tl σ H λx H1=>∃a,x=.ref a/\(∃xs,fF K H1 a xs)/\R (Oi K a) H1
theorem EF {l:T6}{tl:TE}(hl:PE X l tl):PI X tg l (Lc X.K tl):=by
 intro pins s σ H R I h;refine cM (hl pins s σ H _ I h) λv s1 ⟨x,H1,I1,r1,q1⟩=>?_;obtain⟨a,e,⟨xs,hq⟩,q⟩:=q1;subst e;cases r1;obtain⟨ax,rv,p,hz⟩:=I1.list hq;refine Xk p.isList ?_;refine⟨s1.heap.objs.size,[s1.heap.objs.size],_,_,H1,rfl,I1.kept (t':=s1.toks) λb o e=>R4 _ e,zL a _,⟨_,R9 _ rfl,rfl,rfl⟩,λb hb=>?_,q⟩;have e:b=s1.heap.objs.size:=by simpa using hb
 subst e;exact I1.fpOk (Sb _) (I1.hok.fresh (Sb _))
theorem IM {l:T6}{tl:TE}(hl:PE X l tl):PI X tg l (Oj X.K tl):=by
 intro pins s σ H R I h;refine cM (hl pins s σ H _ I h) λv s1 ⟨x,H1,I1,r1,q1⟩=>?_;obtain⟨a,e,⟨xs,hq⟩,q⟩:=q1;subst e;cases r1;obtain⟨ax,rv,p,hz⟩:=I1.tuple hq;refine wpAny_pyIter_tuple (show s1.heap.IsTuple a ax.toArray from p) ?_;refine⟨s1.heap.objs.size,[s1.heap.objs.size],_,_,H1,rfl,I1.kept (t':=s1.toks) λb o e=>R4 _ e,wA a _,⟨_,R9 _ rfl,rfl,rfl⟩,λb hb=>?_,q⟩;have e:b=s1.heap.objs.size:=by simpa using hb
 subst e;exact I1.fpOk (Sb _) (I1.hok.fresh (Sb _))
theorem Ba {R:It->Hp->Prop}{lo hi:Int}{t u v:Tok}{tk:Nat}(I:ay X pins σ H s)(h1 : -(2 ^ 62)<=lo)(h2:lo<2 ^ 62)(h3 : -(2 ^ 62)<=hi)(h4:hi<2 ^ 62)(q:R (NG lo (hi-lo).toNat) H):Sv (SN X.prog X.w) X.A (pyIter (.ref s.heap.objs.size)) (Pq X pins σ tg R) E {s with heap:=s.heap.push {cls:=.type "range",data:=.fields #[.int lo t,.int hi u,.int 1 v]},toks:=tk}:=by
 refine wpAny_pyIter_range (IsRange.new ..) (small_one h1 h2 h3 h4) ?_;have I1:ay X pins σ H {s with heap:=s.heap.push {cls:=.type "range",data:=.fields #[.int lo t,.int hi u,.int 1 v]},toks:=tk}:=I.kept λb o e=>R4 _ e;refine⟨(s.heap.push {cls:=.type "range",data:=.fields #[.int lo t,.int hi u,.int 1 v]}).objs.size,[(s.heap.push {cls:=.type "range",data:=.fields #[.int lo t,.int hi u,.int 1 v]}).objs.size],_,_,H,rfl,
  I1.kept (t':=tk) λb o e=>R4 _ e,wB _ lo (hi-lo).toNat,?_,λb hb=>?_,q⟩
 ·have e1:lo+((0:Nat):Int)*1=lo:=by simp
  have e2:(((hi-lo).toNat:Nat):Int)-((0:Nat):Int)=VB lo hi 1:=by rw[rangeSize_one];split<;>lia
  show IsRangeIter _ _ (lo+((0:Nat):Int)*1) ((((hi-lo).toNat:Nat):Int)-((0:Nat):Int)) 1;rw[e1,e2];exact R9 _ rfl
 ·have e:b=(s.heap.push {cls:=.type "range",data:=.fields #[.int lo t,.int hi u,.int 1 v]}).objs.size:=by simpa using hb
  subst e;exact I1.fpOk (Sb _) (I1.hok.fresh (Sb _))
def Ld (ta:TA):TI:=λσ H R=>ta σ H λvs H1=>∃j:Int,vs=[.int j]/\ -(2 ^ 62)<=j/\j<2 ^ 62/\R (NG 0 j.toNat) H1
theorem zM {a:T6}{ta:TA}{p:Pos}(hg:Gl X "range")(hm:X.mg "range"=none)(ha:PA X [a] ta)(hs:Sq [a] X.env=[(false,VP a X.env)]:=by rfl):PI X tg (.Call (.Name "range" p) [a] [] pos) (Ld ta):=by
 intro pins s σ H R I h;refine Call_ (sr I hg hm boot_range (WC (cM (ha pos pins s σ H _ I h) λus s1 ⟨vs,H1,I1,r1,q1⟩=>?_) hs rfl));obtain⟨j,e,q1,q2,q⟩:=q1;subst e;cases r1 with
 |cons r rr=>
  cases rr;obtain⟨t,rfl⟩:=r;exact call_range_1 (Ba I1 (by lia) (by lia) q1 q2 (by simpa using q))
def Ol (wi:TI)(g:TG)(tb:TS):TS:=λD σ H=>wi σ H λJ H1=>∃W:Nat->Nat->St->Hp->Prop,(∃m,W 0 m σ H1)/\∀i m σ H,W i m σ H->
 (J.stop i H/\D.nx σ H)\/(J.go i H/\∃N:St->Hp->Prop,(∀σ' H',N σ' H'->∃m',m'<m/\W (i+1) m' σ' H')/\∀x H',J.yld i H x H'->g x σ H' λσ2 H2=>tb {D with nx:=N,ct:=N,bk:=D.nx} σ2 H2)
noncomputable def oq (fp:List Sr)(h:UU):List (Sr×Obj):=fp.filterMap λb=>(h.get? b).map λo=>(b,o)
theorem ik {o:Obj}(hb:b∈fp)(e:h.get? b=some o):(b,o)∈oq fp h:=WZ.mpr ⟨b,hb,by rw[e];rfl⟩
theorem zN {p:Sr×Obj}(hp:p∈oq fp h):p.1∈fp/\h.get? p.1=some p.2:=by
 obtain⟨b,hb,e⟩:=WZ.mp hp;cases q:h.get? b with
 |none=>rw[q] at e;cases e
 |some o=>
  rw[q] at e;have e':(b,o)=p:=SH e;subst e';exact⟨hb,q⟩
theorem ay.pinned (I:ay X pins σ H s)(hf:∀b∈fp,om X pins H b)(ho:∀b∈fp,∃o,s.heap.get? b=some o/\∀v,o.data≠.cell v):ay X (pins++oq fp s.heap) σ H s:=
 I.pins_of λp hp=>(Tz.mp hp).elim (λz=>I.pin p (SW _ z)) λz=>by
  obtain⟨hb,e⟩:=zN z;obtain⟨f0,f1,f2,_⟩:=hf p.1 hb;obtain⟨o,e',d⟩:=ho p.1 hb;rw[e] at e';cases e';exact⟨e,f0,f1,f2,d⟩
theorem ay.unpinned {pl:List (Sr×Obj)}(I:ay X (pins++pl) σ H s):ay X pins σ H s:=I.pins_of λp hp=>I.pin p (SW _ (Vc _ hp))
theorem IP {wi:TI}{g:TG}(hp:Xw (SN X.prog X.w) X.A X.env X.xe)(hc:X.calm=true)(hi:PI X tg iter wi)(hg:PG X tg g)(hb:qy X body tb)(hs:∀x,UD iter X.env x=pure x:=by intro _;rfl):PS X (.For tg iter body [] pos) (Ol wi g tb):=by
 intro pins s σ H D I h;refine wpAny_For (cM (hi pins s σ H _ I h) λv s1 h1=>cM h1 λO0 s2 h2=>?_) hs;obtain⟨it,fp,tn,J,H2,e,I2,T,kA,f2,W,⟨m0,w0⟩,turn⟩:=h2;subst e;have Kt:∀{H':Hp},(∀b∈fp,H' b=none)->∀b∈fp,om X pins H' b:=λhn b hb=>⟨hn b hb,(f2 b hb).2⟩;refine codeAny_forLoop_any (λn s'=>∃i σ' H',ay X pins σ' H' s'/\tn i s'.heap/\(∀b∈fp,H' b=none)/\W i n σ' H') ?_ m0 ⟨0,σ,H2,I2,kA,λb hb=>(f2 b hb).1,w0⟩;rintro n s3 ⟨i,σ3,H3,I3,KN,fr3,w3⟩;rcases turn i n σ3 H3 w3 with⟨stop,qn⟩|⟨go,N,hN,step⟩
 ·refine UC hp (cM (T.done X rfl rfl rfl hc i pins s3 σ3 H3 X.xe I3 (Kt fr3) KN stop) λr s4 ⟨hr,I4⟩=>?_);subst hr;exact VA ⟨σ3,H3,I4,qn⟩
 ·refine UC hp (cM (T.item X rfl rfl rfl hc i pins s3 σ3 H3 X.xe I3 (Kt fr3) KN go) λr s4 ⟨u,hr,h4⟩=>?_);subst hr;refine UC hp (cM h4 λ_ s5 ⟨x,H5,I5,r5,y5,st5,fr5⟩=>?_);have O1:=I5.pinned (Kt fr5) (T.obj _ _ st5);refine UC hp (cM (hg _ s5 σ3 H5 x u _ O1 r5 (step x H5 y5)) λ_ s6 ⟨σ6,H6,I6,q6⟩=>?_);refine UC hp (cM (hb _ s6 σ6 H6 _ I6 q6) λf s7 q7=>?_);have again:∀{σ7:St} {H7:Hp},ay X (pins++oq fp s5.heap) σ7 H7 s7->N σ7 H7->∃m,m<n/\∃i σ' H',ay X pins σ' H' s7/\tn i s7.heap/\(∀b∈fp,H' b=none)/\W i m σ' H':=λ{σ7 H7} I7 n7=>by
   obtain⟨m',hm,w7⟩:=hN σ7 H7 n7;refine⟨m',hm,i+1,σ7,H7,I7.unpinned,T.keep _ _ _ st5 λb hb o e=>(I7.pin (b,o) (SW _ (SW _ (ik hb e)))).1,λb hb=>?_,w7⟩;obtain⟨o,e,d⟩:=T.obj _ _ st5 b hb;exact (I7.pin (b,o) (SW _ (SW _ (ik hb e)))).2.1
  cases f with
  |next=>obtain⟨σ7,H7,I7,n7⟩:=q7;exact again I7 n7
  |cont=>obtain⟨σ7,H7,I7,n7⟩:=q7;exact again I7 n7
  |brk=>obtain⟨σ7,H7,I7,q7⟩:=q7;exact⟨σ7,H7,I7.unpinned,q7⟩
  |ret v=>obtain⟨x7,σ7,H7,I7,r7,q7⟩:=q7;exact⟨x7,σ7,H7,I7.unpinned,r7,q7⟩
end L2
namespace L2
abbrev R2:=V->V->Hp->VK->Prop
def ig (X:Cx)(f:R6->R6->Sem R6)(r:R2):Prop:=
 ∀(pins:List (Sr×Obj)) (s:Sk) (σ:St) (H:Hp) (x y:V) (v u:R6) (Q:VK),ay X pins σ H s->aM x v->aM y u->r x y H Q->
  Sv (SN X.prog X.w) X.A (f v u) (EP X pins σ Q) X.xe s
def NH (X:Cx)(f:R6->Sem R6)(r:V->Hp->VK->Prop):Prop:=
 ∀(pins:List (Sr×Obj)) (s:Sk) (σ:St) (H:Hp) (x:V) (v:R6) (Q:VK),ay X pins σ H s->aM x v->r x H Q->
  Sv (SN X.prog X.w) X.A (f v) (EP X pins σ Q) X.xe s
def dW (X:Cx)(f:R6)(r:List V->Hp->VK->Prop):Prop:=
 ∀(pins:List (Sr×Obj)) (s:Sk) (σ:St) (H:Hp) (xs:List V) (us:List R6) (Q:VK),ay X pins σ H s->aO xs us->r xs H Q->
  Sv (SN X.prog X.w) X.A (call f us) (EP X pins σ Q) X.xe s
def Le (r:R2)(ta tb:TE):TE:=λσ H Q=>ta σ H λx H1=>tb σ H1 λy H2=>r x y H2 Q
def Pr (r:V->Hp->VK->Prop)(ta:TE):TE:=λσ H Q=>ta σ H λx H1=>r x H1 Q
def rI (C:Int->Int->Prop)(g:Int->Int->V):R2:=λx y H Q=>∃i j,x=.int i/\y=.int j/\C i j/\Q (g i j) H
def wC (g:Int->Int->V):R2:=λx y H Q=>∃i j,x=.int i/\y=.int j/\Q (g i j) H
def rU (g:Int->V):V->Hp->VK->Prop:=λx H Q=>∃i,x=.int i/\Q (g i) H
section
variable {a b c:T6}{ta tb tc:TE}
theorem IQ (ha:PE X a ta)(hb:PE X b tb){R:V->V->Hp->Prop}(I:ay X pins σ H s)(h:ta σ H λx H1=>tb σ H1 λy H2=>R x y H2){f:R6->R6->Sem R6}(hf:∀v u s2 x y H2,ay X pins σ H2 s2->aM x v->aM y u->R x y H2->Sv (SN X.prog X.w) X.A (f v u) Q X.xe s2) :
  Sv (SN X.prog X.w) X.A (VP a X.env) (λv s₁=>Sv (SN X.prog X.w) X.A (VP b X.env) (λu s₂=>Sv (SN X.prog X.w) X.A (f v u) Q X.xe s₂) X.xe s₁) X.xe s:=by
 refine cM (ha pins s σ H _ I h) λv s1 ⟨x,H1,I1,r1,q1⟩=>?_;refine cM (hb pins s1 σ H1 _ I1 q1) λu s2 ⟨y,H2,I2,r2,q2⟩=>?_;exact hf v u s2 x y H2 I2 r1 r2 q2
theorem Lf {op:Operator}{r:R2}(ho:ig X (U7 op) r)(ha:PE X a ta)(hb:PE X b tb):PE X (.BinOp a op b pos) (Le r ta tb):=by
 intro pins s σ H Q I h;exact wpAny_BinOp (IQ ha hb I h λv u s2 x y H2 I2 rx ry q=>ho pins s2 σ H2 x y v u Q I2 rx ry q)
theorem Lg {op:UnaryOp}{r:V->Hp->VK->Prop}(ho:NH X (unaryOp op) r)(ha:PE X a ta):PE X (.UnaryOp op a pos) (Pr r ta):=by
 intro pins s σ H Q I h;exact UnaryOp_ (cM (ha pins s σ H _ I h) λv s1 ⟨x,H1,I1,r1,q1⟩=>ho pins s1 σ H1 x v Q I1 r1 q1)
theorem NI {f:R6->R6->Sem R6}{C:Int->Int->Prop}{g:Int->Int->Int}
  (rule:∀(i j:Int) (t u:Tok) (s:Sk) (Q:R6->Sk->Prop) (E:R6->Sk->Prop),C i j->Q (.int (g i j) s.toks) {s with toks:=s.toks+1}->Sv (SN X.prog X.w) X.A (f (.int i t) (.int j u)) Q E s) :
  ig X f (rI C λi j=>.int (g i j)):=by
 intro pins s σ H x y v u Q I rx ry h;obtain⟨i,j,rfl,rfl,hc,q⟩:=h;obtain⟨t,rfl⟩:=rx;obtain⟨t',rfl⟩:=ry;exact rule i j t t' s _ _ hc ⟨.int (g i j),H,I.tok _,⟨_,rfl⟩,q⟩
theorem Lh {f:R6->R6->Sem R6}{g:Int->Int->Int}
  (rule:∀(i j:Int) (t u:Tok) (s:Sk) (Q:R6->Sk->Prop) (E:R6->Sk->Prop),Q (.int (g i j) s.toks) {s with toks:=s.toks+1}->Sv (SN X.prog X.w) X.A (f (.int i t) (.int j u)) Q E s) :
  ig X f (wC λi j=>.int (g i j)):=by
 intro pins s σ H x y v u Q I rx ry h;obtain⟨i,j,rfl,rfl,q⟩:=h;obtain⟨t,rfl⟩:=rx;obtain⟨t',rfl⟩:=ry;exact rule i j t t' s _ _ ⟨.int (g i j),H,I.tok _,⟨_,rfl⟩,q⟩
theorem EG {f:R6->R6->Sem R6}{g:Int->Int->Bool}
  (rule:∀(i j:Int) (t u:Tok) (s:Sk) (Q:R6->Sk->Prop) (E:R6->Sk->Prop),Q (.bool (g i j)) s->Sv (SN X.prog X.w) X.A (f (.int i t) (.int j u)) Q E s) :
  ig X f (wC λi j=>.bl (g i j)):=by
 intro pins s σ H x y v u Q I rx ry h;obtain⟨i,j,rfl,rfl,q⟩:=h;obtain⟨t,rfl⟩:=rx;obtain⟨t',rfl⟩:=ry;exact rule i j t t' s _ _ ⟨.bl (g i j),H,I,rfl,q⟩
def Li (i j:Int):Prop:=0<=j/\j<=1000000/\i.natAbs<2 ^ 64
def EH (i j:Int):Prop:=(-(2 ^ 64)<i/\i<2 ^ 64)\/(-(2 ^ 64)<j/\j<2 ^ 64)
theorem EH.ok {i j:Int}(h:EH i j):IntMulOk i j:=by
 rcases h with⟨h1,h2⟩|⟨h1,h2⟩
 ·exact .of_left (intBits_le_64 h1 h2)
 ·exact .of_right (intBits_le_64 h1 h2)
theorem IS:ig X (U7 .Add) (wC λi j=>.int (i+j)):=Lh λ_ _ _ _ _ _ _ q=>add_int q
theorem Bb:ig X (U7 .Sub) (wC λi j=>.int (i-j)):=Lh λ_ _ _ _ _ _ _ q=>sub_int q
theorem ei:ig X (U7 .Mult) (rI EH λi j=>.int (i*j)):=NI λ_ _ _ _ _ _ _ hc q=>mul_int q hc.ok
theorem j0:ig X (U7 .Mod) (rI (λ_ j=>0<j) λi j=>.int (i % j)):=NI λi j _ _ _ _ _ hc q=>by
 have h1:(0:Int)<j:=hc;exact mod_int' (by lia) (by rw[Int.fmod_eq_emod_of_nonneg i (by lia)];exact q)
theorem Bc:ig X (U7 .Pow) (rI Li λi j=>.int (i ^ j.toNat)):=NI λ_ _ _ _ _ _ _ hc q=>pow_int_small hc.1 hc.2.1 hc.2.2 q
theorem Qs {f:R6->Sem R6}{g:Int->Int}
  (rule:∀(i:Int) (t:Tok) (s:Sk) (Q:R6->Sk->Prop) (E:R6->Sk->Prop),Q (.int (g i) s.toks) {s with toks:=s.toks+1}->Sv (SN X.prog X.w) X.A (f (.int i t)) Q E s) :
  NH X f (rU λi=>.int (g i)):=by
 intro pins s σ H x v Q I rx h;obtain⟨i,rfl,q⟩:=h;obtain⟨t,rfl⟩:=rx;exact rule i t s _ _ ⟨.int (g i),H,I.tok _,⟨_,rfl⟩,q⟩
theorem IT:NH X (unaryOp .USub) (rU λi=>.int (-i)):=Qs λ_ _ _ _ _ q=>neg_int q
end
noncomputable def Lj:V->V->Bool
 | .non,.non=>true|.non,.int _=>true|.int _,.non=>true|.non,.bl _=>true|.bl _,.non=>true|.non,.str _=>true|.str _,.non=>true
 | .int _,.int _=>true|.bl _,.bl _=>true|.str _,.str _=>true|.byt _,.byt _=>true
 | .int _,.str _=>true|.str _,.int _=>true|.bl _,.str _=>true|.str _,.bl _=>true
 |_,_=>false
def Pt:R2:=λx y H Q=>Lj x y=true/\Q (.bl (decide (x=y))) H
def Pu:R2:=λx y H Q=>Lj x y=true/\Q (.bl (!decide (x=y))) H
theorem nN {i j:Int}:decide (V.int i=V.int j)=(i==j):=by
 rw[Tt];simp
theorem sx {i j:Bool}:decide (V.bl i=V.bl j)=(i==j):=by
 rw[Tt];simp
theorem nO {i j:Str}:decide (V.str i=V.str j)=(i==j):=by
 rw[Tt];simp
theorem ya {i j:Array UInt8}:decide (V.byt i=V.byt j)=(i.toList==j.toList):=by
 rw[Tt];cases i;cases j;simp
section
variable {a b c:T6}{ta tb tc:TE}
theorem a_ {Q:VK}{k k':Bool}(I:ay X pins σ H s)(q:Q (.bl k) H)(e:k=k'):EP X pins σ Q (.bool k') s:=by
 subst e;exact⟨.bl k,H,I,rfl,q⟩
theorem yb:ig X (TB .Eq) Pt:=by
 intro pins s σ H x y v u Q I rx ry h;obtain⟨hs,q⟩:=h;cases x with
 |non=>
  cases rx;cases y with
  |non=>cases ry;exact PySem.EqNone.eq_none_none (a_ I q (by simp))
  |bl j=>cases ry;exact PySem.EqNone.eq_none_bool (a_ I q (by simp))
  |int j=>obtain⟨t',rfl⟩:=ry;exact PySem.EqNone.eq_none_int (a_ I q (by simp))
  |str j=>obtain⟨t',rfl⟩:=ry;exact PySem.EqNone.eq_none_str (a_ I q (by simp))
  |_=>exact absurd (show false=true from hs) R0
 |bl i=>
  cases rx;cases y with
  |non=>cases ry;exact PySem.EqNone.eq_bool_none (a_ I q (by simp))
  |bl j=>cases ry;exact eq_bool (a_ I q sx)
  |str j=>obtain⟨t',rfl⟩:=ry;exact PySem.EqMixed.eq_bool_str (a_ I q (by simp))
  |_=>exact absurd (show false=true from hs) R0
 |int i=>
  obtain⟨t,rfl⟩:=rx;cases y with
  |non=>cases ry;exact PySem.EqNone.eq_int_none (a_ I q (by simp))
  |int j=>obtain⟨t',rfl⟩:=ry;exact eq_int (a_ I q nN)
  |str j=>obtain⟨t',rfl⟩:=ry;exact PySem.EqMixed.eq_int_str (a_ I q (by simp))
  |_=>exact absurd (show false=true from hs) R0
 |str i=>
  obtain⟨t,rfl⟩:=rx;cases y with
  |non=>cases ry;exact PySem.EqNone.eq_str_none (a_ I q (by simp))
  |bl j=>cases ry;exact PySem.EqMixed.eq_str_bool (a_ I q (by simp))
  |int j=>obtain⟨t',rfl⟩:=ry;exact PySem.EqMixed.eq_str_int (a_ I q (by simp))
  |str j=>obtain⟨t',rfl⟩:=ry;exact eq_str (a_ I q nO)
  |_=>exact absurd (show false=true from hs) R0
 |byt i=>
  obtain⟨t,rfl⟩:=rx;cases y with
  |byt j=>obtain⟨t',rfl⟩:=ry;exact PySem.W.eq_bytes (a_ I q ya)
  |_=>exact absurd (show false=true from hs) R0
 |_=>cases y<;>exact absurd (show false=true from hs) R0
theorem Lk:ig X (TB .NotEq) Pu:=by
 intro pins s σ H x y v u Q I rx ry h;obtain⟨hs,q⟩:=h;cases x with
 |non=>
  cases rx;cases y with
  |non=>cases ry;exact PySem.EqNone.ne_none_none (a_ I q (by simp))
  |bl j=>cases ry;exact PySem.EqNone.ne_none_bool (a_ I q (by simp))
  |int j=>obtain⟨t',rfl⟩:=ry;exact PySem.EqNone.ne_none_int (a_ I q (by simp))
  |str j=>obtain⟨t',rfl⟩:=ry;exact PySem.EqNone.ne_none_str (a_ I q (by simp))
  |_=>exact absurd (show false=true from hs) R0
 |bl i=>
  cases rx;cases y with
  |non=>cases ry;exact PySem.EqNone.ne_bool_none (a_ I q (by simp))
  |bl j=>cases ry;exact ne_bool (a_ I q (congrArg not sx))
  |str j=>obtain⟨t',rfl⟩:=ry;exact PySem.EqMixed.ne_bool_str (a_ I q (by simp))
  |_=>exact absurd (show false=true from hs) R0
 |int i=>
  obtain⟨t,rfl⟩:=rx;cases y with
  |non=>cases ry;exact PySem.EqNone.ne_int_none (a_ I q (by simp))
  |int j=>obtain⟨t',rfl⟩:=ry;exact ne_int (a_ I q (congrArg not nN))
  |str j=>obtain⟨t',rfl⟩:=ry;exact PySem.EqMixed.ne_int_str (a_ I q (by simp))
  |_=>exact absurd (show false=true from hs) R0
 |str i=>
  obtain⟨t,rfl⟩:=rx;cases y with
  |non=>cases ry;exact PySem.EqNone.ne_str_none (a_ I q (by simp))
  |bl j=>cases ry;exact PySem.EqMixed.ne_str_bool (a_ I q (by simp))
  |int j=>obtain⟨t',rfl⟩:=ry;exact PySem.EqMixed.ne_str_int (a_ I q (by simp))
  |str j=>obtain⟨t',rfl⟩:=ry;exact ne_str (a_ I q (congrArg not nO))
  |_=>exact absurd (show false=true from hs) R0
 |byt i=>
  obtain⟨t,rfl⟩:=rx;cases y with
  |byt j=>obtain⟨t',rfl⟩:=ry;exact PySem.W.ne_bytes (a_ I q (congrArg not ya))
  |_=>exact absurd (show false=true from hs) R0
 |_=>cases y<;>exact absurd (show false=true from hs) R0
theorem Be:ig X (TB .Lt) (wC λi j=>.bl (decide (i<j))):=EG λ_ _ _ _ _ _ _ q=>lt_int q
theorem GJ:ig X (TB .LtE) (wC λi j=>.bl (decide (i<=j))):=EG λ_ _ _ _ _ _ _ q=>le_int q
theorem GK:ig X (TB .Gt) (wC λi j=>.bl (decide (j<i))):=EG λ_ _ _ _ _ _ _ q=>gt_int q
theorem Ll:ig X (TB .GtE) (wC λi j=>.bl (decide (j<=i))):=EG λ_ _ _ _ _ _ _ q=>ge_int q
theorem lT:ig X (TB .Is) (λx y H Q=>y=.non/\Q (.bl (decide (x=.non))) H):=by
 intro pins s σ H x y v u Q I rx ry h;obtain⟨rfl,q⟩:=h;cases ry;refine is_none_gen (a_ I q ?_);cases x<;>first
  | (cases rx;rfl)
  | (obtain⟨t,rfl⟩:=rx;rfl)
theorem EI:ig X (TB .IsNot) (λx y H Q=>y=.non/\Q (.bl (!decide (x=.non))) H):=by
 intro pins s σ H x y v u Q I rx ry h;obtain⟨rfl,q⟩:=h;cases ry;refine isnot_none_gen (a_ I q ?_);cases x<;>first
  | (cases rx;rfl)
  | (obtain⟨t,rfl⟩:=rx;rfl)
theorem ig.or {f:R6->R6->Sem R6}{r r':R2}(h:ig X f r)(h':ig X f r'):ig X f (λx y H Q=>r x y H Q\/r' x y H Q):=by
 intro pins s σ H x y v u Q I rx ry q;rcases q with q|q
 ·exact h pins s σ H x y v u Q I rx ry q
 ·exact h' pins s σ H x y v u Q I rx ry q
theorem bA (b:T6)(h:op≠.In:=by decide)(h2:op≠.NotIn:=by decide):VC op b=false:=by
 have e1:(op==CmpOp.In)=false:=by cases op<;>first|rfl|exact absurd rfl h
 have e2:(op==CmpOp.NotIn)=false:=by cases op<;>first|rfl|exact absurd rfl h2
 cases b<;>simp[VC,e1,e2]
theorem EJ {r:R2}(ho:ig X (TB op) r)(ha:PE X a ta)(hb:PE X b tb)(hm:VC op b=false):PE X (.Compare a [op] [b] pos) (Le r ta tb):=by
 intro pins s σ H Q I h;exact wpAny_Compare1 (IQ ha hb I h λv u s2 x y H2 I2 rx ry q=>ho pins s2 σ H2 x y v u Q I2 rx ry q) hm
def GL (t:TE):TT:=λσ H Q=>t σ H λx H'=>∃k,x=.bl k/\Q k H'
theorem EK {r:R2}(ho:ig X (TB op) r)(ha:PE X a ta)(hb:PE X b tb)(hm:VC op b=false):PT X (.Compare a [op] [b] pos) (GL (Le r ta tb)):=by
 intro pins s σ H Q I h;refine wpAny_isTrue_Compare1 (cM (ha pins s σ H _ I h) λv s1 ⟨x,H1,I1,r1,q1⟩=>cM (hb pins s1 σ H1 _ I1 q1) λu s2 ⟨y,H2,I2,r2,q2⟩=>
  cM (ho pins s2 σ H2 x y v u _ I2 r1 r2 q2) λc s3 ⟨z,H3,I3,r3,k,e,q3⟩=>?_) hm
 subst e;cases r3;exact T7 ⟨H3,I3,q3⟩
def Bf (r r':R2)(ta tb tc:TE):TE:=λσ H Q=>ta σ H λx H1=>tb σ H1 λy H2=>r x y H2 λz H3=>∃k,z=.bl k/\
 (if k=true then tc σ H3 λw' H4=>r' y w' H4 Q else Q (.bl false) H3)
theorem Bg {Ku:CmpOp}{r r':R2}(ho:ig X (TB op) r)(Ec:ig X (TB Ku) r')(ha:PE X a ta)(hb:PE X b tb)(hc:PE X c tc)(hm:lastMarks [op,Ku] [b,c]=false:=by with_unfolding_all rfl):PT X (.Compare a [op,Ku] [b,c] pos) (GL (Bf r r' ta tb tc)):=by
 intro pins s σ H Q I h;refine isTrue_chain (cM (ha pins s σ H _ I h) λv s1 ⟨x,H1,I1,r1,q1⟩=>test_link (cM (hb pins s1 σ H1 _ I1 q1) λu s2 ⟨y,H2,I2,r2,q2⟩=>
  cM (ho pins s2 σ H2 x y v u _ I2 r1 r2 q2) λd s3 ⟨z,H3,I3,r3,k,e,q3⟩=>?_)) hm
 subst e;cases r3;refine T7 ?_;cases k with
 |false=>
  obtain⟨k',e',q'⟩:=q3;cases e';exact ite_ff ⟨H3,I3,q'⟩
 |true=>
  refine ite_tt (test_last (cM (hc pins s3 σ H3 _ I3 q3) λw' s4 ⟨z',H4,I4,r4,q4⟩=>cM (Ec pins s4 σ H4 y z' u w' _ I4 r2 r4 q4) λd' s5 ⟨z2,H5,I5,r5,k2,e2,q5⟩=>?_));subst e2;cases r5;exact T7 ⟨H5,I5,q5⟩
theorem ot:(R3:Nat)<2 ^ 63:=by rw[Ut];decide
theorem iX {x:V}{us:List R6}(r:aO [x] us):∃u,us=[u]/\aM x u:=by
 cases r with
 |cons r1 r2=>cases r2;exact⟨_,rfl,r1⟩
theorem Bh {x:V}{us:List R6}(r:aO [x,y] us):∃u w',us=[u,w']/\aM x u/\aM y w':=by
 cases r with
 |cons r1 r2=>
  cases r2 with
  |cons r3 r4=>cases r4;exact⟨_,_,rfl,r1,r3⟩
theorem uq:dW X (.builtin "abs") (λxs H Q=>∃i,xs=[.int i]/\Q (.int (if i<0 then -i else i)) H):=by
 intro pins s σ H xs us Q I r h;obtain⟨i,rfl,q⟩:=h;obtain⟨u,rfl,t,rfl⟩:=iX r;exact call_abs_int λu tk=>⟨.int (if i<0 then -i else i),H,I.tok _,⟨_,rfl⟩,q⟩
theorem zO (hc:X.calm=true):dW X (.builtin "max") (λxs H Q=>∃i j,xs=[.int i,.int j]/\Q (.int (if j>i then j else i)) H):=by
 intro pins s σ H xs us Q I r h;obtain⟨i,j,rfl,q⟩:=h;obtain⟨u,w',rfl,⟨t,rfl⟩,⟨t',rfl⟩⟩:=Bh r;refine max_two_ints (I.ok.hd hc) λh' tk k=>⟨_,H,I.kept k,?_,q⟩;by_cases hj:j>i
 ·rw[h9 hj,h9 hj];exact⟨_,rfl⟩
 ·rw[hZ hj,hZ hj];exact⟨_,rfl⟩
theorem qS (hc:X.calm=true):dW X (.builtin "min") (λxs H Q=>∃i j,xs=[.int i,.int j]/\Q (.int (if j<i then j else i)) H):=by
 intro pins s σ H xs us Q I r h;obtain⟨i,j,rfl,q⟩:=h;obtain⟨u,w',rfl,⟨t,rfl⟩,⟨t',rfl⟩⟩:=Bh r;refine min_two_ints (I.ok.hd hc) λh' tk k=>⟨_,H,I.kept k,?_,q⟩;by_cases hj:j<i
 ·rw[h9 hj,h9 hj];exact⟨_,rfl⟩
 ·rw[hZ hj,hZ hj];exact⟨_,rfl⟩
def Lm (K:R1)(x:V)(H:Hp)(n:Nat):Prop:=
 match x with
 | .str y=>y.length<=R3/\n=y.length
 | .byt y=>y.size<=R3/\n=y.size
 | .ref p=>(∃xs,eN K H p xs/\n=xs.length)\/∃xs,fF K H p xs/\n=xs.length
 |_=>False
theorem iY:dW X (.builtin "len") (λxs H Q=>∃x n,xs=[x]/\Lm X.K x H n/\Q (.int n) H):=by
 intro pins s σ H xs us Q I r h;obtain⟨x,n,rfl,e,q⟩:=h;obtain⟨u,rfl,rx⟩:=iX r;have hl:=ot;have hs:R3=16777216:=Ut;cases x with
 |str y=>
  obtain⟨t,rfl⟩:=rx;obtain⟨hy,e'⟩:y.length<=R3/\n=y.length:=e;subst e';exact len_str (by lia) ⟨.int _,H,I.tok _,⟨_,rfl⟩,q⟩
 |byt y=>
  obtain⟨t,rfl⟩:=rx;obtain⟨hy,e'⟩:y.size<=R3/\n=y.size:=e;subst e';exact PySem.W.len_bytes (by lia) ⟨.int _,H,I.tok _,⟨_,rfl⟩,q⟩
 |ref p=>
  cases rx;have e':(∃xs,eN X.K H p xs/\n=xs.length)\/∃xs,fF X.K H p xs/\n=xs.length:=e;rcases e' with⟨xs,hx,e'⟩|⟨xs,hx,e'⟩
  ·subst e';obtain⟨ax,r',pl,hz⟩:=I.list hx;have fT:=r'.length;exact Calls.call_len_list pl.isList (by simp only[R7];lia) ⟨.int xs.length,H,I.tok _,⟨_,by simp only[R7];rw[fT]⟩,q⟩
  ·subst e';obtain⟨ax,r',pl,hz⟩:=I.tuple hx;have fT:=r'.length;exact len_tuple pl (by simp only[R7];lia) ⟨.int xs.length,H,I.tok _,⟨_,by simp only[R7];rw[fT]⟩,q⟩
 |_=>exact (show False from e).elim
end
end L2
variable {r r':L2.R2}
namespace L2
structure IU (h:UU)(x dx C:Sr)(mA:Str->Option R6):Prop where
 obj:h.get? x=some (PySem.W.instObj C dx)
 ns:h.Ns1 dx mA
 ne:dx≠x
theorem zP {dx:Sr}{mA:Str->Option R6}(n:h.Ns1 dx mA):∃od,h.get? dx=some od/\∀name,PySem.W.lookIn name od=some (mA name):=by
 obtain⟨o,es,ep,ho,hd,hk,_,hm⟩:=n;refine⟨o,ho,λname=>?_⟩;have e:=hm name;unfold nsFind findBy at e;rw[←Array.find?_toList] at e;unfold PySem.W.lookIn;rw[hd];dsimp only;split
 ·rename_i y q;rw[q] at e;exact congrArg some e
 ·rename_i q;rw[q] at e;have a:es.toList.any (·.refKey)=false:=by
   rw[List.any_eq_false];intro y hy;obtain⟨z,t,hkey⟩:=hk y (Array.mem_toList_iff.mp hy);simp[DictEntry.refKey,hkey]
  have a':¬es.toList.any (·.refKey)=true:=by rw[a];exact R0
  rw[hZ a'];exact congrArg some e
theorem IU.look {x dx:Sr}{mA:Str->Option R6}(I:IU h x dx C mA):∃od,PySem.W.InstAt h x (PySem.W.instObj C dx) C (some od)/\∀name,PySem.W.lookIn name od=some (mA name):=
 let ⟨od,ho,hl⟩:=zP I.ns
 ⟨od,⟨I.obj,rfl,rfl,ho⟩,hl⟩
theorem jZ.some_of {o:Option R6}(r:jZ (some v) o):∃u,o=some u/\aM v u:=by
 cases o with
 |none=>exact (show False from r).elim
 |some u=>exact⟨u,rfl,r⟩
section
variable {w:Tq}{dx:Sr}{fs fs':List (Str×V)}
theorem EL (hok:gK P w H h)(e:H a=some (.ins C dx fs)):∃mA,IU h a dx C mA/\(∀f,jZ (fs.lookup f) (mA f))/\PySem.Within mA (fs.map (·.1))/\fs.length<=1000/\H dx=some (.own a):=by
 obtain⟨d,z,ne,ob,mA,n,r,q⟩:=(show bz P w H h a (.ins C dx fs) from hok a _ e);exact⟨mA,⟨ob,n,ne⟩,r,q,z,d⟩
end
structure NJ (K:R1)(C:Sr):Prop where
 pg:PySem.W.plainGet K C Str.empty=true
 hd:PySem.W.hasDictIn K C=true
 po:PySem.W.plainOver K C=true
 sa:Ve K (.ref C) "__setattr__"=some (some (.builtin "object.__setattr__"))
theorem NJ.get (c:NJ K C)(f:Str):PySem.W.plainGet K C f=true:=c.pg
def IV (K:R1)(C:Sr)(f:Str):Prop:=Ve K (.ref C) f=some none
structure RK (K:R1)(C:Sr)(f:Str)(v:V)(u:R6):Prop where
 at_:Ve K (.ref C) f=some (some u)
 rel:aM v u
 get:PySem.W.specialIn K u "__get__"=some none
 cp:PySem.W.copiedNames.contains f=false
structure Qt (K:R1)(C:Sr)(m:Str)(f:Sr):Prop where
 at_:Ve K (.ref C) m=some (some (.ref f))
 fn:PySem.W.isFn K (.ref f)=true
 kp:T9 K (.ref f)=true
section
variable {A:S2}{c:R6}{b:Bool}
inductive lU (K:R1)(H:Hp):V->R6->Prop where
 |non:lU K H .non (.type "NoneType")
 |bl (x:Bool):lU K H (.bl x) (.type "bool")
 |int (i:Int):lU K H (.int i) (.type "int")
 |str (x:Str):lU K H (.str x) (.type "str")
 |flt (x:UInt64):lU K H (.flt x) (.type "float")
 |lst {a:Sr} {xs:List V} (e:H a=some (.lst xs)):lU K H (.ref a) (.type "list")
 |frz {a:Sr} {o:Obj} {xs:List V} (e:H a=some (.frz o (.lst xs))):lU K H (.ref a) (.type "list")
 |tup {a:Sr} {xs:List V} (e:H a=some (.tup xs)):lU K H (.ref a) (.type "tuple")
 |dK {a:Sr} {aP:List (Key×V)} (e:H a=some (.dK aP)):lU K H (.ref a) (.type "dict")
 |dT {a:Sr} {aP:List (List Key×V)} (e:H a=some (.dT aP)):lU K H (.ref a) (.type "dict")
 |ins {a C dx:Sr} {fs:List (Str×V)} (e:H a=some (.ins C dx fs)) (cl:NJ K C) (ha:Ve K (.ref C) "__class__"=some (some (.builtin "object.__class__")))
   (hn:PySem.W.specialIn K (.builtin "object.__class__") "__get__"=some (some (.builtin "getset_descriptor.__get__"))) (htk:PySem.W.takesIn K (.builtin "object.__class__")=some true)
   (hm:PySem.W.mroIn K C (.type "object")=some true):lU K H (.ref a) (.ref C)
theorem zQ {x:V}{u t:R6}(I:ay X pins σ H s)(rx:aM x u)(ty:lU X.K H x t)(e:PySem.W.kitOne X.K t c=some b)(h:∀tk,Q (.bool b) {s with toks:=tk}) :
  Sv (SN X.prog X.w) A (call (.builtin "isinstance") [u,c]) Q E s:=by
 cases ty with
 |non=>cases (show u=Value.none from rx);exact TC PySem.W.kitx_none I.kIn True.intro e (λz=>nomatch z) h
 |bl y=>cases (show u=Value.bool y from rx);exact TC PySem.W.kitx_bool I.kIn True.intro e (λz=>nomatch z) h
 |int i=>obtain⟨t,q⟩:=(show ∃t,u=Value.int i t from rx);cases q;exact TC PySem.W.kitx_int I.kIn True.intro e (λz=>nomatch z) h
 |str y=>obtain⟨t,q⟩:=(show ∃t,u=Value.str y t from rx);cases q;exact TC PySem.W.kitx_str I.kIn True.intro e (λz=>nomatch z) h
 |flt y=>obtain⟨t,q⟩:=(show ∃t,u=Value.float y t from rx);cases q;exact TC PySem.W.kitx_float I.kIn True.intro e (λz=>nomatch z) h
 | @lst a xs ea=>
  cases (show u=Value.ref a from rx);obtain⟨_,_,n,_,h1⟩:=(show bz X.prog X.w H s.heap a (.lst xs) from I.hok a _ ea);exact TC PySem.W.kitx_list I.kIn ⟨_,h1,rfl⟩ e (λz=>nomatch z) h
 | @frz a ob xs ea=>
  cases (show u=Value.ref a from rx);obtain⟨_,_,_,n,_,h1⟩:=(show bz X.prog X.w H s.heap a (.frz ob (.lst xs)) from I.hok a _ ea);exact TC PySem.W.kitx_list I.kIn ⟨_,h1,rfl⟩ e (λz=>nomatch z) h
 | @tup a xs ea=>
  cases (show u=Value.ref a from rx);obtain⟨_,_,_,p,_⟩:=(show bz X.prog X.w H s.heap a (.tup xs) from I.hok a _ ea);obtain⟨o,h1,h2,_⟩:=p;exact TC PySem.W.kitx_tuple I.kIn ⟨o,h1,h2⟩ e (λz=>nomatch z) h
 | @dK a aP ea=>
  cases (show u=Value.ref a from rx);obtain⟨_,_,vs,_,p⟩:=(show bz X.prog X.w H s.heap a (.dK aP) from I.hok a _ ea);obtain⟨o,es,ep,h1,h2,_⟩:=p;exact TC PySem.W.kitx_dict I.kIn ⟨o,h1,h2.1⟩ e (λz=>nomatch z) h
 | @dT a aP ea=>
  cases (show u=Value.ref a from rx);obtain⟨_,_,xs,_,o,es,ep,h1,h2,_⟩:=(show bz X.prog X.w H s.heap a (.dT aP) from I.hok a _ ea);exact TC PySem.W.kitx_dict I.kIn ⟨o,h1,h2.1⟩ e (λz=>nomatch z) h
 | @ins a C dx fs ea cl ha hn htk hm=>
  cases (show u=Value.ref a from rx);obtain⟨mA,O,_⟩:=EL I.hok ea;obtain⟨od,J,_⟩:=O.look;exact TC (PySem.W.kitx_own (cl.get _) cl.hd ha hn htk hm) I.kIn J e (λz=>nomatch z) h
end
end L2
namespace L2
structure dE (k:Nat)(A:S2):Prop where
 hd:A.handled=none
 dp:A.depth+3*k+5<recursionLimit
 un:A.units+16*k+200<Uu
theorem dE.mono {A:S2}(r:dE k A)(h:j<=k):dE j A:=⟨r.hd,by have:=r.dp;lia,by have:=r.un;lia⟩
theorem dE.deeper {A:S2}(r:dE (k+1) A)(env:Env):dE k (A.deeper env):=
 ⟨r.hd,by have:=r.dp;show A.depth+1+3*k+5<_;lia,by have:=r.un;show A.units+3+16*k+200<_;lia⟩
theorem dE.depth {A:S2}(r:dE k A):A.depth<recursionLimit:=by have:=r.dp;lia
theorem dE.units {A:S2}(r:dE k A):A.units+64<Uu:=by have:=r.un;lia
def Om:TA:=λ_ H Q=>Q [] H
def Ln (ta:TE)(tr:TA):TA:=λσ H Q=>ta σ H λx H1=>tr σ H1 λxs H2=>Q (x::xs) H2
section
variable {e:T6}{es:List T6}{t:TA}
theorem j3:PA X [] Om:=λ_ _ _ _ H Q I h=>Calls.spliced_nil ⟨[],H,I,.nil,h⟩
theorem eK (ha:PE X e te)(hr:PA X es t)(hs:Sq (e::es) X.env=(false,VP e X.env)::Sq es X.env:=by rfl):PA X (e::es) (Ln te t):=by
 intro pos pins s σ H Q I h;rw[hs];show Sv _ _ (spliced ((false,VP e X.env)::Ux pos (Sq es X.env))) _ _ s;refine W0 (cM (ha pins s σ H _ I h) λu s1 ⟨x,H1,I1,r1,q1⟩=>?_);exact cM (hr pos pins s1 σ H1 _ I1 q1) λus s2 ⟨xs,H2,I2,r2,q2⟩=>⟨x::xs,H2,I2,.cons r1 r2,q2⟩
def Oo (t:TA):TE:=λσ H Q=>t σ H λxs H1=>xs.length<=R3/\∀p,H1 p=none->Q (.ref p) (cu H1 p (.tup xs))
def Oq (t:TA):TE:=λσ H Q=>t σ H λxs H1=>xs.length<=R3/\∀p,H1 p=none->Q (.ref p) (cu H1 p (.lst xs))
theorem IW {x1}(h:PA X es t):PE X (.Tuple es x1 pos) (Oo t):=by
 intro pins s σ H Q I hq;refine wpAny_Tuple_spliced (cM (h pos pins s σ H _ I hq) λus s1 ⟨xs,H1,I1,r,z,q⟩=>⟨by rw[←r.length];exact z,?_⟩);have hf:H1 s1.heap.objs.size=none:=I1.hok.fresh (Sb _);refine⟨.ref s1.heap.objs.size,cu H1 s1.heap.objs.size (.tup xs),I1.laid (t':=s1.toks) (λb u e=>R4 _ e) (Sb _) ?_,rfl,q _ hf⟩;exact⟨z,us,r,⟨_,R9 _ rfl,rfl,_,rfl⟩,_,R9 _ rfl⟩
theorem IX (h:PA X es t):PE X (.List es pos) (Oq t):=by
 intro pins s σ H Q I hq;refine wpAny_List_spliced (cM (h pos pins s σ H _ I hq) λus s1 ⟨xs,H1,I1,r,z,q⟩=>⟨by rw[←r.length];exact z,?_⟩);have hf:H1 s1.heap.objs.size=none:=I1.hok.fresh (Sb _);refine⟨.ref s1.heap.objs.size,cu H1 s1.heap.objs.size (.lst xs),I1.laid (t':=s1.toks) (λb u e=>R4 _ e) (Sb _) ?_,rfl,q _ hf⟩;exact⟨z,us,0,r,R9 _ rfl⟩
end
abbrev Sp:=List V->Hp->VK->XK->Prop
abbrev CXT:=List Env->Hp->Sk->XK->R6->Sk->Prop
structure Bi (P:UN)(w:Tq)(K:R1)(mg:Str->Option R6)(base:UU)(A:S2)(outer:List Env)(s:Sk)(H:Hp):Prop where
 frames:A.frames=some outer
 mod:Mod K mg base
 bs:∀b o,base.get? b=some o->s.heap.get? b=some o/\H b=none
 bsz:base.objs.size<=s.heap.objs.size
 funs:s.heap.FunFrames base outer
 frf:∀b∈oh outer,H b=none
 hok:gK P w H s.heap
 bare:W9 s.gens
def CE (outer:List Env)(P:UN)(w:Tq)(H:Hp)(s:Sk)(Q:VK)(u:R6)(s':Sk):Prop:=
 ∃v H',s'.os=s.os/\W9 s'.gens/\Un (oh outer) [] H H' s.heap s'.heap/\gK P w H' s'.heap/\aM v u/\Q v H'
def CR (CX:CXT)(outer:List Env)(P:UN)(w:Tq)(H:Hp)(s:Sk)(Q:VK)(E:XK)(r:Result)(s':Sk):Prop:=
 match r with
 | .ok (.ret u)=>CE outer P w H s Q u s'
 | .ok _=>False
 | .error e=>CX outer H s E e s'
structure il (P:UN)(w:Tq)(K:R1)(mg:Str->Option R6)(base:UU)(CX:CXT)(k:Nat)(f:Sr)(fd:Vk)(ps:List Str)(sp:Sp):Prop where
 len:∀vs H Q E,sp vs H Q E->vs.length=ps.length
 run:∀(A:S2) (outer:List Env) (s:Sk) (H:Hp) (args:Args) (us:List R6) (vs:List V) (Q:VK) (E:XK),dE k A->Bi P w K mg base A outer s H->BindsTo s fd args (ps.zip us)->aO vs us->sp vs H Q E->
  codeAny (SN P w) A (.call (.ref f) args) (CR CX outer P w H s Q E) s
theorem il.imp {w:Tq}{base:UU}{CX:CXT}{sp P5:Sp}(F:il P w K mg base CX k f fd ps sp)(h:∀vs H Q E,P5 vs H Q E->sp vs H Q E):il P w K mg base CX k f fd ps P5:=
 ⟨λvs H Q E q=>F.len vs H Q E (h _ _ _ _ q),λA outer s H args us vs Q E hr he hb hv hs=>F.run A outer s H args us vs Q E hr he hb hv (h _ _ _ _ hs)⟩
section
variable {s':Sk}
theorem ay.env0 (I:ay X pins σ H s):Bi X.prog X.w X.K X.mg X.base X.A X.stack s H:=
 ⟨I.ok.frames,I.ok.mod,I.bs,Sz I.ok.bsz I.sz,I.stack,I.stkFree,I.hok,I.bare⟩
theorem ay.after {Q:VK}{u:R6}(I:ay X pins σ H s)(h:CE X.stack X.prog X.w H s Q u s'):EP X pins σ Q u s':=by
 obtain⟨v,H',os,bare,un,hok,r,q⟩:=h;obtain⟨hh,g,d,t,os'⟩:=s';obtain rfl:os'=s.os:=os;exact⟨v,H',I.call (h':=hh) (g':=g) (d':=d) (t':=t) (ch:=[]) un hok bare (λb z=>absurd z (by simp)),r,q⟩
end
def GN (sp:Sp)(Ik:List V)(E:XK)(t:TA):TE:=λσ H Q=>t σ H λvs H1=>sp (vs++Ik) H1 Q E
def kE (K:R1)(fd:Vk)(ps:List Str)(ds:List R6):Prop:=
 ∀(s:Sk) (us:List R6),K.In s.heap->(us++ds).length=ps.length->BindsTo s fd ⟨us,[]⟩ (ps.zip (us++ds))
theorem kE.all (h:∀us:List R6,us.length=ps.length->bindArgs fd ⟨us,[]⟩=pure (ps.zip us)):kE K fd ps []:=λs us _ hl=>by
 rw[Tg] at hl ⊢;exact .of_eq (h us hl)
def wD (CX:CXT)(X:Cx)(E:XK):Prop:=∀(pins:List (Sr×Obj)) (σ:St) (H:Hp) (s:Sk) (e:R6) (s':Sk),ay X pins σ H s->CX X.stack H s E e s'->X.xe e s'
section
variable {CX:CXT}{sp:Sp}{Ik:List V}{ds:List R6}{E:XK}{m:Str}{p cL:Pos}{e o:T6}{es:List T6}{ta:TE}{t:TA}
theorem IY {Q:VK}{us:List R6}(F:il X.prog X.w X.K X.mg X.base CX k f fd ps sp)(hr:dE k X.A)(hb:kE X.K fd ps ds)(hd:aO Ik ds)(hx:wD CX X E)(I:ay X pins σ H s)(r:aO vs us)(h:sp (vs++Ik) H Q E):Sv (SN X.prog X.w) X.A (call (.ref f) us) (EP X pins σ Q) X.xe s:=by
 have r2:aO (vs++Ik) (us++ds):=r.append hd;have hl:(us++ds).length=ps.length:=by rw[←r2.length];exact F.len _ _ _ _ h
 refine wpAny_call (W2 (F.run X.A X.stack s H ⟨us,[]⟩ (us++ds) (vs++Ik) Q E hr I.env0 (hb s us I.kIn hl) r2 h) λr s' hq=>?_);cases r with
 |error e=>exact hx pins σ H s e s' I hq
 |ok fl=>
  cases fl with
  |ret u=>exact I.after hq
  |next=>exact Ui hq
  |brk=>exact Ui hq
  |cont=>exact Ui hq
theorem EM (F:il X.prog X.w X.K X.mg X.base CX k f fd ps sp)(hr:dE k X.A)(hg:Gl X x)(hm:X.mg x=some (.ref f))(hk:T9 X.K (.ref f)=true)(hb:kE X.K fd ps ds)(hd:aO Ik ds)(hx:wD CX X E)
  (ha:PA X (e::es) t) (wa:(x==("__debug__":Str))=false:=by decide) (he:Sq (e::es) X.env=(false,VP e X.env)::Sq es X.env:=by rfl) (oe:(Ux pos (Sq es X.env)).any (·.1)=false:=by rfl) :
  PE X (.Call (.Name x p) (e::es) [] pos) (GN sp Ik E t):=by
 intro pins s σ H Q I h;refine VD (kC I hg hm ?_ wa);refine PySem.W.callWith_K (h₀:=X.base) I.ok.mod.kin hk (cM (ha pos pins s σ H _ I h) λus s1 ⟨vs,H1,I1,r,q⟩=>⟨I1.kIn,?_⟩) he oe;exact IY F hr hb hd hx I1 r q
structure Mk (K:R1)(C f:Sr):Prop where
 makes:PySem.W.makesIn K C=true
 init:Ve K (.ref C) "__init__"=some (some (.ref f))
 fn:PySem.W.isFn K (.ref f)=true
 kp:T9 K (.ref C)=true
end
section
variable {CX:CXT}{ks:List Str}{sp:Sp}{E:XK}{m:Str}{p cL kpos:Pos}{e o:T6}{es:List T6}{kws:List Xa}{ta:TE}{t tk:TA}{nm:Option Str}
structure Ot (K:R1)(fd:Vk)(ps ks:List Str)(g:List R6->List R6->List R6)(gV:List V->List V->List V):Prop where
 to:∀(s:Sk) (us ws:List R6),K.In s.heap->(g us ws).length=ps.length->BindsTo s fd ⟨us,ks.zip ws⟩ (ps.zip (g us ws))
 rel:∀{vs:List V} {us:List R6} {zs:List V} {ws:List R6},aO vs us->aO zs ws->aO (gV vs zs) (g us ws)
variable {g:List R6->List R6->List R6}{gV:List V->List V->List V}
end
structure aQ (N P:List Str)(sc:Scope):Prop where
 kind:sc.kind=.function
 co:sc.isCoroutine=false
 gen:sc.isGenerator=false
 nd:N.Nodup
 pre:N.take P.length=P
 par:∀x∈P,sc.names.lookup x=some .local\/sc.names.lookup x=some .cell
 nofree:∀y∈sc.names,y.2≠.free
theorem qT {U0:Str->Option Xu}{x:Str}:∀{binds:List (Str×R6)} {m:Str->Option R6},(∀v,(x,v)∉binds)->bindL U0 binds m x=m x
 | [],_,_=>rfl
 | (n,v)::r,m,h=>by
  unfold bindL;rw[qT λw hw=>h w (Sn _ hw)];split
  ·have:x≠n:=by rintro rfl;exact h v Sd
   simp[this]
  ·rfl
theorem qU {U0:Str->Option Xu}{x:Str}:∀{binds:List (Str×R6)} {m:Str->Option R6},(∀v,(x,v)∉binds)->bindC U0 binds m x=m x
 | [],_,_=>rfl
 | (n,v)::r,m,h=>by
  unfold bindC;rw[qU λw hw=>h w (Sn _ hw)];split
  ·rfl
  ·have:x≠n:=by rintro rfl;exact h v Sd
   simp[this]
theorem qV {U0:Str->Option Xu}{x:Str}{v:R6}:∀{P:List Str} {vs:List R6} {i:Nat} {m:Str->Option R6},P.Nodup->P[i]? = some x->vs[i]? = some v->U0 x=some .local->
  bindL U0 (P.zip vs) m x=some v
 | [],_,_,_,_,h,_,_=>by simp at h
 |_::_,[],_,_,_,_,h,_=>by simp at h
 |p::P,w::vs,0,m,nd,h1,h2,hk=>by
  simp at h1 h2;subst h1;subst h2;show bindL U0 ((p,w)::P.zip vs) m p=_;unfold bindL;rw[qT λv hv=>(T1.mp nd).1 (List.of_mem_zip hv).1,h9 hk];simp
 |p::P,w::vs,i+1,m,nd,h1,h2,hk=>by
  show bindL U0 ((p,w)::P.zip vs) m x=_;unfold bindL;exact qV (i:=i) (T1.mp nd).2 (by simpa using h1) (by simpa using h2) hk
theorem qW {U0:Str->Option Xu}{x:Str}{v:R6}:∀{P:List Str} {vs:List R6} {i:Nat} {m:Str->Option R6},P.Nodup->P[i]? = some x->vs[i]? = some v->U0 x≠some .local->
  bindC U0 (P.zip vs) m x=some v
 | [],_,_,_,_,h,_,_=>by simp at h
 |_::_,[],_,_,_,_,h,_=>by simp at h
 |p::P,w::vs,0,m,nd,h1,h2,hk=>by
  simp at h1 h2;subst h1;subst h2;show bindC U0 ((p,w)::P.zip vs) m p=_;unfold bindC;rw[qU λv hv=>(T1.mp nd).1 (List.of_mem_zip hv).1,hZ hk];simp
 |p::P,w::vs,i+1,m,nd,h1,h2,hk=>by
  show bindC U0 ((p,w)::P.zip vs) m x=_;unfold bindC;exact qW (i:=i) (T1.mp nd).2 (by simpa using h1) (by simpa using h2) hk
noncomputable def fg (N:List Str)(vs:List V):St:=vs.map some++SE (N.length-vs.length) none
noncomputable def gb (CX:CXT)(P:UN)(w:Tq)(K:R1)(mg:Str->Option R6)(base:UU)(N:List Str)(qual:Str)(scope:Scope)(f:Sr)(cd:R6)(A:S2)(outer:List Env)(s:Sk)(H:Hp)(E:XK):Cx where
 prog:=P
 w:=w
 K:=K
 mg:=mg
 base:=base
 A:=A.deeper (UM qual scope s.heap.objs.size f cd)
 N:=N
 s₀:=s
 H₀:=H
 env:=UM qual scope s.heap.objs.size f cd
 outer:=outer
 stack:=UM qual scope s.heap.objs.size f cd::outer
 ex:=[]
 calm:=true
 fn:=λ_=>true
 pn:=[]
 xe:=λe s'=>Sv (SN P w) (A.deeper (UM qual scope s.heap.objs.size f cd)) (leaving (UM qual scope s.heap.objs.size f cd) e) (λ_ KW=>CX outer H s E e KW) (λe' KW=>CX outer H s E e' KW) s'
theorem ur {sc:Scope}(h:sc.names.lookup x=some .cell):∃c,(cellsFrom n sc.names []).lookup x=some c:=by
 have q:=PySem.W.cellsFrom_some sc.names n [] (.inl h);exact Vt.mp q
theorem zR {CX:CXT}{w:Tq}{base:UU}{cd:R6}{A:S2}{outer:List Env}{s1:Sk}{E:XK}{us:List R6}(S:aQ N ps scope)(hd:A.handled=none)(e0:Bi P w K mg base A outer s H)(hl:vs.length=ps.length)(r:aO vs us)(x:InCallC s s.heap.objs.size (bindL (UM qual scope s.heap.objs.size f cd).kindOf (ps.zip us) λ_=>none) (cellsFrom (s.heap.objs.size+1) scope.names []) (bindC (UM qual scope s.heap.objs.size f cd).kindOf (ps.zip us) λ_=>none) s1) :
  ay (gb CX P w K mg base N qual scope f cd A outer s H E) [] (fg N vs) H s1:=by
 have oe:ps.length<=N.length:=by have:=congrArg List.length S.pre;rw[SF] at this;lia
 obtain⟨h1,tk,rfl,hk⟩:=x.done;have Na:∀b:Sr,b∉(gb CX P w K mg base N qual scope f cd A outer s H E).ex:=λb z=>absurd (show b∈([]:List Sr) from z) (by simp);refine⟨⟨e0.mod,S.kind,rfl,rfl,Sb _,λy z c h1 h2=>?_,λy hy=>?_,λy c _ h=>?_,λ_=>hd,Around.frames_deeper e0.frames,.inr ⟨rfl,rfl⟩,λb z=>absurd z (Na b),e0.bs,e0.bsz,λb _ _=>Na b,λb z=>absurd z (Na b),e0.funs,e0.frf⟩,
  rfl,e0.bare,Un.kept hk,⟨_,x.toInCall.ns,λi y v h1 h2 h3=>?_⟩,λy c h=>⟨_,x.cell y c h⟩,e0.hok.fresh (Sb _),λy c h=>?_,λp hp=>absurd (show p∈([]:List (Sr×Obj)) from hp) (by simp),e0.hok.kept hk,?_⟩
 ·exact name_of_addr x.apart (Td h1) (Td h2)
 ·have hy:scope.names.lookup y=some .cell\/scope.names.lookup y=some .free:=hy;rcases hy with hy|hy
  ·exact ur hy
  ·exact absurd rfl (S.nofree _ (Td hy))
 ·exact WW (x.above y c (Td h))
 ·have hi:i<vs.length:=by
   unfold fg at h2;by_cases hi:i<vs.length
   ·exact hi
   ·rw[WQ (by simpa using hi)] at h2;rw[List.getElem?_replicate] at h2;split at h2<;>cases h2
  have ha:vs[i]? = some v:=by
   unfold fg at h2;rw[Vf (by simpa using hi),R_] at h2;cases e:vs[i]? with
   |none=>rw[e] at h2;cases h2
   |some a=>rw[e] at h2;cases h2;rfl
  obtain⟨u,hu,rv⟩:=r.get ha;have hp:ps[i]? = some y:=by
   rw[←S.pre,List.getElem?_take_of_lt (by lia)];exact h1
  have P6:ps.Nodup:=by rw[←S.pre];exact S.nd.sublist (List.take_sublist _ _)
  refine⟨u,rv,?_⟩;rcases S.par y (Uo hp) with k|k
  ·exact .inl ⟨k,qV P6 hp hu k⟩
  ·obtain⟨c,e⟩:=ur (n:=s.heap.objs.size+1) k;refine .inr ⟨.inl k,c,e,?_⟩;have q:=x.cell y c e;rw[qW P6 hp hu (by show scope.names.lookup y≠_;rw[k];decide)] at q;exact q
 ·exact e0.hok.fresh (WW (x.above y c (Td h)))
 ·unfold fg;show _=N.length;rw[Se,RX,Ua];lia
theorem GO {CX:CXT}{w:Tq}{base:UU}{name:Str}{params:Arguments}{dV kV ku pm bx ct oc:R6}{an od:Option Sr}{GA:Array (Option R6)}{sp:Sp}(lk:K.lookup f=some ⟨oc,od,.func (TU name qual params body scope dV kV ku pm an bx ct),GA⟩)(kr:Xb K bx qual=true)(S:aQ N ps scope)(len:∀vs H Q E,sp vs H Q E->vs.length=ps.length)(eX:∀(A:S2) (outer:List Env) (s:Sk) (H:Hp) (vs:List V) (Q:VK) (E:XK),dE k (A.deeper (UM qual scope s.heap.objs.size f bx))->sp vs H Q E->
   ∃t,qy (gb CX P w K mg base N qual scope f bx A outer s H E) body t/\t {nx:=λ_ H'=>Q .non H',rt:=Q} (fg N vs) H) :
  il P w K mg base CX (k+1) f (TU name qual params body scope dV kV ku pm an bx ct) ps sp:=by
 refine⟨len,λA outer s H args us vs Q E hr e0 hb r Il=>?_⟩;have hl:=len _ _ _ _ Il;have KX:K.In s.heap:=e0.mod.kin.keeps λb o e=>(e0.bs b o e).1;have QH:s.heap.NoLimit:=e0.mod.nolimit.keeps λb o e=>(e0.bs b o e).1;have Nb:∀y∈ps.zip us,scope.names.lookup y.1=some .local\/(scope.names.lookup y.1=some .cell/\((cellsFrom (s.heap.objs.size+1) scope.names []).lookup y.1).isSome=true):=fun⟨n,v⟩ hy=>by
  rcases S.par n (List.of_mem_zip hy).1 with q|q
  ·exact .inl q
  ·exact .inr ⟨q,PySem.W.cellsFrom_some _ _ _ (.inl q)⟩
 refine codeAny_call_function hr.depth (KX _ _ lk) rfl S.co S.gen rfl (PySem.W.codeRec_of KX kr) (hb _ _ _ _ ?_);refine wpAny_newFunctionEnv_cells S.kind Nb λenv he s1 x=>?_;subst he;refine⟨QH.keeps x.toInCall.keep,codeAny_func ?_⟩;obtain⟨t,ht,hq⟩:=eX A outer s H vs Q E (hr.deeper _) Il;have I:ay (gb CX P w K mg base N qual scope f bx A outer s H E) [] (fg N vs) H s1:=zR S hr.hd e0 hl r x;refine S8 (ht [] s1 (fg N vs) H _ I hq) (λfl s' hs=>?_) λe s' hs=>hs;have fin:∀{σ':St} {H':Hp} {v:V} {u:R6},ay (gb CX P w K mg base N qual scope f bx A outer s H E) [] σ' H' s'->aM v u->Q v H'->CE outer P w H s Q u s' :=
  λ{σ' H' v u} J rv q=>⟨v,H',J.os,J.bare,J.base,J.hok,rv,q⟩
 cases fl with
 |ret u=>
  obtain⟨v,σ',H',J,rv,q⟩:=hs;exact fin J rv q
 |next=>
  obtain⟨σ',H',J,q⟩:=hs;exact fin (v:=V.non) (u:=Value.none) J rfl q
 |brk=>
  obtain⟨_,_,_,q⟩:=hs;exact Ui q
 |cont=>
  obtain⟨_,_,_,q⟩:=hs;exact Ui q
end L2
variable {CX:L2.CXT}{sp:L2.Sp}
namespace L2
section
variable {p:Pos}{e:T6}{es:List T6}{t:TA}{id:String}{r:List V->Hp->VK->Prop}
def Ou (r:List V->Hp->VK->Prop)(t:TA):TE:=λσ H Q=>t σ H λvs H1=>r vs H1 Q
theorem ou (hc:dW X (.builtin id) r)(hg:Gl X x)(hm:X.mg x=none)(hv:S0 x=some (.builtin id))(ha:PA X (e::es) t)(hn:x≠"__name__":=by decide)(wa:(x==("__debug__":Str))=false:=by decide)
  (he:Sq (e::es) X.env=(false,VP e X.env)::Sq es X.env:=by rfl) (oe:(Ux pos (Sq es X.env)).any (·.1)=false:=by rfl):PE X (.Call (.Name x p) (e::es) [] pos) (Ou r t):=by
 intro pins s σ H Q I h;refine VD (sr I hg hm hv ?_ hn wa);exact PyProof.Rows.callWith_builtin1 (cM (ha pos pins s σ H _ I h) λus s1 ⟨vs,H1,I1,r1,q1⟩=>hc pins s1 σ H1 vs us Q I1 r1 q1) he oe
theorem gL (hc:dW X (.type T) r)(hg:Gl X x)(hm:X.mg x=none)(hv:S0 x=some (.type T))(ha:PA X (e::es) t)(hn:x≠"__name__":=by decide)(wa:(x==("__debug__":Str))=false:=by decide)
  (he:Sq (e::es) X.env=(false,VP e X.env)::Sq es X.env:=by rfl) (oe:(Ux pos (Sq es X.env)).any (·.1)=false:=by rfl):PE X (.Call (.Name x p) (e::es) [] pos) (Ou r t):=by
 intro pins s σ H Q I h;refine VD (sr I hg hm hv ?_ hn wa);exact WC (cM (ha pos pins s σ H _ I h) λus s1 ⟨vs,H1,I1,r1,q1⟩=>hc pins s1 σ H1 vs us Q I1 r1 q1) he oe
end
end L2
namespace HT
section
variable {w:Tq}{A:S2}
theorem cat_tup {t:Sr}{vs ws:List R6}(ht:IsTup s.heap t vs.toArray)(hb:IsTup s.heap b ws.toArray)(hv:vs≠[])(h1:ws=[]->Q (.ref t) s)(h2:ws≠[]->Q (.ref s.heap.objs.size) {s with heap:=s.heap.push {cls:=.type "tuple",data:=.seq (vs++ws).toArray}})(hsz:vs.length+ws.length<=R3):Sv (SN prog w) A (U7 .Add (.ref t) (.ref b)) Q E s:=by
 obtain⟨⟨cls,dd,data,sl⟩,ho,hc,n,hd⟩:=id ht;obtain⟨⟨cls2,dd2,data2,sl2⟩,ho2,hc2,n2,hd2⟩:=id hb;simp only at hc hd hc2 hd2;subst hc hd hc2 hd2;have e:vs.toArray++ws.toArray=(vs++ws).toArray:=by simp
 by_cases hw:ws=[]
 ·exact concat_meets ⟨_,ho,rfl⟩ ⟨_,ho2,rfl⟩ noFill_tuple_add seq_tuple_add VS VE (Vu _ _)
   (tuple_addW1 t b vs.toArray ws.toArray n n2 dd dd2 sl sl2 (by simpa using hv) (by simp[hw])) ⟨ho,ho2,h1 hw⟩
 ·refine concat_meets ⟨_,ho,rfl⟩ ⟨_,ho2,rfl⟩ noFill_tuple_add seq_tuple_add VS VE (Vu _ _)
   (tuple_addW2 t b vs.toArray ws.toArray n n2 dd dd2 sl sl2 (by simpa using hv) (by simpa using hw) (by rw[R7,R7];exact hsz)) ⟨ho,ho2,?_⟩
  rw[e];exact h2 hw
noncomputable def sIx (n d:Nat):Option Int->Nat
 |none=>d
 |some v=>if v<0 then (v+(n:Int)).toNat else min v.toNat n
theorem sIx_none (n d:Nat):sIx n d none=d:=rfl
theorem sIx_nat (n d k:Nat):sIx n d (some (k:Int))=min k n:=by
 show (if (k:Int)<0 then ((k:Int)+(n:Int)).toNat else min (k:Int).toNat n)=min k n;rw[hZ (by lia),SO]
theorem IZ (n d:Nat)(hd:d<=n)(o:Option Int):sIx n d o<=n:=by
 cases o with
 |none=>exact hd
 |some v=>
  show (if v<0 then (v+(n:Int)).toNat else min v.toNat n)<=n;by_cases hv:v<0
  ·rw[h9 hv];lia
  ·rw[hZ hv];exact Nat.min_le_right _ _
theorem yc (v:Int)(n d:Nat):(if v<0 then max (v+(n:Int)) 0 else min v (n:Int))=((sIx n d (some v):Nat):Int):=by
 show (if v<0 then max (v+(n:Int)) 0 else min v (n:Int))=(((if v<0 then (v+(n:Int)).toNat else min v.toNat n):Nat):Int);by_cases hv:v<0
 ·simp only[h9 hv];lia
 ·simp only[hZ hv];lia
theorem wF (lo hi:Option Int)(n:Nat):Vg lo hi 1 (n:Int)=(((sIx n 0 lo:Nat):Int),((sIx n n hi:Nat):Int)):=by
 have h1:¬((1:Int)<0):=by lia
 unfold Vg;simp only[h1,if_false];refine Prod.ext ?_ ?_
 ·cases lo with
  |none=>rfl
  |some v=>exact yc v n 0
 ·cases hi with
  |none=>rfl
  |some v=>exact yc v n n
theorem wG (i j:Nat):UA (i:Int) (j:Int) 1=j-i:=by
 unfold UA;have h1:(1:Int)>0:=by lia
 simp only[h1,if_true,Int.ediv_one];split<;>lia
theorem ow {v:R6}{o:Option Int}{Q:Option Int->Sk->Prop}(p:IsPart v o)(h:Q o s):Sv (SN prog w) A (Builtin.Slice.slicePartIndex v) Q E s:=by
 cases p with
 |none=>exact slicePart_none h
 |int i t=>exact slicePart_int h
theorem gN {sl:Sr}{vl vu:R6}{lo:Option Int}{Q:Int×Int×Nat->Sk->Prop}(hs:s.heap.IsSliceOf sl vl vu .none)(pl:IsPart vl lo)(pu:IsPart vu hi)(h:Q (((sIx n 0 lo:Nat):Int),1,sIx n n hi-sIx n 0 lo) s):Sv (SN prog w) A (WR (.ref sl) (pure (n:Int))) Q E s:=by
 obtain⟨os,Et,hcs,hds⟩:=id hs;unfold WR Builtin.Slice.sliceFields;refine RW (RW (Vp Et hds (x:=vl) rfl (RW (Vp Et hds (x:=vu) rfl (RW (Vp Et hds (x:=.none) rfl (RZ ?_)))))));refine RW (slicePart_none ?_);show Sv _ _ (if ((1:Int)==0)=true then _ else _) _ _ s;rw[hZ (by decide)];refine RW (ow pl (RW (ow pu (RW (RZ ?_)))));show Sv _ _ (match Vg lo hi 1 (n:Int) with|(lo,hi)=>pure (lo,(1:Int),UA lo hi 1)) _ _ s;rw[wF lo hi n];show Sv _ _ (pure (((sIx n 0 lo:Nat):Int),(1:Int),UA ((sIx n 0 lo:Nat):Int) ((sIx n n hi:Nat):Int) 1)) _ _ s;rw[wG];exact RZ h
theorem Bj (xs:Array R6)(i k:Nat):((SX k).filterMap λ(m:Nat)=>xs[((i:Int)+(m:Int)*1).toNat]?).toArray=((xs.toList.drop i).take k).toArray:=by
 have e:(λ(m:Nat)=>xs[((i:Int)+(m:Int)*1).toNat]?)=λm=>xs[i+m]? := by
  funext m;have:((i:Int)+(m:Int)*1).toNat=i+m:=by lia
  rw[this]
 rw[e];have:=pick_run xs i k;rw[List.filterMap_map] at this;have e2:((λx=>xs[x]?)∘λx=>i+x)=λm=>xs[i+m]? := rfl;rw[e2] at this;rw[this]
theorem getItem_tuple_cut {t sl:Sr}{vl vu:R6}{lo:Option Int}(ht:IsTup s.heap t items)(hs:s.heap.IsSliceOf sl vl vu .none)(pl:IsPart vl lo)(pu:IsPart vu hi)(hw:¬(sIx items.size 0 lo=0/\sIx items.size items.size hi=items.size))(h:Q (.ref s.heap.objs.size) {s with heap:=s.heap.push {cls:=.type "tuple",data:=.seq ((items.toList.drop (sIx items.size 0 lo)).take (sIx items.size items.size hi-sIx items.size 0 lo)).toArray}})(hsz:items.size<=R3):Sv (SN prog w) A (WD (.ref t) (.ref sl)) Q E s:=by
 have zC:sizeOk (.seq ((items.toList.drop (sIx items.size 0 lo)).take (sIx items.size items.size hi-sIx items.size 0 lo)).toArray):=by
  show ((items.toList.drop (sIx items.size 0 lo)).take (sIx items.size items.size hi-sIx items.size 0 lo)).toArray.size<=R3;rw[R7,SF,TN,SM];lia
 have hj:sIx items.size items.size hi<=items.size:=IZ _ _ (Sb _) hi;obtain⟨os,Et,hcs,hds⟩:=id hs;have O2:s.TypeIs (.ref sl) "slice":=⟨os,Et,hcs⟩;unfold WD
 try with_reducible refine S7 ?_
 first|refine RW (RZ ?_)|skip
 refine RW (wpAny_sequenceKey ht.typeIs (by decide) ?_);refine RW (Te (name:=Us "__getitem__") ht.typeIs T8
  (SI T8 ht.typeIs entry_tuple_getitem ?_ (args_tuple_getitem _ _)))
 show Sv _ _ (Va (.ref t) >>= _) _ _ s;refine RW (tupleItemsOf_ ht ?_);refine RW (wpAny_typeOf O2 ?_);rw[h9 (by decide)];refine RW (gN hs pl pu ?_);have QI:¬((((sIx items.size 0 lo:Nat):Int)==0&&(1:Int)==1&&(sIx items.size items.size hi-sIx items.size 0 lo)==items.size)=true):=by
  intro q;rw[Sa,Sa] at q;have q1:((sIx items.size 0 lo:Nat):Int)=0:=eq_of_beq q.1.1;have q2:sIx items.size items.size hi-sIx items.size 0 lo=items.size:=eq_of_beq q.2;exact hw ⟨by lia,by lia⟩
 show Sv _ _ (if (((sIx items.size 0 lo:Nat):Int)==0&&(1:Int)==1&&(sIx items.size items.size hi-sIx items.size 0 lo)==items.size)=true then _ else _) _ _ s;rw[hZ QI,Bj]
 first
  |exact RW (m:=TV _) (SG (RZ ⟨_,rfl,RZ h⟩) zC)
  |exact RW (m:=TV _) (SG (RW (RZ (RZ ⟨_,rfl,RZ h⟩))) zC)
  |exact RW (RW (m:=TV _) (SG (RZ (RZ ⟨_,rfl,RZ h⟩)) zC))
  |exact RW (RW (m:=TV _) (SG (RZ ⟨_,rfl,RZ h⟩) zC))
end
end HT
namespace L2
abbrev TO:=St->Hp->(Option Int->Hp->Prop)->Prop
def PO (X:Cx)(e:Option T6)(t:TO):Prop:=
 ∀(pins:List (Sr×Obj)) (s:Sk) (σ:St) (H:Hp) (Q:Option Int->Hp->Prop),ay X pins σ H s->t σ H Q->
  Sv (SN X.prog X.w) X.A (evalPart e X.env) (λu s'=>∃o H',ay X pins σ H' s'/\IsPart u o/\Q o H') X.xe s
def EN:TO:=λ_ H Q=>Q none H
def Lo (t:TE):TO:=λσ H Q=>t σ H λx H1=>∃i,x=.int i/\Q (some i) H1
theorem j4:∀{us:List R6},aO (ns.map V.int) us->WE us ns:=by
 induction ns with
 |nil=>intro us r;rw[Tb] at r;cases r;exact .nil
 |cons n ns ih=>
  intro us r;rw[RY] at r;cases r with
  |cons r1 r2=>
   obtain⟨t,e⟩:=r1;subst e;exact .cons n t (ih r2)
section
variable {e:T6}{lo hi:Option T6}{tl th:TO}
theorem EO:PO X none EN:=by
 intro pins s σ H Q I h;rw[evalPart_none];exact RZ ⟨none,H,I,.none,h⟩
theorem ER (h:PE X e te):PO X (some e) (Lo te):=by
 intro pins s σ H Q I hw;rw[evalPart_some];refine cM (h pins s σ H _ I hw) λu s1 ⟨x,H1,I1,r1,q1⟩=>?_;obtain⟨i,rfl,q⟩:=q1;obtain⟨t,rfl⟩:=r1;exact⟨some i,H1,I1,.int i t,q⟩
def Bk (X:Cx)(r:V->Option Int->Option Int->Hp->VK->Prop):Prop:=
 ∀(pins:List (Sr×Obj)) (s:Sk) (σ:St) (H:Hp) (x:V) (v vl vu:R6) (lo hi:Option Int) (sl:Sr) (Q:VK),ay X pins σ H s->aM x v->s.heap.IsSliceOf sl vl vu .none->IsPart vl lo->IsPart vu hi->r x lo hi H Q->
  ∃T id,typeLookup (.type T) "__getitem__"=pure (some (.builtin id))/\s.TypeIs v T/\Sv (SN X.prog X.w) X.A (WD v (.ref sl)) (EP X pins σ Q) X.xe s
theorem Bk.or {r r':V->Option Int->Option Int->Hp->VK->Prop}(h:Bk X r)(h':Bk X r'):Bk X (λx lo hi H Q=>r x lo hi H Q\/r' x lo hi H Q):=by
 intro pins s σ H x v vl vu lo hi sl Q I rx hs pl pu q;rcases q with q|q
 ·exact h pins s σ H x v vl vu lo hi sl Q I rx hs pl pu q
 ·exact h' pins s σ H x v vl vu lo hi sl Q I rx hs pl pu q
def Qu (r:V->Option Int->Option Int->Hp->VK->Prop)(te:TE)(tl th:TO):TE:=λσ H Q=>te σ H λx H1=>tl σ H1 λl H2=>th σ H2 λu H3=>r x l u H3 Q
theorem Bl {r:V->Option Int->Option Int->Hp->VK->Prop}(hr:Bk X r)(he:PE X e te)(hl:PO X lo tl)(hu:PO X hi th):PE X (.Subscript e (.Slice lo hi none p2) pos) (Qu r te tl th):=by
 intro pins s σ H Q I h;refine Subscript_ (cM (he pins s σ H _ I h) λv s1 ⟨x,H1,I1,r1,q1⟩=>?_);refine wpAny_Slice (cM (hl pins s1 σ H1 _ I1 q1) λvl s2 ⟨l,H2,I2,pl,q2⟩=>cM (hu pins s2 σ H2 _ I2 q2) λvu s3 ⟨u,H3,I3,pu,q3⟩=>?_);rw[evalPart_none];refine RZ ?_;have I4:ay X pins σ H3 {s3 with heap:=s3.heap.push {cls:=.type "slice",data:=.fields #[vl,vu,.none]}}:=I3.kept (t':=s3.toks) λb ob q=>R4 _ q;obtain⟨T,id,hT,ht,hg⟩:=hr pins {s3 with heap:=s3.heap.push {cls:=.type "slice",data:=.fields #[vl,vu,.none]}} σ H3 x v vl vu l u s3.heap.objs.size Q I4 r1 (Heap.IsSliceOf.new ..) pl pu q3;show Sv (SN X.prog X.w) X.A (subscriptTail e (.Slice lo hi none p2) v (.ref s3.heap.objs.size)) (EP X pins σ Q) X.xe {s3 with heap:=s3.heap.push {cls:=.type "slice",data:=.fields #[vl,vu,.none]}};exact tail_any (ops:=[.ref s3.heap.objs.size,v]) ht hT hg (by with_unfolding_all rfl)
noncomputable def oy (xs:List V)(lo hi:Option Int):List V:=(xs.drop (HT.sIx xs.length 0 lo)).take (HT.sIx xs.length xs.length hi-HT.sIx xs.length 0 lo)
theorem mH (xs:List V)(lo hi:Option Int):(oy xs lo hi).length<=xs.length:=by
 unfold oy;rw[SF,TN];lia
def Lp (K:R1):V->Option Int->Option Int->Hp->VK->Prop:=λx lo hi H Q=>∃a xs,x=.ref a/\fF K H a xs/\
 ¬(HT.sIx xs.length 0 lo=0/\HT.sIx xs.length xs.length hi=xs.length)/\∀p,H p=none->Q (.ref p) (cu H p (.tup (oy xs lo hi)))
theorem I_:Bk X (Lp X.K):=by
 intro pins s σ H x v vl vu lo hi sl Q I rx hs pl pu h;obtain⟨a,xs,rfl,hx,hw,q⟩:=h;cases rx;obtain⟨ax,r,ht,hz⟩:=I.tuple hx;have fT:ax.toArray.size=xs.length:=by rw[R7];exact r.length.symm
 refine⟨"tuple",_,PyProof.Rows.slot_tuple_getitem.lookup,ht.typeIs,?_⟩;refine HT.getItem_tuple_cut ht hs pl pu (by rw[fT];exact hw) ?_ (by rw[fT];exact hz);rw[fT];refine⟨.ref s.heap.objs.size,_,I.laid (t':=s.toks) (o:=.tup (oy xs lo hi)) (λb ob q=>R4 _ q) (Sb _) ?_,rfl,q _ (I.hok.fresh (Sb _))⟩;exact⟨Sz (mH xs lo hi) hz,_,(r.drop (HT.sIx xs.length 0 lo)).take (HT.sIx xs.length xs.length hi-HT.sIx xs.length 0 lo),IsTup.new _ _,_,R9 _ rfl⟩
def Lq (K:R1):R2:=λx y H Q=>∃a b xs ys,x=.ref a/\y=.ref b/\fF K H a xs/\fF K H b ys/\xs≠[]/\xs.length+ys.length<=R3/\
 (ys=[]->Q (.ref a) H)/\(ys≠[]->∀p,H p=none->Q (.ref p) (cu H p (.tup (xs++ys))))
theorem aO.nil_iff {us:List R6}(r:aO xs us):us=[]↔xs=[]:=by
 cases r with
 |nil=>simp
 |cons _ _=>simp
theorem ES:ig X (U7 .Add) (Lq X.K):=by
 intro pins s σ H x y v u Q I rx ry h;obtain⟨a,b,xs,ys,rfl,rfl,ha,hb,hx,hz,q1,q2⟩:=h;cases rx;cases ry;obtain⟨ax,r1,p1,_⟩:=I.tuple ha;obtain⟨its2,r2,p2,_⟩:=I.tuple hb;refine HT.cat_tup p1 p2 (λz=>hx (r1.nil_iff.mp z)) (λz=>⟨.ref a,H,I,rfl,q1 (r2.nil_iff.mp z)⟩) (λz=>?_) (by rw[←r1.length,←r2.length];exact hz);refine⟨.ref s.heap.objs.size,_,I.laid (t':=s.toks) (o:=.tup (xs++ys)) (λb ob q=>R4 _ q) (Sb _) ?_,rfl,q2 (λw=>z (r2.nil_iff.mpr w)) _ (I.hok.fresh (Sb _))⟩;exact⟨by rw[Se];exact hz,_,r1.append r2,IsTup.new _ _,_,R9 _ rfl⟩
end
end L2
namespace L2
noncomputable def AS (n:Nat)(i:Int):Option Nat:=if 0<=i then (if i<n then some i.toNat else none) else if -(n:Int)<=i then some (i+n).toNat else none
noncomputable def kF {α:Type}(xs:List α)(i:Int):Option α:=(AS xs.length i).bind λj=>xs[j]?
theorem yd {i:Int}(h:AS n i=some j):Xl i n=some j/\j<n/\ -(n:Int)<=i/\i<n:=by
 unfold AS at h;by_cases h0:0<=i
 ·rw[h9 h0] at h;by_cases h1:i<n
  ·rw[h9 h1] at h;have e:i.toNat=j:=SH h;exact⟨by rw[seqIndex_of h0 h1,e],by lia,by lia,h1⟩
  ·rw[hZ h1] at h;cases h
 ·rw[hZ h0] at h;by_cases h1 : -(n:Int)<=i
  ·rw[h9 h1] at h;have e:(i+n).toNat=j:=SH h;exact⟨by rw[seqIndex_neg (by lia) h1,e],by lia,h1,by lia⟩
  ·rw[hZ h1] at h;cases h
theorem sy {α:Type}{xs:List α}{i:Int}{v:α}(h:kF xs i=some v):∃j,Xl i xs.length=some j/\xs[j]? = some v/\j<xs.length/\ -(xs.length:Int)<=i/\i<xs.length:=by
 unfold kF at h;cases e:AS xs.length i with
 |none=>rw[e] at h;cases h
 |some j=>
  rw[e] at h;obtain⟨h1,h2,h3,h4⟩:=yd e;exact⟨j,h1,h,h2,h3,h4⟩
def ye (b:T6):Prop:=∀o i,subscripted b false o i=operate [o,i] (WD o i)
def Em (X:Cx)(r:R2):Prop:=
 ∀(value slice:T6) (pins:List (Sr×Obj)) (s:Sk) (σ:St) (H:Hp) (x y:V) (v u:R6) (Q:VK),ay X pins σ H s->aM x v->aM y u->r x y H Q->
  subscripted slice false v u=operate [v,u] (WD v u)->Sv (SN X.prog X.w) X.A (subscriptTail value slice v u) (EP X pins σ Q) X.xe s
def GP (X:Cx)(id:String)(r:V->List V->Hp->VK->Prop):Prop:=
 ∀(pins:List (Sr×Obj)) (s:Sk) (σ:St) (H:Hp) (x:V) (xs:List V) (v:R6) (us:List R6) (Q:VK),ay X pins σ H s->aM x v->aO xs us->r x xs H Q->
  Sv (SN X.prog X.w) X.A (call (.builtin id) (v::us)) (EP X pins σ Q) X.xe s
section
variable {a b:T6}{ta tb:TE}
theorem Em.or (h:Em X r)(h':Em X r'):Em X (λx y H Q=>r x y H Q\/r' x y H Q):=by
 intro value slice pins s σ H x y v u Q I rx ry q hs;rcases q with q|q
 ·exact h value slice pins s σ H x y v u Q I rx ry q hs
 ·exact h' value slice pins s σ H x y v u Q I rx ry q hs
theorem GP.or {id:String}{r r':V->List V->Hp->VK->Prop}(h:GP X id r)(h':GP X id r'):GP X id (λx xs H Q=>r x xs H Q\/r' x xs H Q):=by
 intro pins s σ H x xs v us Q I rx rs q;rcases q with q|q
 ·exact h pins s σ H x xs v us Q I rx rs q
 ·exact h' pins s σ H x xs v us Q I rx rs q
theorem Lr (hr:Em X r)(ha:PE X a ta)(hb:PE X b tb)(hs:ye b):PE X (.Subscript a b pos) (Le r ta tb):=by
 intro pins s σ H Q I h;exact Subscript_ (IQ ha hb I h λv u s2 x y H2 I2 rx ry q=>hr a b pins s2 σ H2 x y v u Q I2 rx ry q (hs _ _))
def Ls (K:R1):R2:=λx y H Q=>∃p xs i v,x=.ref p/\y=.int i/\eN K H p xs/\kF xs i=some v/\Q v H
def Lu (K:R1):R2:=λx y H Q=>∃p xs i v,x=.ref p/\y=.int i/\fF K H p xs/\kF xs i=some v/\Q v H
def Lv:R2:=λx y H Q=>∃z i c,x=.str z/\y=.int i/\z.length<=R3/\kF z.cps.toList i=some c/\Q (.str ⟨#[c]⟩) H
theorem ET:Em X (Ls X.K):=by
 intro value slice pins s σ H x y v u Q I rx ry h hs;obtain⟨p,xs,i,z,rfl,rfl,hq,he,q⟩:=h;cases rx;obtain⟨t,rfl⟩:=ry;obtain⟨ax,r,pl,hz⟩:=I.list hq;obtain⟨j,h1,h2,h3,h4,h5⟩:=sy he;obtain⟨w,ew,xS⟩:=r.get h2;have hl:=r.length;have hn:=ot;have fin:EP X pins σ Q w s:=⟨z,H,I,xS,q⟩;by_cases h0:0<=i
 ·have hj:i.toNat=j:=by
   rw[seqIndex_of h0 h5] at h1;exact SH h1
  exact item_listR pl.isList h0 (by lia) (by rw[hj];simpa using ew) fin hs
 ·have hj:(i+(ax.toArray.size:Int)).toNat=j:=by
   rw[seqIndex_neg (by lia) h4] at h1;rw[R7,←hl];exact SH h1
  exact subscriptTail_builtinR (x:=w) pl.isList.typeIs slot_list_getitem.lookup
   (wpAny_getItem_list_neg (Q:=λr s'=>r=w/\EP X pins σ Q r s') pl.isList (by lia) (by rw[R7]<;>lia) (by lia) (by rw[hj];simpa using ew) ⟨rfl,fin⟩) hs
theorem Ja:Em X (Lu X.K):=by
 intro value slice pins s σ H x y v u Q I rx ry h hs;obtain⟨p,xs,i,z,rfl,rfl,hq,he,q⟩:=h;cases rx;obtain⟨t,rfl⟩:=ry;obtain⟨ax,r,pl,hz⟩:=I.tuple hq;obtain⟨j,h1,h2,h3,h4,h5⟩:=sy he;obtain⟨w,ew,xS⟩:=r.get h2;have hl:=r.length;have hn:=ot;have fin:EP X pins σ Q w s:=⟨z,H,I,xS,q⟩;exact subscriptTail_builtinR (x:=w) pl.typeIs slot_tuple_getitem.lookup
  (getItem_tuple (j:=j) (Q:=λr s'=>r=w/\EP X pins σ Q r s') pl (by lia) (by lia) (by rw[R7,←hl];exact h1) (by simpa using ew) ⟨rfl,fin⟩) hs
theorem Jb:Em X Lv:=by
 intro value slice pins s σ H x y v u Q I rx ry h hs;obtain⟨z,i,c,rfl,rfl,hz,he,q⟩:=h;obtain⟨t,rfl⟩:=rx;obtain⟨t',rfl⟩:=ry;obtain⟨j,h1,h2,h3,h4,h5⟩:=sy he;have hl:z.cps.toList.length=z.length:=by simp[Str.length]
 rw[hl] at h1 h4 h5;have hn:=ot;exact tail_any (typeIs_str s z t) slot_str_getitem.lookup (getItem_str (c:=c) (by
  have e1:decide (i < -(2 ^ 63:Int))=false:=hV (by lia);have e2:decide (i≥2 ^ 63)=false:=hV (by lia);rw[e1,e2,Bool.or_false]) (by rw[h1];simpa using h2) ⟨.str ⟨#[c]⟩,H,I.tok _,⟨_,rfl⟩,q⟩) hs
def Pw (K:R1):R2:=λx y H Q=>Ls K x y H Q\/Lu K x y H Q\/Lv x y H Q
theorem dF:Em X (Pw X.K):=ET.or (Ja.or Jb)
theorem wH (ax:List R6)(n j:Nat)(u:R6):U8 (·.setIfInBounds j u) {cls:=.type "list",data:=.seq ax.toArray n}={cls:=.type "list",data:=.seq (ax.set j u).toArray n}:=by
 simp[U8]
theorem ay.lst {p:Sr}(I:ay X pins σ H s)(h:H p=some (.lst xs)) :
  ∃(ax:List R6) (n:Nat),aO xs ax/\s.heap.get? p=some {cls:=.type "list",data:=.seq ax.toArray n}/\xs.length<=R3:=by
 obtain⟨z,ax,n,r,e⟩:=I.hok p _ h;exact⟨ax,n,r,e,z⟩
theorem ay.lstUpd {p:Sr}{ys:List V}{its':List R6}{n':Nat}{f:Obj->Obj}(I:ay X pins σ H s)(h:H p=some (.lst xs))(ho:s.heap.get? p=some {cls:=.type "list",data:=.seq ax.toArray n})(hf:f {cls:=.type "list",data:=.seq ax.toArray n}={cls:=.type "list",data:=.seq its'.toArray n'})(r:aO ys its')(hz:ys.length<=R3)(t:Nat) :
  ay X pins σ (cu H p (.lst ys)) {s with heap:=s.heap.update p f,toks:=t}:=by
 have e:(s.heap.update p f).get? p=some {cls:=.type "list",data:=.seq its'.toArray n'}:=by
  rw[Wd f ho (by rw[hf]<;>rfl),hf]
 refine I.write (x:=p) (e:=p) (by rw[h];trivial) (.inl rfl) (λb u hb q=>(Heap.get?_update_other _ _ (Ne.symm hb)).trans q) ⟨_,e⟩ ?_;exact⟨hz,its',n',r,e⟩
def Lw:V->V->V->Hp->(Hp->Prop)->Prop:=λo i v H Q=>∃p xs k j,o=.ref p/\i=.int k/\H p=some (.lst xs)/\AS xs.length k=some j/\Q (cu H p (.lst (xs.set j v)))
theorem Bm:La X Lw:=by
 intro pins s σ H o i v ov iv u Q I ro ri rv h;obtain⟨p,xs,k,j,rfl,rfl,hp,hj,q⟩:=h;cases ro;obtain⟨t,rfl⟩:=ri;obtain⟨ax,n,r,ho,hz⟩:=I.lst hp;obtain⟨h1,h2,h3,h4⟩:=yd hj;have hl:=r.length;have hn:=ot;have I':ay X pins σ (cu H p (.lst (xs.set j v))) {s with heap:=s.heap.update p (U8 (·.setIfInBounds j u))}:=
  I.lstUpd hp ho (wH ax n j u) (r.set rv j) (by rw[Tu];exact hz) s.toks
 by_cases h0:0<=k
 ·have hk:k.toNat=j:=by
   rw[seqIndex_of h0 h4] at h1;exact SH h1
  exact PySem.W.ki_setAt ho h0 (by lia) (by rw[R7,←hl];exact h4) (by rw[hk];exact⟨_,I',q⟩)
 ·have hk:(k+(ax.toArray.size:Int)).toNat=j:=by
   rw[seqIndex_neg (by lia) h3] at h1;rw[R7,←hl];exact SH h1
  exact PySem.W.ki_setBack ho (by lia) (by rw[R7,←hl];exact h3) (by lia) (by rw[hk];exact⟨_,I',q⟩)
theorem sA (lo hi:Option Int)(n:Nat):(VZ lo hi none n).1=((HT.sIx n 0 lo:Nat):Int)/\(VZ lo hi none n).2.1=((HT.sIx n n hi:Nat):Int)/\(VZ lo hi none n).2.2=1:=by
 refine⟨?_,?_,rfl⟩
 ·cases lo with
  |none=>simp[VZ,HT.sIx]
  |some i=>
   simp only[VZ,HT.sIx,Wm,show (1:Int)>0 by decide,if_true];by_cases h:i<0
   ·simp only[h,if_true]<;>lia
   ·simp only[h,if_false]<;>lia
 ·cases hi with
  |none=>simp[VZ,HT.sIx]
  |some i=>
   simp only[VZ,HT.sIx,Wm,show (1:Int)>0 by decide,if_true];by_cases h:i<0
   ·simp only[h,if_true]<;>lia
   ·simp only[h,if_false]<;>lia
theorem qz (ax:List R6)(lo hi:Option Int):slicePick ax.toArray lo hi none=((ax.drop (HT.sIx ax.length 0 lo)).take (HT.sIx ax.length ax.length hi-HT.sIx ax.length 0 lo)).toArray:=by
 obtain⟨h1,h2,h3⟩:=sA lo hi ax.toArray.size;unfold slicePick;rw[h1,h2,h3];simp only[sliceRange_one,pick_run,R7]<;>rfl
def EU (K:R1):V->Option Int->Option Int->Hp->VK->Prop:=λx lo hi H Q=>∃a xs,x=.ref a/\eN K H a xs/\∀p,H p=none->Q (.ref p) (cu H p (.lst (oy xs lo hi)))
theorem EV:Bk X (EU X.K):=by
 intro pins s σ H x v vl vu lo hi sl Q I rx hs pl pu h;obtain⟨a,xs,rfl,hx,q⟩:=h;cases rx;obtain⟨ax,r,ht,hz⟩:=I.list hx;have fT:=r.length;refine⟨"list",_,slot_list_getitem.lookup,ht.isList.typeIs,?_⟩;refine wpAny_getItem_list_slice ht.isList hs pl pu .none (by simp) ?_ (by rw[R7]<;>lia);rw[qz,←fT];refine⟨.ref s.heap.objs.size,_,I.laid (t':=s.toks) (o:=.lst (oy xs lo hi)) (λb ob q=>R4 _ q) (Sb _) ?_,rfl,q _ (I.hok.fresh (Sb _))⟩;exact⟨Sz (mH xs lo hi) hz,_,0,(r.drop (HT.sIx xs.length 0 lo)).take (HT.sIx xs.length xs.length hi-HT.sIx xs.length 0 lo),R9 _ rfl⟩
theorem sC:dW X (.type "list") (λxs H Q=>∃p ys,xs=[.ref p]/\(eN X.K H p ys\/fF X.K H p ys)/\∀l,H l=none->Q (.ref l) (cu H l (.lst ys))):=by
 intro pins s σ H xs us Q I r h;obtain⟨p,ys,rfl,hq,q⟩:=h;obtain⟨u,rfl,rx⟩:=iX r;cases rx;have fin:∀(ax:List R6),aO ys ax->ys.length<=R3->∀(h':UU) (c':Nat),(∀b o',s.heap.get? b=some o'->h'.get? b=some o')->
   h'.get? s.heap.objs.size=some {cls:=.type "list",dict:=none,data:=.seq ax.toArray c',slots:=#[]}->EP X pins σ Q (.ref s.heap.objs.size) {s with heap:=h'}:=λax r' hz h' c' kp e=>
  ⟨.ref s.heap.objs.size,_,I.laid (t':=s.toks) kp (Sb _) (show bz X.prog X.w _ h' _ (.lst ys) from ⟨hz,ax,c',r',e⟩),rfl,q _ (I.hok.fresh (Sb _))⟩
 rcases hq with hq|hq
 ·obtain⟨ax,r',pl,hz⟩:=I.list hq;have fT:=r'.length;obtain⟨o,ho,hc,n,hd⟩:=pl.isList;exact call_list_seq p (.inl rfl) ho hc hd (λh' c' kp e=>fin ax r' hz h' c' kp e) (by simp only[R7]<;>lia)
 ·obtain⟨ax,r',pl,hz⟩:=I.tuple hq;have fT:=r'.length;obtain⟨o,ho,hc,n,hd⟩:=pl;exact call_list_seq p (.inr rfl) ho hc hd (λh' c' kp e=>fin ax r' hz h' c' kp e) (by simp only[R7]<;>lia)
theorem bu:dW X (.type "tuple") (λxs H Q=>∃p ys,xs=[.ref p]/\((eN X.K H p ys/\∀l,H l=none->Q (.ref l) (cu H l (.tup ys)))\/(fF X.K H p ys/\Q (.ref p) H))):=by
 intro pins s σ H xs us Q I r h;obtain⟨p,ys,rfl,h⟩:=h;obtain⟨u,rfl,rx⟩:=iX r;cases rx;rcases h with⟨hq,q⟩|⟨hq,q⟩
 ·obtain⟨ax,r',pl,hz⟩:=I.list hq;have fT:=r'.length;refine call_tuple_list pl.isList (λh' kp=>?_) (by simp only[R7]<;>lia);have I1:ay X pins σ H {s with heap:=h'}:=I.kept (t':=s.toks) kp;have I2:ay X pins σ (cu H h'.objs.size (.tup ys)) {s with heap:=h'.push {cls:=.type "tuple",data:=.seq ax.toArray}}:=
   I1.laid (t':=s.toks) (λb o e=>R4 _ e) (Sb _) (show bz X.prog X.w _ _ _ (.tup ys) from ⟨hz,ax,r',IsTup.new _ _,_,R9 _ rfl⟩)
  exact⟨.ref h'.objs.size,_,I2,rfl,q _ (I1.hok.fresh (Sb _))⟩
 ·obtain⟨ax,r',pl,hz⟩:=I.tuple hq;exact call_tuple_same pl ⟨.ref p,H,I,rfl,q⟩
def Ov (K:R1)(T:String)(x:V)(H:Hp):Prop:=match x with
 | .str _=>T="str"
 | .int _=>T="int"
 | .ref p=>(T="list"/\∃xs,eN K H p xs)\/(T="tuple"/\((∃o,K.lookup p=some o/\o.cls=.type "tuple"/\o.dict=none)\/∃xs,H p=some (.tup xs))) \/
   (T="dict"/\((∃aP,H p=some (.dK aP))\/∃aP,H p=some (.dT aP)))\/(T="set"/\∃S n,H p=some (.set S n))
 |_=>False
theorem Jc {x:V}{v:R6}(I:ay X pins σ H s)(r:aM x v)(ty:Ov X.K T x H) :
  s.TypeIs v T/\∀a,v=.ref a->∃ob,s.heap.get? a=some ob/\ob.dict=none:=by
 cases x with
 |str z=>
  obtain⟨t,rfl⟩:=r;cases (show T="str" from ty);exact⟨typeIs_str s z t,λ_ e=>nomatch e⟩
 |int i=>
  obtain⟨t,rfl⟩:=r;cases (show T="int" from ty);exact⟨typeIs_int s i t,λ_ e=>nomatch e⟩
 |ref p=>
  cases r;rcases ty with⟨rfl,xs,hq⟩|⟨rfl,⟨o,hk,hc,hd⟩|⟨xs,hq⟩⟩|⟨rfl,hk⟩|⟨rfl,S,n,hk⟩
  ·obtain⟨ax,_,pl,_⟩:=I.list hq;refine⟨pl.isList.typeIs,λa e=>?_⟩;cases e;obtain⟨o,n,e,c,hd,_⟩:=pl;exact⟨o,e,hd⟩
  ·refine⟨⟨o,I.kIn p o hk,hc⟩,λa e=>?_⟩;cases e;exact⟨o,I.kIn _ o hk,hd⟩
  ·obtain⟨_,ax,_,⟨o,e,c,_⟩,n2,e2⟩:=I.hok p _ hq;refine⟨⟨o,e,c⟩,λa e'=>?_⟩;cases e';exact⟨_,e2,rfl⟩
  ·have z:∃o,s.heap.get? p=some o/\o.ExactDict:=by
    rcases hk with⟨aP,hk⟩|⟨aP,hk⟩
    ·obtain⟨_,_,_,_,o,_,_,e,ex,_⟩:=I.hok p _ hk;exact⟨o,e,ex⟩
    ·obtain⟨_,_,_,_,o,_,_,e,ex,_⟩:=I.hok p _ hk;exact⟨o,e,ex⟩
   obtain⟨o,e,ex⟩:=z;refine⟨⟨o,e,ex.1⟩,λa e2=>?_⟩;cases e2;exact⟨o,e,ex.2.1⟩
  ·obtain⟨o,_,_,_,e,ex,_⟩:=I.hok p _ hk;refine⟨⟨o,e,ex.1⟩,λa e2=>?_⟩;cases e2;exact⟨o,e,ex.2.1⟩
 |_=>exact Ui ty
def Px (K:R1)(T:String)(r:V->List V->Hp->VK->Prop)(to:TE)(t:TA):TE:=λσ H Q=>to σ H λx H1=>Ov K T x H1/\t σ H1 λxs H2=>r x xs H2 Q
variable {o e:T6}{es:List T6}{to:TE}{t:TA}{name:Str}{cL cpos:Pos}{id:String}{r:V->List V->Hp->VK->Prop}
theorem Lx (pa:PlainAttrs T)(slot:Slot T name id)(O3:typeOf (.builtin id)=pure (.type "method_descriptor"))(hm:GP X id r)(ho:PE X o to)(ha:PA X (e::es) t)
  (Ed:Ww o name X.env (VP o X.env)=VP o X.env:=by rfl)
  (Kv:((Ux cpos (Sq (e::es) X.env)).all (λx=> !x.1)&&(backToKw cpos (keywordEach [] X.env)).all (λx=>x.1.isSome)
   && decide ((e::es).length+([]:List Xa).length+(if ([]:List Xa).isEmpty then 0 else 1)<30))=true:=by rfl)
  (Ee:(cL.endLine==cpos.line)=true:=by rfl) (hs:Sq (e::es) X.env=(false,VP e X.env)::Sq es X.env:=by rfl) (xO:(Ux cpos (Sq es X.env)).any (·.1)=false:=by rfl) :
  PE X (.Call (.Attribute o name cL) (e::es) [] cpos) (Px X.K T r to t):=by
 intro pins s σ H Q I h;refine wpAny_Call_method_late Ed Kv Ee rfl (cM (ho pins s σ H _ I h) λv s1 ⟨x,H1,I1,r1,ty,q1⟩=>?_);obtain⟨h1,h2⟩:=Jc I1 r1 ty;refine⟨T,id,pa,slot,O3,h1,h2,?_⟩;have hA:=ha cpos pins s1 σ H1 _ I1 q1;rw[hs] at hA ⊢;refine Uw (by show (false||(Ux cpos (Sq es X.env)).any (·.1))=false;rw[xO]<;>rfl) (Wt ?_);exact cM hA λus s2 ⟨vs,H2,I2,r2,q2⟩=>hm pins s2 σ H2 x vs v us Q I2 r1 r2 q2
end
end L2
namespace L2
def Py (X:Cx)(id:String)(r:V->List V->Hp->VK->Prop):Prop:=
 ∀(pins:List (Sr×Obj)) (s:Sk) (σ:St) (H:Hp) (x:V) (xs:List V) (v:R6) (us:List R6) (Q:VK),ay X pins σ H s->aM x v->aO xs us->r x xs H Q->
  Sv (SN X.prog X.w) X.A (call (.builtin id) (v::us)) (EP X pins σ Q) X.xe s
theorem aO.one:∀{x:V} {us:List R6},aO [x] us->∃u,us=[u]/\aM x u
 |_,_,.cons r .nil=>⟨_,rfl,r⟩
theorem aO.eraseIdx:∀{xs:List V} {us:List R6} (i:Nat),aO xs us->aO (xs.eraseIdx i) (us.eraseIdx i)
 |_,_,_,.nil=>.nil
 |_,_,0,.cons _ t=>t
 |_,_,i+1,.cons r t=>.cons r (aO.eraseIdx i t)
theorem qX {α:Type}:∀(l:List α) (i:Nat),(l.eraseIdx i).length<=l.length
 | [],_=>Sb _
 |_::_,0=>Nat.le_succ _
 |_::r,i+1=>Nat.succ_le_succ (qX r i)
section
variable {l:Sr}{ys zs:List V}
theorem ay.lset {t':Nat}{its':List R6}{f:Array R6->Array R6}(I:ay X pins σ H s)(hH:H l=some (.lst xs))(e:s.heap.get? l=some {cls:=.type "list",data:=.seq ax.toArray n})(hf:f ax.toArray=its'.toArray)(hv:aO ys its')(hz:ys.length<=R3) :
  ay X pins σ (cu H l (.lst ys)) {s with heap:=s.heap.update l (U8 f),toks:=t'}:=by
 have q:=PySem.IsL.update e f;rw[hf] at q;refine I.write (x:=l) (e:=l) (by rw[hH];exact trivial) (.inl rfl) (λb' u hb hu=>(Heap.get?_update_other s.heap (U8 f) (Ne.symm hb)).trans hu) ⟨_,q⟩ ?_;exact⟨hz,its',_,hv,q⟩
theorem ay.lnew {t':Nat}(I:ay X pins σ H s)(hv:aO ys ax)(hz:ys.length<=R3) :
  ay X pins σ (cu H s.heap.objs.size (.lst ys)) {s with heap:=s.heap.push {cls:=.type "list",data:=.seq ax.toArray},toks:=t'}:=
 I.laid (λ_ _ q=>R4 _ q) (Sb _) ⟨hz,ax,0,hv,R9 _ rfl⟩
theorem ay.fresh (I:ay X pins σ H s):H s.heap.objs.size=none:=I.hok.fresh (Sb _)
theorem ay.lstM (I:ay X pins σ H s)(hH:H l=some (.lst xs)):xs.length<=R3/\∃(ax:List R6) (n:Nat),aO xs ax/\xs.length=ax.length/\s.heap.get? l=some {cls:=.type "list",data:=.seq ax.toArray n}:=by
 obtain⟨z,ax,n,r,e⟩:=I.hok l _ hH;exact⟨z,ax,n,r,r.length,e⟩
theorem oz (h:n<=R3):UE n=false:=by
 unfold UE;exact hV (by lia)
end
def Bn:V->List V->Hp->VK->Prop:=λx vs H Q=>∃l xs i k y,x=.ref l/\vs=[.int i]/\H l=some (.lst xs)/\ -(2 ^ 63)<=i/\i<2 ^ 63/\Xl i xs.length=some k/\xs[k]? = some y/\Q y (cu H l (.lst (xs.eraseIdx k)))
theorem Bo:Py X "list.pop" Bn:=by
 intro pins s σ H x vs v us Q I rx rv h;obtain⟨l,xs,i,k,y,rfl,rfl,hH,h1,h2,hk,hy,q⟩:=h;cases rx;obtain⟨u,rfl,ru⟩:=rv.one;obtain⟨t,rfl⟩:=ru;obtain⟨z,ax,n,r,hl,e⟩:=I.lstM hH;obtain⟨w,hw,xS⟩:=r.get hy;refine call_meets F.slot_list_pop ⟨_,e,rfl⟩ F.entry_list_pop (F.args_list_pop_2 _ _)
  (MeetsSeq.list_pop_at l ax.toArray n i t k w (fitsIndex_both h1 h2) (by rw[R7,←hl];exact hk) (by rw[←Tc];exact hw) (by rw[R7];lia)) ⟨e,?_⟩
 refine⟨y,_,I.lset (its':=ax.eraseIdx k) hH e ?_ (r.eraseIdx k) ?_,xS,q⟩
 ·show ax.toArray.eraseIdxIfInBounds k=(ax.eraseIdx k).toArray;rw[List.eraseIdxIfInBounds_toArray]
 ·have:=qX xs k;lia
section
variable {w:Tq}{A:S2}
set_option maxRecDepth 100000 in
end
end L2
namespace Att
open PySem.W PySem.Calls
theorem nu {P:Params}:∀(ns:List Int) (vs:List R6),WellAll P h vs (ns.map WData.int)->WE vs ns:=by
 intro ns
 induction ns with
 |nil=>
  intro vs w;rw[Tb] at w;cases w;exact .nil
 |cons n ns ih=>
  intro vs w;rw[RY] at w;cases w with
  |cons a b=>
   cases a;exact .cons _ _ (ih _ b)
theorem zS {l:OpenLaw}(hn:l.most=some n){P:Params}{args:List WData}{Kw:List R6}(GC:l.row.toRowW.claim.pre args=true)(O4:WellAll P h Kw args) :
  ∃a vs ns,Kw=[Value.ref a]/\args=[WData.list (ns.map WData.int)]/\h.get? a=some {cls:=.type "list",data:=.seq vs.toArray}/\WE vs ns/\ns.length<=n:=by
 have QJ:WShape.hasAll [] args [.list .int]=true:=(pre_splitW GC).1;have hc:l.pre.holds [] {args:=args}=true:=(pre_splitW GC).2;obtain⟨d,r,rfl,h1,h2⟩:=hasAllW_cons QJ;obtain rfl:=hasAllW_nil h2;obtain⟨xs,rfl,h3⟩:=hasW_list h1;obtain⟨ns,rfl⟩:=items_int h3;have fT:ns.length<=n:=by
  unfold OpenLaw.pre at hc;have h4:(WTm.not (.lt (.lit (.int (n:Int))) (.len (.arg 0)))).holds [] {args:=[.list (ns.map .int)]}=true:=by
   have h4:=(holds_andW hc).1;rw[hn] at h4;exact h4
  have h5:=condW_of h4 (w_not (w_lt w_lit (w_len_list (w_arg rfl))));rw[RX] at h5;refine Nat.le_of_not_lt λq=>?_;have q':(n:Int)<((ns.length:Nat):Int):=by lia
  first
   | (rw[hJ q'] at h5;exact absurd h5 (by decide))
   | (simp at h5;lia)
 cases O4 with
 |cons w1 w2=>
  cases w2;cases w1 with
  |list ho KJ=>exact⟨_,_,ns,rfl,rfl,ho,nu ns _ KJ,fT⟩
theorem zT (l:OpenLaw)(args:List WData):l.row.toRowW.claim.post args (.bool true) args=true:=
 postW_of (r:=l.row.toRowW) (X:=(true==true))
  (show WShape.has [] (.bool true) .bool=true by first|rfl|decide|simp[WShape.has,WShape.arms,WShape.armsAll])
  (show (WTm.eq .res (.lit (.bool true))).value [] {args:=args,res:=some (.bool true),after:=args}=some (.bool (true==true)) from w_eq_bool (w_res rfl) w_lit) rfl
theorem attach_call {l:OpenLaw}{d:DefRec}(hn:l.most=some n)(Nc:d.params.defaults=[])(call:∀(w:Tq) (s₀ s₁:Sk) (mg mb:Str->Option R6) (fa:Sr) (o:Obj) (pm cd ku:R6) (a:Sr) (vs:List R6) (ns:List Int),
   Ground q loose [] XP w s₀ mg mb s₁.heap->YP w s₁.heap->
   s₁.heap.get? fa=some o->o.data=.func (docDef d.name d.params d.body d.scope pm cd ku)->s₁.heap.CodeRec cd d.name->mg d.name=some (.ref fa)->
   s₁.heap.get? a=some {cls:=.type "list",data:=.seq vs.toArray}->WE vs ns->ns.length<=n->s₁.gens=#[]->
   codeAny (SN l.prog w) callerA (.call (.ref fa) ⟨[.ref a],[]⟩) (λr s'=>r=.ok (.ret (.bool true))/\OldK s₁.heap s'.heap/\s'.os=s₁.os/\W9 s'.gens) s₁) :
  WalkO q loose XP YP l.row.toRowW d [] (λf vs=>PySem.call f vs):=by
 intro w s₀ s₁ mg mb G Y fa o pm cd ku dV kV ho hd kr hD Nf hg args Kw as GC QK RN O4 RO;obtain rfl:dV=.none:=Dflts.none hD Nc;obtain rfl:kV=.none:=Dflts.noKw hD;obtain⟨a,vs,ns,rfl,rfl,Kx,Ef,fT⟩:=zS hn GC O4;refine enter_call (W2 (call w s₀ s₁ mg mb fa o pm cd ku a vs ns G Y ho (fd_plain hd) kr Nf Kx Ef fT hg) λr s' hq=>?_);obtain⟨rfl,h2,h3,h4⟩:=hq;exact⟨.inl ⟨.bool true,.bool true,[],rfl,λ_=>rfl,.bool true,zT l _,λ_=>⟨List.Pairwise.nil,λ_ hm=>(nomatch hm)⟩⟩,h2,h3,h4⟩
end Att
namespace L2
theorem lV:∀{vs:List R6} {ns:List Int},WE vs ns->aO (ns.map V.int) vs
 |_,_,.nil=>.nil
 |_,_,.cons n t h=>.cons ⟨t,rfl⟩ (lV h)
def EW (H:Hp):Prop:=∀b,H b=none\/∃o xs,H b=some (.frz o (.lst xs))
theorem Bp {w:Tq}{mb:Str->Option R6}{fa:Sr}{s₁:Sk}{vs:List R6}(KX:K.In s₁.heap)(P7:s₁.heap.Ns SS mg)(hb:s₁.heap.Ns builtinsNs mb)(QL:∀x:Str,x≠"__name__"->mb x=S0 x)(O5:s₁.heap.NoLimit)(hg:s₁.gens=#[])(ha:s₁.heap.get? a=some {cls:=.type "list",data:=.seq vs.toArray})(hi:WE vs ns)(hl:ns.length<=R3)(hr:dE k callerA)(F:∀base:UU,K.In base->base.Ns SS mg->il P w K mg base CX k fa fd [x] sp)(Ng:∀(s:Sk) (u:R6),BindsTo s fd ⟨[u],[]⟩ [(x,u)])(Il:∀H:Hp,EW H->eN K H a (ns.map V.int)->sp [.ref a] H (λv _=>v=.bl true) λ_ _ _=>False)(O6:∀H e s',CX [] H s₁ (λ_ _ _=>False) e s'->False) :
  codeAny (SN P w) callerA (.call (.ref fa) ⟨[.ref a],[]⟩) (λr s'=>r=.ok (.ret (.bool true))/\OldK s₁.heap s'.heap/\s'.os=s₁.os/\W9 s'.gens) s₁:=by
 have rv:=lV hi;have O7:=hi.length;have Nh:∀H:Hp,EW H->eN K H a (ns.map V.int)->gK P w H s₁.heap->(∀b,H b≠none->b=a)->(H a≠none->K.lookup a=none)->
   codeAny (SN P w) callerA (.call (.ref fa) ⟨[.ref a],[]⟩) (λr s'=>r=.ok (.ret (.bool true))/\OldK s₁.heap s'.heap/\s'.os=s₁.os/\W9 s'.gens) s₁:=by
  intro H hO hS hok hA hK;have zD:∀{b:Sr} {o:Obj},s₁.heap.get? b=some o->H b=none->(sf s₁.heap H).get? b=some o:=λe n=>A6 e n;have Na:∀{b:Sr} {o:Obj} {es:Array Xv} {ep:Nat},s₁.heap.get? b=some o->o.data=.dict es ep->H b=none:=λ{b o es ep} e d=>by
   cases q:H b with
   |none=>rfl
   |some u=>
    have e':b=a:=hA b (by rw[q];simp);subst e';rw[ha] at e;cases e;have d':Data.seq vs.toArray _=Data.dict es ep:=d;cases d'
  have N2:∀{b:Sr} {m:Str->Option R6},s₁.heap.Ns b m->(sf s₁.heap H).Ns b m:=λ{b m} ⟨o,es,ep,e,d,r⟩=>⟨o,es,ep,zD e (Na e d),d,r⟩;have P8:K.In (sf s₁.heap H):=λb o e=>zD (KX b o e) (by
   cases q:H b with
   |none=>rfl
   |some u=>
    have e':b=a:=hA b (by rw[q];simp);subst e';rw[hK (by rw[q];simp)] at e;cases e)
  have hM:Mod K mg (sf s₁.heap H):=⟨P8,N2 P7,⟨mb,N2 hb,QL⟩,let ⟨mc,h1,h2⟩:=O5;⟨mc,N2 h1,h2⟩⟩;have e0:Bi P w K mg (sf s₁.heap H) callerA [] s₁ H:=⟨rfl,hM,λb o e=>Eu e,Nat.le_of_eq (zJ _ _),trivial,λb hb=>absurd (show b∈([]:List Sr) from hb) (by simp),hok,.of_eq hg⟩;refine W2 ((F _ P8 (N2 P7)).run callerA [] s₁ H ⟨[.ref a],[]⟩ [.ref a] [.ref a] _ _ hr e0 (Ng s₁ (.ref a)) (.cons rfl .nil) (Il H hO hS)) λr s' h=>?_;cases r with
  |error e=>exact (O6 H e s' h).elim
  |ok fl=>
   cases fl with
   |next=>exact Ui h
   |brk=>exact Ui h
   |cont=>exact Ui h
   |ret u=>
    obtain⟨v,H',os,bare,un,hok',r',q⟩:=h;have q':v=.bl true:=q;subst q';obtain rfl:u=Value.bool true:=r';refine⟨rfl,OldK.of_keep λb o e=>?_,os,bare⟩;cases q:H b with
    |none=>exact un.keep b o e q (by intro z;exact absurd (show b∈([]:List Sr) from z) (by simp)) (by simp)
    |some u=>
     rcases hO b with z|⟨ob,xs,z⟩
     ·rw[q] at z;cases z
     ·have z2:=un.frzs b ob _ z;obtain⟨e1,_⟩:=hok b _ z;obtain⟨e2,_⟩:=hok' b _ z2;rw[e] at e1;cases e1;exact e2
 cases hk:K.lookup a with
 |some o=>
  have e:=KX a o hk;rw[ha] at e;cases e;refine Nh (λ_=>none) (λ_=>.inl rfl) (.inr ⟨_,vs.toArray,_,hk,rfl,rfl,rfl,by rw[R7,O7];exact hl,by simpa using rv⟩) (λb u z=>by have z':(none:Option HO)=some u:=z;cases z') (λb z=>absurd rfl z) λz=>absurd rfl z
 |none=>
  refine Nh (λb=>if b=a then some (.frz {cls:=.type "list",data:=.seq vs.toArray} (.lst (ns.map V.int))) else none) (λb=>?_) (.inl (.inr ⟨{cls:=.type "list",data:=.seq vs.toArray},h9 rfl⟩)) (λb u z=>?_) (λb z=>?_) λ_=>hk
  ·by_cases hb:b=a
   ·exact .inr ⟨_,_,h9 hb⟩
   ·exact .inl (hZ hb)
  ·by_cases hb:b=a
   ·have z':=(h9 hb).symm.trans z;cases z';subst hb;exact⟨ha,by rw[RX];exact hl,vs,_,rv,ha⟩
   ·have z':=(hZ hb).symm.trans z;cases z'
  ·by_cases hb:b=a
   ·exact hb
   ·exact absurd (hZ hb) z
end L2
namespace L2
theorem walk_of {l:PySem.W.OpenLaw}{d:DefRec}{K:Params->R1}{CX:Tq->CXT}{sp:Tq->Sp}(hn:l.most=some n)(O8:n<=R3)(Nc:d.params.defaults=[])(hr:dE k callerA)(hY:∀(w:Tq) (h:UU),YP w h->(K w.params).In h)(F:∀(w:Tq) (mg:Str->Option R6) (fa:Sr) (h:UU),(K w.params).In h->h.Ns SS mg->mg d.name=some (.ref fa)->
   ∃fd:Vk,(∀(s:Sk) (u:R6),BindsTo s fd ⟨[u],[]⟩ [(x,u)])/\
    ∀base:UU,(K w.params).In base->base.Ns SS mg->il l.prog w (K w.params) mg base (CX w) k fa fd [x] (sp w))(Il:∀(w:Tq) (H:Hp) (a:Sr) (ns:List Int),ns.length<=n->EW H->eN (K w.params) H a (ns.map V.int)->sp w [.ref a] H (λv _=>v=.bl true) λ_ _ _=>False)(O6:∀(w:Tq) (H:Hp) (s:Sk) (e:R6) (s':Sk),CX w [] H s (λ_ _ _=>False) e s'->False) :
  PySem.W.WalkO q loose XP YP l.row.toRowW d [] (λf vs=>PySem.call f vs):=by
 refine Att.attach_call hn Nc λw s₀ s₁ mg mb fa o pm cd ku a vs ns G Y ho hd kr Nf Kx Ef fT hg=>?_;have KX:=hY w _ Y;obtain⟨fd,hb,hF⟩:=F w mg fa _ KX G.T.g Nf;exact Bp KX G.T.g G.T.b G.T.builtins G.T.nolimit hg Kx Ef (Sz fT O8) hr hF hb (λH hO hS=>Il w H a ns fT hO hS) λH e s'=>O6 w H s₁ e s'
end L2
namespace L2
abbrev uu:CXT:=λ_ _ _ _ _ _=>False
abbrev E0:XK:=λ_ _ _=>False
theorem Ly:wD uu X E0:=λ_ _ _ _ _ _ _ h=>h.elim
structure En (K:R1)(x qual:Str)(st:Wv)(f:Sr)(fd:Vk):Prop where
 ex:∃(oc:R6) (od:Option Sr) (kV ku pm:R6) (an:Option Sr) (bx ct:R6) (GA:Array (Option R6)),
  fd=TU x qual (dD st) (bC st) (aj st) .none kV ku pm an bx ct/\K.lookup f=some ⟨oc,od,.func fd,GA⟩/\Xb K bx qual=true
 kp:T9 K (.ref f)=true
section
variable {w:Tq}{base:UU}
theorem En.ok (F:En K x qual st f fd)(S:aQ N ps (aj st))(len:∀vs H Q E,sp vs H Q E->vs.length=ps.length)(eX:∀(bx:R6) (A:S2) (outer:List Env) (s:Sk) (H:Hp) (vs:List V) (Q:VK) (E:XK),dE k (A.deeper (UM qual (aj st) s.heap.objs.size f bx))->sp vs H Q E->
   ∃t,qy (gb uu P w K mg base N qual (aj st) f bx A outer s H E).nox (bC st) t/\t {nx:=λ_ H'=>Q .non H',rt:=Q} (fg N vs) H):il P w K mg base uu (k+1) f fd ps sp:=by
 obtain⟨oc,od,kV,ku,pm,an,bx,ct,GA,rfl,lk,kr⟩:=F.ex;refine GO lk kr S len λA outer s H vs Q E hr Il=>?_;obtain⟨t,h,q⟩:=eX bx A outer s H vs Q E hr Il;exact⟨t,h.nox,q⟩
theorem En.binds (F:En K x qual st f fd)(h:∀(kV ku pm:R6) (an:Option Sr) (bx ct:R6) (us:List R6),us.length=ps.length->bindArgs (TU x qual (dD st) (bC st) (aj st) .none kV ku pm an bx ct) ⟨us,[]⟩=pure (ps.zip us)):kE K fd ps []:=by
 obtain⟨oc,od,kV,ku,pm,an,bx,ct,GA,rfl,lk,kr⟩:=F.ex;exact .all (h kV ku pm an bx ct)
theorem Bq {oc:R6}{od an:Option Sr}{GA:Array (Option R6)}{kV ku pm bx ct:R6}(l:K.lookup f=some ⟨oc,od,.func (TU x qual (dD st) (bC st) (aj st) .none kV ku pm an bx ct),GA⟩)(c:Xb K bx qual=true)(k:T9 K (.ref f)=true):En K x qual st f (TU x qual (dD st) (bC st) (aj st) .none kV ku pm an bx ct):=⟨⟨oc,od,kV,ku,pm,an,bx,ct,GA,rfl,l,c⟩,k⟩
end
theorem cN {A:S2}(hr:dE k A):A.units+1<Uu:=VF (Nat.add_le_add_left (by decide:1<=64) _) hr.units
theorem pv (i:Nat)(hN:X.N[i]? = some x:=by rfl)(hv:AR X.env.scope x:=by first|exact Or.inl rfl|exact Or.inr (Or.inl rfl)|exact Or.inr (Or.inr rfl))(hd:(x==("__debug__":Str))=false:=by decide)(kr:(x==("__classdict__":Str))=false:=by decide):PE X (.Name x pos) (Ew i):=gz hN hv hd kr
def aJ (H H':Hp):Prop:=∀b o,H b=some o->H' b=some o
theorem aJ.refl (H:Hp):aJ H H:=λ_ _ h=>h
theorem aJ.trans (a:aJ H H1)(b:aJ H1 H2):aJ H H2:=λc o h=>b c o (a c o h)
theorem aJ.seq (e:aJ H H')(h:eN K H a xs):eN K H' a xs:=by
 rcases h with (h|⟨o,h⟩)|h
 ·exact .inl (.inl (e _ _ h))
 ·exact .inl (.inr ⟨o,e _ _ h⟩)
 ·exact .inr h
end L2
namespace L2
section
variable {κ:Type}[DecidableEq κ]
noncomputable def nv (aP:List (κ×V))(k:κ):Option V:=(aP.find? λkv=>decide (kv.1=k)).map (·.2)
noncomputable def kG (aP:List (κ×V))(k:κ)(v:V):List (κ×V):=
 if (aP.any λkv=>decide (kv.1=k))=true then aP.map (λkv=>if kv.1=k then (kv.1,v) else kv) else aP++[(k,v)]
theorem kH {p:κ×V}{r:List (κ×V)}{k:κ}(e:p.1=k):nv (p::r) k=some p.2:=by simp[nv,TF,e]
theorem kI {p:κ×V}{r:List (κ×V)}{k:κ}(e:¬p.1=k):nv (p::r) k=nv r k:=by simp[nv,TF,e]
theorem uv (k:κ):∀aP:List (κ×V),(aP.any λkv=>decide (kv.1=k))=(nv aP k).isSome
 | []=>rfl
 |p::r=>by
  rw[List.any_cons];by_cases e:p.1=k
  ·simp only[kH e,hJ e,Bool.true_or,Option.isSome_some]
  ·rw[kI e,hV e,Bool.false_or];exact uv k r
theorem mI (aP:List (κ×V))(k:κ)(v:V):(kG aP k v).length<=aP.length+1:=by
 unfold kG;split
 ·rw[RX];lia
 ·rw[Se,Sj,VG];lia
theorem jZ.isSome_eq {o:Option V}{u:Option R6}(r:jZ o u):o.isSome=u.isSome:=by
 cases o with
 |none=>cases u with
  |none=>rfl
  |some _=>exact (show False from r).elim
 |some _=>cases u with
  |none=>exact (show False from r).elim
  |some _=>rfl
theorem jZ.getD {o:Option V}{u:Option R6}{d:V}{d':R6}(r:jZ o u)(rd:aM d d'):aM (o.getD d) (u.getD d'):=by
 cases o with
 |none=>cases u with
  |none=>exact rd
  |some _=>exact (show False from r).elim
 |some _=>cases u with
  |none=>exact (show False from r).elim
  |some _=>exact r
theorem KV.val {aP:List (κ×V)}{vs:List (κ×R6)}(r:KV aP vs)(k:κ):jZ (nv aP k) (valueAt vs k):=by
 unfold KV at r
 induction r with
 |nil=>exact True.intro
 | @cons p q ps qs h t ih=>
  obtain⟨h1,h2⟩:=h;by_cases e:p.1=k
  ·have e':q.1=k:=h1.symm.trans e;have b:valueAt (q::qs) k=some q.2:=by simp[valueAt,TF,e']
   rw[kH e,b];exact h2
  ·have e':¬q.1=k:=λz=>e (h1.trans z);have b:valueAt (q::qs) k=valueAt qs k:=by simp[valueAt,TF,e']
   rw[kI e,b];exact ih
theorem KV.any {aP:List (κ×V)}{vs:List (κ×R6)}(r:KV aP vs)(k:κ):(aP.any λkv=>decide (kv.1=k))=vs.any λkv=>decide (kv.1=k):=by
 unfold KV at r
 induction r with
 |nil=>rfl
 |cons h t ih=>rw[List.any_cons,List.any_cons,ih,h.1]
theorem KV.repl {aP:List (κ×V)}{vs:List (κ×R6)}(r:KV aP vs)(k:κ){u:R6}(ry:aM y u) :
  KV (aP.map λkv=>if kv.1=k then (kv.1,y) else kv) (vs.map λkv=>if kv.1=k then (kv.1,u) else kv):=by
 unfold KV at r ⊢
 induction r with
 |nil=>exact .nil
 | @cons p q ps qs h t ih=>
  rw[RY,RY];refine .cons ?_ ih;obtain⟨h1,h2⟩:=h;by_cases e:p.1=k
  ·rw[h9 e,h9 (h1.symm.trans e)];exact⟨h1,ry⟩
  ·rw[hZ e,hZ (λz=>e (h1.trans z))];exact⟨h1,h2⟩
theorem KV.put {aP:List (κ×V)}{vs:List (κ×R6)}(r:KV aP vs)(k:κ){u:R6}(ry:aM y u):KV (kG aP k y) (stored vs k u):=by
 unfold kG stored;rw[r.any k];by_cases e:(vs.any λkv=>decide (kv.1=k))=true
 ·rw[h9 e,h9 e];exact r.repl k ry
 ·rw[hZ e,hZ e];exact Paired.snoc r ⟨rfl,ry⟩
theorem KV.length {aP:List (κ×V)}{vs:List (κ×R6)}(r:KV aP vs):aP.length=vs.length:=U6 r
end
theorem yf {w:Tq}{k:Key}{u:R6}(r:aM (kV k) u):(cw P w).is k u=true:=by
 cases k with
 |inl i=>obtain⟨t,e⟩:=(show ∃t,u=Value.int i t from r);subst e;exact uj P w i t
 |inr x=>obtain⟨t,e⟩:=(show ∃t,u=Value.str x t from r);subst e;exact uk P w x t
theorem qY {P:UN}{w:Tq}:∀{ks:List Key} {us:List R6},aO (ks.map kV) us->ItemsAre (cw P w) ks us
 | [],_,r=>by rw[Tb] at r;cases r;exact .nil
 |k::ks,_,r=>by
  rw[RY] at r;cases r with
  |cons h t=>exact .cons (yf h) (qY t)
abbrev KT (H:Hp):List (List Key×V)->List (List Key×Sr×R6)->Prop:=Ws λp q=>p.1=q.1/\H q.2.1=some (.tup (p.1.map kV))/\aM p.2 q.2.2
theorem KT.val {xs:List (List Key×Sr×R6)}(r:KT H aP xs)(k:List Key):jZ (nv aP k) ((atKey xs k).map (·.2)):=by
 induction r with
 |nil=>exact True.intro
 | @cons p q ps qs h t ih=>
  obtain⟨h1,_,h2⟩:=h;by_cases e:p.1=k
  ·have e':q.1=k:=h1.symm.trans e;have b:atKey (q::qs) k=some q.2:=by simp[atKey,TF,e']
   rw[kH e,b];exact h2
  ·have e':¬q.1=k:=λz=>e (h1.trans z);have b:atKey (q::qs) k=atKey qs k:=by simp[atKey,TF,e']
   rw[kI e,b];exact ih
theorem KT.repl {xs:List (List Key×Sr×R6)}(r:KT H aP xs)(k:List Key){u:R6}(ry:aM y u) :
  KT H (aP.map λkv=>if kv.1=k then (kv.1,y) else kv) (xs.map (putAt k u)):=by
 induction r with
 |nil=>exact .nil
 | @cons p q ps qs h t ih=>
  rw[RY,RY];refine .cons ?_ ih;obtain⟨h1,h2,h3⟩:=h;unfold putAt;by_cases e:p.1=k
  ·rw[h9 e,h9 (h1.symm.trans e)];exact⟨h1,h2,ry⟩
  ·rw[hZ e,hZ (λz=>e (h1.trans z))];exact⟨h1,h2,h3⟩
theorem KT.put {xs:List (List Key×Sr×R6)}(r:KT H aP xs)(k:List Key){u:R6}(hb:H b=some (.tup (k.map kV)))(ry:aM y u) :
  KT H (kG aP k y) (storedH xs k b u):=by
 have e:(aP.any λkv=>decide (kv.1=k))=(atKey xs k).isSome:=by
  rw[uv,(r.val k).isSome_eq,Option.isSome_map]
 unfold kG storedH;rw[e];by_cases q:(atKey xs k).isSome=true
 ·rw[h9 q,h9 q];exact r.repl k ry
 ·rw[hZ q,hZ q];exact Paired.snoc r ⟨rfl,hb,ry⟩
theorem KT.keeps {xs:List (List Key×Sr×R6)}(r:KT H aP xs)(ht:∀b ys,H b=some (.tup ys)->H' b=some (.tup ys)):KT H' aP xs:=
 Paired.mapP r λ_ _ z=>⟨z.1,ht _ _ z.2.1,z.2.2⟩
section
variable {w:Tq}
theorem GQ {u:HO}(ok:gK P w H h)(e:Rd H a u):bz P w H h a u:=e.ok ok
theorem uw {aP:List (Key×V)}(ok:gK P w H h)(e:Rd H a (.dK aP)):aP.length<=R3/\(a==Tr)=false/\∃vs,KV aP vs/\h.DictOf (cw P w) a vs:=
 show bz P w H h a (.dK aP) from GQ ok e
theorem Lz {aP:List (Key×V)}(ok:gK P w H h)(e:H a=some (.dK aP)):aP.length<=R3/\(a==Tr)=false/\∃vs,KV aP vs/\h.DictOf (cw P w) a vs:=uw ok (.inl e)
theorem sD {ks:List Key}(ok:gK P w H h)(e:H a=some (.tup (ks.map kV))):(tupleKind (cw P w)).is h ks a:=by
 obtain⟨_,ax,r,⟨o,h1,h2,n,h3⟩,_⟩:=(show bz P w H h a (.tup (ks.map kV)) from ok a _ e);exact⟨o,ax.toArray,n,h1,h2,h3,by simpa using qY r⟩
theorem ux (ok:gK P w H h)(e:Rd H a (.dT aP)):aP.length<=R3/\(a==Tr)=false/\
  ∃xs,KT H aP xs/\h.DictOfH (tupleKind (cw P w)) a xs:=by
 obtain⟨z,y,xs,r,o,es,ep,h1,h2,h3,h4,h5⟩:=(show bz P w H h a (.dT aP) from GQ ok e);refine⟨z,y,xs,r,o,es,ep,h1,h2,h3,h4,λx hx=>?_,h5⟩;have all:∀{l:List (List Key×V)} {m:List (List Key×Sr×R6)},KT H l m->∀x∈m,(tupleKind (cw P w)).is h x.1 x.2.1:=by
  intro l m q
  induction q with
  |nil=>intro x hx;exact nomatch hx
  | @cons p q ps qs hq t ih=>
   intro x hx;rcases Ss.mp hx with e|hx
   ·subst e;exact sD ok (by rw[←hq.1];exact hq.2.1)
   ·exact ih x hx
 exact all r x hx
theorem LA (ok:gK P w H h)(e:H a=some (.dT aP)):aP.length<=R3/\(a==Tr)=false/\
  ∃xs,KT H aP xs/\h.DictOfH (tupleKind (cw P w)) a xs:=ux ok (.inl e)
end
def EX (H:Hp)(a:Sr)(y:V)(r:Option V):Prop:=
 (∃aP k,Rd H a (.dK aP)/\y=kV k/\r=nv aP k)\/∃aP k b,Rd H a (.dT aP)/\y=.ref b/\H b=some (.tup (k.map kV))/\r=nv aP k
def LB (H:Hp)(a:Sr)(y v:V)(H':Hp):Prop:=
 (∃aP k,H a=some (.dK aP)/\y=kV k/\aP.length<R3/\H'=cu H a (.dK (kG aP k v))) \/
 ∃aP k b,H a=some (.dT aP)/\y=.ref b/\H b=some (.tup (k.map kV))/\aP.length<R3/\H'=cu H a (.dT (kG aP k v))
section
variable {u r:R6}{o:Option V}{A:S2}
theorem ay.big (I:ay X pins σ H s):Tr<s.heap.objs.size:=by
 have h:SS<s.heap.objs.size:=(I.mod.glob.keeps I.bk).lt;exact Nat.lt_trans (by decide) h
theorem zU (hu:A.units+1<Uu)(I:ay X pins σ H s)(g:EX H a y (some v))(ry:aM y u)(h:∀w' s',ay X pins σ H s'->aM v w'->Q w' s') :
  Sv (SN X.prog X.w) A (WD (.ref a) u) Q E s:=by
 rcases g with⟨aP,k,e,ey,l⟩|⟨aP,k,b,e,ey,eb,l⟩
 ·subst ey;obtain⟨z,hd,vs,rel,dd⟩:=uw I.hok e;obtain⟨w',hw,xS⟩:=jZ.some_of (v:=v) (o:=valueAt vs k) (by rw[l];exact rel.val k);exact wpAny_getItem_of (yf ry) dd.mapOf hw (h w' _ (I.tok _) xS)
 ·subst ey;cases (show u=Value.ref b from ry);obtain⟨z,hd,xs,rel,dd⟩:=ux I.hok e;obtain⟨w',hw,xS⟩:=jZ.some_of (v:=v) (o:=(atKey xs k).map (·.2)) (by rw[l];exact rel.val k);obtain⟨p,hp,AO⟩:=VT.mp hw;refine wpAny_getItem_heap (W3 hu) (sD I.hok eb) dd hp ?_;rw[AO];exact h w' _ (I.tok _) xS
theorem sE {t':Nat}{ob:HO}(I:ay X pins σ H s)(mu:KO (H a))(hs:Ur a s.heap h')(he:∃q,h'.get? a=some q)(new:bz X.prog X.w (cu H a ob) h' a ob) :
  ay X pins σ (cu H a ob) {s with heap:=h',toks:=t'}:=
 I.write (x:=a) (e:=a) mu (.inl rfl) (λb q hb z=>(hs.2 b hb).trans z) he new
theorem Jd {w:Tq}{aP:List (Key×V)}{vs:List (Key×R6)}(z:aP.length<=R3)(hd:(a==Tr)=false)(rel:KV aP vs)(dd:h'.DictOf (cw P w) a vs) :
  bz P w H' h' a (.dK aP):=⟨z,hd,vs,rel,dd⟩
theorem zV {Q:Unit->Sk->Prop}(hu:A.units+1<Uu)(I:ay X pins σ H s)(g:LB H a y v H')(ry:aM y u)(rv:aM v r)(h:∀s',ay X pins σ H' s'->Q () s') :
  Sv (SN X.prog X.w) A (setItem (.ref a) u r) Q E s:=by
 rcases g with⟨aP,k,e,ey,l,eH⟩|⟨aP,k,b,e,ey,eb,l,eH⟩
 ·subst ey eH;obtain⟨z,hd,vs,rel,dd⟩:=Lz I.hok e;have hz:vs.length<=R3:=by rw[←rel.length];exact z
  have hl:(kG aP k v).length<=R3:=by have:=mI aP k v;lia
  refine wpAny_setItem_pairs (hsz:=hz) (yf ry) dd λh' KY hs=>h _ ?_;have he:∃q,h'.get? a=some q:=let ⟨q,_,_,hq,_⟩:=KY;⟨q,hq⟩
  exact sE I (by rw[e];exact True.intro) hs he (Jd hl hd (rel.put k rv) KY)
 ·subst ey eH;cases (show u=Value.ref b from ry);obtain⟨z,hd,xs,rel,dd⟩:=LA I.hok e;have hz:xs.length<=R3:=by rw[←U6 rel];exact z
  have hl:(kG aP k v).length<=R3:=by have:=mI aP k v;lia
  refine wpAny_setItem_heap (hsz:=hz) (W3 hu) (sD I.hok eb) dd λh' KY hs=>h _ ?_;obtain⟨q,es,ep,hq,h2,h3,h4,_,h5⟩:=KY;refine sE I (by rw[e];exact True.intro) hs ⟨q,hq⟩ ⟨hl,hd,_,(rel.put k eb rv).keeps λc ys ec=>?_,q,es,ep,hq,h2,h3,h4,h5⟩;rw[aL (K1 ec e (λz=>nomatch z))];exact ec
end
def Je (i:T6):Prop:=∀ov iv,subscripted i false ov iv=operate [ov,iv] (WD ov iv)
theorem EY {w:Tq}{A:S2}{value slice:T6}{id:String}(hl:typeLookup (.type T) "__getitem__"=pure (some (.builtin id)))(hs:Je slice)(h:Sv (SN prog w) A (VP value env) (λo s₁=>Sv (SN prog w) A (VP slice env) (λi s₂=>s₂.TypeIs o T/\Sv (SN prog w) A (WD o i) Q E s₂) E s₁) E s) :
  Sv (SN prog w) A (VP (.Subscript value slice pos) env) Q E s:=by
 refine Subscript_ (S8 h (λo s₁ h₁=>S8 h₁ (λi s₂ h₂=>?_) λ_ _ x=>x) λ_ _ x=>x);obtain⟨hT,h₂⟩:=h₂;unfold subscriptTail;refine RW ?_;rw[getitemInPython_of_ne hT.not_modules];refine RW (VH hT hl ?_);have fin:Sv (SN prog w) A (subscripted slice false o i) (λr s₃=>Sv (SN prog w) A (letTemporaryGo value o r >>= λ_=>pure r) Q E s₃) E s₂:=by
  rw[hs o i];exact wpAny_operating (S8 h₂ (λr s₃ h₃=>RW (wpAny_letTemporaryGo (RZ h₃))) λ_ _ x=>x)
 first
  |exact RZ (RW fin)
  |exact RW (RZ (RW fin))
  |exact RW fin
theorem uy {o:Option V}(I:ay X pins σ H s)(g:EX H a y o):s.TypeIs (.ref a) "dict":=by
 rcases g with⟨aP,k,e,_,_⟩|⟨aP,k,b,e,_,_,_⟩
 ·obtain⟨_,_,vs,_,dd⟩:=uw I.hok e;exact dd.typeIs
 ·obtain⟨_,_,xs,_,dd⟩:=ux I.hok e;exact dd.typeIs
theorem Br {w:Tq}(h:UU)(hb:Tr<h.objs.size):bz P w H (h.push {cls:=.type "dict",data:=.dict #[]}) h.objs.size (.dK []):=
 ⟨WG _,beq_eq_false_iff_ne.mpr (Ne.symm (SJ hb)),[],.nil,Heap.DictOf.new h⟩
def Jf:TE:=λ_ H Q=>∀p,H p=none->Q (.ref p) (cu H p (.dK []))
theorem Bs:PE X (.Dict [] [] pos) Jf:=λpins s σ H Q I h=>
 wpAny_Dict_empty ⟨.ref s.heap.objs.size,_,I.laid (a:=s.heap.objs.size) (o:=.dK []) (t':=s.toks) (λ_ _ q=>R4 _ q) (Sb _) (Br s.heap I.big),rfl,h _ (I.hok.fresh (Sb _))⟩
structure M1 (X:Cx)(o:T6)(m:Str)(cL:Pos)(e:T6)(cpos:Pos):Prop where
 base:Ww o m X.env (VP o X.env)=VP o X.env
 few:((Ux cpos (Sq [e] X.env)).all (λx=> !x.1)&&(backToKw cpos (keywordEach [] X.env)).all (λx=>x.1.isSome)
  && decide (([e]:List T6).length+([]:List Xa).length+(if ([]:List Xa).isEmpty then 0 else 1)<30))=true
 line:(cL.endLine==cpos.line)=true
 trees:Ux cpos (Sq [e] X.env)=[(false,VP e X.env)]
structure M2 (X:Cx)(o:T6)(m:Str)(cL:Pos)(e f:T6)(cpos:Pos):Prop where
 base:Ww o m X.env (VP o X.env)=VP o X.env
 few:((Ux cpos (Sq [e,f] X.env)).all (λx=> !x.1)&&(backToKw cpos (keywordEach [] X.env)).all (λx=>x.1.isSome)
  && decide (([e,f]:List T6).length+([]:List Xa).length+(if ([]:List Xa).isEmpty then 0 else 1)<30))=true
 line:(cL.endLine==cpos.line)=true
 trees:Ux cpos (Sq [e,f] X.env)=[(false,VP e X.env),(false,VP f X.env)]
def Pz (H:Hp)(a:Sr):Prop:=(∃aP,Rd H a (.dK aP))\/∃aP,Rd H a (.dT aP)
theorem Jg (I:ay X pins σ H s)(d:Pz H a) :
  s.TypeIs (.ref a) "dict"/\(∀b,Value.ref a=.ref b->∃ob,s.heap.get? b=some ob/\ob.dict=none)/\(a==Tr)=false:=by
 rcases d with⟨aP,e⟩|⟨aP,e⟩
 ·obtain⟨_,hd,vs,_,dd⟩:=uw I.hok e;refine⟨dd.typeIs,λb q=>?_,hd⟩;cases q;obtain⟨ob,_,_,h1,h2,_⟩:=dd;exact⟨ob,h1,h2.2.1⟩
 ·obtain⟨_,hd,xs,_,dd⟩:=ux I.hok e;refine⟨dd.typeIs,λb q=>?_,hd⟩;cases q;obtain⟨ob,_,_,h1,h2,_⟩:=dd;exact⟨ob,h1,h2.2.1⟩
section
variable {d:V}{u r:R6}{o:Option V}{A:S2}
theorem Jh (hu:A.units+1<Uu)(I:ay X pins σ H s)(g:EX H a y o)(ry:aM y u)(rd:aM d r)(h:∀w' s',ay X pins σ H s'->aM (o.getD d) w'->Q w' s') :
  Sv (SN X.prog X.w) A (call (.builtin "dict.get") [.ref a,u,r]) Q E s:=by
 rcases g with⟨aP,k,e,ey,l⟩|⟨aP,k,b,e,ey,eb,l⟩
 ·subst ey;obtain⟨z,hd,vs,rel,dd⟩:=uw I.hok e;refine call_meetsIn U2 dd.typeIs VU (VI _ _ _) (meets_dict_get_default (cw X.prog X.w) a (yf ry) hd r) ⟨_,dd.mapOf,h _ _ (I.tok _) ?_⟩;rw[l];exact (rel.val k).getD rd
 ·subst ey;cases (show u=Value.ref b from ry);obtain⟨z,hd,xs,rel,dd⟩:=ux I.hok e;refine call_meetsIn U2 dd.typeIs VU (VI _ _ _) (meetsH_dict_get_default (tupleKind (cw X.prog X.w)) a b hd r) ⟨W3 hu,k,xs,sD I.hok eb,dd,h _ _ (I.tok _) ?_⟩;rw[l];exact (rel.val k).getD rd
end
end L2
namespace L2
end L2
namespace L2
theorem wI (hf:∀x,(x,NameKind.free)∈scope.names->∃c,env.cells.lookup x=some c) :
  ∃cl:List (Str×Sr),closureFor scope env=pure cl/\(∀x c,cl.lookup x=some c->env.cells.lookup x=some c)/\∀x,(x,NameKind.free)∈scope.names->∃c,cl.lookup x=some c:=by
 have gen:∀(names:List (Str×Xu)) (cs:List (Str×Sr)),(∀x,(x,NameKind.free)∈names->∃c,env.cells.lookup x=some c)->(∀x c,cs.lookup x=some c->env.cells.lookup x=some c)->
   ∃cl:List (Str×Sr),(forIn names cs λ(x:Str×Xu) (r:List (Str×Sr))=>(match x with|(name,kind)=>if (kind==NameKind.free)=true then (do let a ←cellOf env name;pure (ForInStep.yield ((name,a)::r))) else pure (ForInStep.yield r):Sem (ForInStep (List (Str×Sr)))))=(pure cl:Sem _)/\
    (∀x c,cl.lookup x=some c->env.cells.lookup x=some c)/\(∀x c,cs.lookup x=some c->∃c',cl.lookup x=some c')/\∀x,(x,NameKind.free)∈names->∃c,cl.lookup x=some c:=by
  intro names
  induction names with
  |nil=>intro cs _ h;exact⟨cs,rfl,h,λx c e=>⟨c,e⟩,λx hx=>absurd hx (by simp)⟩
  |cons p r ih=>
   intro cs hn h;obtain⟨n,k⟩:=p;by_cases hk:k=NameKind.free
   ·subst hk;obtain⟨c,hc⟩:=hn n Sd;have h':∀x c',((n,c)::cs).lookup x=some c'->env.cells.lookup x=some c':=λx c' e=>by
     rw[T5] at e;by_cases hx:x==n
     ·rw[hx] at e;have:x=n:=by simpa using hx
      subst this;cases e;exact hc
     ·rw[Xm.mpr hx] at e;exact h x c' e
    obtain⟨cl,e1,e2,e3,e4⟩:=ih ((n,c)::cs) (λx hx=>hn x (Sn _ hx)) h';refine⟨cl,?_,e2,λx c' e=>?_,λx hx=>?_⟩
    ·rw[List.forIn_cons];have:cellOf env n=pure c:=by unfold cellOf;rw[hc]
     simp only[beq_self_eq_true,if_true,this];exact e1
    ·by_cases hx:x=n
     ·subst hx;exact e3 x c (by rw[T5];simp)
     ·exact e3 x c' (by rw[T5,show (x==n)=false from by simpa using hx];exact e)
    ·rcases Ss.mp hx with e|hx
     ·cases e;exact e3 n c (by rw[T5];simp)
     ·exact e4 x hx
   ·obtain⟨cl,e1,e2,e3,e4⟩:=ih cs (λx hx=>hn x (Sn _ hx)) h;refine⟨cl,?_,e2,e3,λx hx=>?_⟩
    ·rw[List.forIn_cons];have:(k==NameKind.free)=false:=by simpa using hk
     simp only[this,SQ,if_false];exact e1
    ·rcases Ss.mp hx with e|hx
     ·cases e;exact absurd rfl hk
     ·exact e4 x hx
 obtain⟨cl,e1,e2,_,e4⟩:=gen scope.names [] hf (λx c e=>by simp at e);refine⟨cl,?_,e2,e4⟩;unfold closureFor;exact (congrArg (λm=>m >>= λr=>pure r) e1).trans rfl
structure sF where
 C:Sr
 s:Sk
 H:Hp
 fp:List Sr
 pins:List (Sr×Obj)
 cl:List (Str×Sr)
noncomputable abbrev eO (X:Cx)(scope:Scope)(N:List Str)(Y:sF):Cx where
 prog:=X.prog
 w:=X.w
 K:=X.K
 mg:=X.mg
 base:=X.base
 A:=X.A
 N:=N
 s₀:=Y.s
 H₀:=Y.H
 env:=compEnvC scope Y.cl Y.C X.env
 outer:=X.stack
 stack:=X.stack
 ex:=Y.fp
 fn:=λ_=>false
 calm:=X.calm
 pn:=X.pn++Y.pins
 xe:=λ_ _=>False
noncomputable def wJ (ni:Scope)(NX:List Str)(scope:Scope)(N:List Str)(js:List (Option Nat)):Bool:=
 decide (scope.kind=.function)&&scope.names.all (λy=>decide (y.2≠.cell))&&scope.names.all (λy=>decide (y.2=.local->scope.names.lookup y.1=some .local))&&decide (js.length=N.length) &&
 (js.zip N).all (λp=>match p.1 with|none=>true|some j=>decide (NX[j]? = some p.2)&&decide (scope.names.lookup p.2=some .free)) &&
 scope.names.all (λy=>decide (y.2=.free->ni.names.lookup y.1=some .cell\/ni.names.lookup y.1=some .free))
structure nP (ni:Scope)(NX:List Str)(scope:Scope)(N:List Str)(js:List (Option Nat)):Prop where
 kind:scope.kind=.function
 nocell:∀y∈scope.names,y.2≠.cell
 loc:∀y∈scope.names,y.2=.local->scope.names.lookup y.1=some .local
 len:js.length=N.length
 cap:∀(i j:Nat) (x:Str),js[i]? = some (some j)->N[i]? = some x->NX[j]? = some x/\scope.names.lookup x=some .free
 free:∀x,(x,NameKind.free)∈scope.names->ni.names.lookup x=some .cell\/ni.names.lookup x=some .free
theorem wJ.to {ni:Scope}{NX:List Str}(h:wJ ni NX scope N js=true):nP ni NX scope N js:=by
 unfold wJ at h;simp only[Sa] at h;obtain⟨⟨⟨⟨⟨h1,h2⟩,h3⟩,h4⟩,h5⟩,h6⟩:=h;refine⟨of_decide_eq_true h1,λy hy=>of_decide_eq_true (S4.mp h2 y hy),λy hy=>of_decide_eq_true (S4.mp h3 y hy),of_decide_eq_true h4,λi j x e1 e2=>?_,λx hx=>of_decide_eq_true (S4.mp h6 (x,NameKind.free) hx) rfl⟩;have hz:(js.zip N)[i]? = some (some j,x):=by
  rw[List.getElem?_zip_eq_some];exact⟨e1,e2⟩
 have q:=S4.mp h5 _ (Uo hz);simp only[Sa] at q;exact⟨of_decide_eq_true q.1,of_decide_eq_true q.2⟩
noncomputable def qZ (js:List (Option Nat))(σ:St):St:=js.map λo=>match o with
 |none=>none
 |some j=>match σ[j]? with
  |some v=>v
  |none=>none
theorem kJ (r9:∀y∈scope.names,y.2≠.cell)(h:(relabel scope env).names.lookup x=some .cell\/(relabel scope env).names.lookup x=some .free):(x,NameKind.free)∈scope.names:=by
 have gen:∀k,(k=NameKind.cell\/k=NameKind.free)->(relabel scope env).names.lookup x=some k->(x,NameKind.free)∈scope.names:=λk hk e=>by
  have hm:=Td e;obtain⟨⟨n,k0⟩,hy,q⟩:=So.mp hm;dsimp only at q;split at q
  ·rename_i c;simp only[Sa,beq_iff_eq] at c;cases q;obtain⟨⟨c1,_⟩,_⟩:=c;rw[c1] at hy;exact hy
  ·cases q;rcases hk with hk|hk
   ·exact absurd hk (r9 _ hy)
   ·rw[hk] at hy;exact hy
 rcases h with h|h
 ·exact gen _ (.inl rfl) h
 ·exact gen _ (.inr rfl) h
theorem df {env:Env}{x:Str}:∀{names:List (Str×Xu)},names.lookup x=some .free->
  (names.map λ(n,k)=>if (k==NameKind.free&&env.scope.kind==.function&&env.kindOf n==some .cell) then (n,NameKind.cell) else (n,k)).lookup x=some .cell \/
  (names.map λ(n,k)=>if (k==NameKind.free&&env.scope.kind==.function&&env.kindOf n==some .cell) then (n,NameKind.cell) else (n,k)).lookup x=some .free
 | [],h=>by simp at h
 | (n,k)::r,h=>by
  rw[RY];by_cases hx:x==n
  ·rw[T5,hx] at h;cases h;by_cases c:(NameKind.free==NameKind.free&&env.scope.kind==.function&&env.kindOf n==some .cell)=true
   ·refine .inl ?_;show List.lookup x ((if (NameKind.free==NameKind.free&&env.scope.kind==.function&&env.kindOf n==some .cell)=true then (n,NameKind.cell) else (n,NameKind.free))::_)=_;rw[h9 c,T5,hx]
   ·refine .inr ?_;show List.lookup x ((if (NameKind.free==NameKind.free&&env.scope.kind==.function&&env.kindOf n==some .cell)=true then (n,NameKind.cell) else (n,NameKind.free))::_)=_;rw[hZ c,T5,hx]
  ·have Ni:=Xm.mpr hx;rw[T5,Ni] at h;have ih:=df (env:=env) (x:=x) (names:=r) h;have e:∀p:Str×Xu,p.1=n->List.lookup x (p::(r.map λ(n,k)=>if (k==NameKind.free&&env.scope.kind==.function&&env.kindOf n==some .cell) then (n,NameKind.cell) else (n,k))) =
     List.lookup x (r.map λ(n,k)=>if (k==NameKind.free&&env.scope.kind==.function&&env.kindOf n==some .cell) then (n,NameKind.cell) else (n,k)):=λp hp=>by
    obtain⟨p1,p2⟩:=p;cases hp;rw[T5,Ni]
   rw[e _ (by dsimp only;split<;>rfl)];exact ih
def EZ (X:Cx)(wx:List T6)(t:TT):Prop:=
 ∀(pins:List (Sr×Obj)) (s:Sk) (σ:St) (H:Hp) (Q:Bool->Hp->Prop),ay X pins σ H s->t σ H Q->
  Sv (SN X.prog X.w) X.A (forIn wx true λc r=>if r=true then do let ok ←isTrue c X.env (VP c X.env);pure (ForInStep.yield ok) else pure (ForInStep.yield r)) (TP X pins σ Q) X.xe s
def Ow:TT:=λ_ H Q=>Q true H
theorem Bt:EZ X [] Ow:=λ_ _ _ H _ I h=>wpAny_tests_nil ⟨H,I,h⟩
end L2
namespace L2
theorem iZ {w:Tq}{A:S2}{R:Result->Sk->Prop}{xP mD:T6}{it b8:R6}(I:Nat->Sk->Prop)(turn:∀n s,I n s->Sv (SN prog w) A (WA it) (λr s₁=>match r with
   |none=>R (.ok .next) s₁
   |some v=>Sv (SN prog w) A (WB mD it v) (λ_ P9=>Sv (SN prog w) A (assign mD env v) (λ_ s₂=>
     Sv (SN prog w) A (forIn wx true λc r=>if r=true then do let ok ←isTrue c env (VP c env);pure (ForInStep.yield ok) else pure (ForInStep.yield r)) (λok s₃=>
      if ok=true then Sv (SN prog w) A (VP xP env) (λx s₄=>
       Sv (SN prog w) A (call (.builtin "list.append") [b8,x]) (λ_ s₅=>∃m,m<n/\I m s₅) (λ_ _=>False) s₄) (λ_ _=>False) s₃
      else ∃m,m<n/\I m s₃) (λ_ _=>False) s₂) (λ_ _=>False) P9) (λ_ _=>False) s₁) (λ_ _=>False) s)(n:Nat)(h:I n s) :
  codeAny (SN prog w) A (.compLoop (.ListComp xP [⟨mD,iter,wx,0⟩] scope pos) 0 it b8 env) R s:=by
 refine codeAny_loop rfl I (λn s hI=>?_) n h;show Sv _ A ((compTurn (.ListComp xP [⟨mD,iter,wx,0⟩] scope pos) 0 it b8 env).onRaise (λx=>do noteFrame x env;theTreesLotGoes x)) _ _ s;refine wpAny_noted ?_;rw[compTurn_list];have fe:∀{e:R6} {s':Sk} {Z:Prop},(λ(_:R6) (_:Sk)=>False) e s'->Z:=λh=>h.elim;refine RW (wpAny_standAt (RW (S8 (turn n s hI) (λr s₁ h₁=>?_) λ_ _ h'=>h'.elim)));cases r with
 |none=>exact RZ h₁
 |some v=>
  refine RW (S8 h₁ (λ_ P9 QM=>?_) λ_ _ h'=>h'.elim);refine RW (S8 QM (λ_ s₂ h₂=>RW (S8 h₂ (λok s₃ h₃=>?_) λ_ _ h'=>h'.elim)) λ_ _ h'=>h'.elim);cases ok with
  |false=>exact RZ ⟨rfl,h₃⟩
  |true=>
   exact RW (RW (S8 h₃ (λx s₄ h₄=>RW (S8 h₄ (λ_ s₅ h₅=>RZ (RZ ⟨rfl,h₅⟩)) λ_ _ h'=>h'.elim)) λ_ _ h'=>h'.elim))
def LC (J:It)(js:List (Option Nat))(g:sF->TG)(tt:sF->TT)(te:sF->TE)(σ:St)(H1:Hp)(P:List V->Hp->Prop):Prop:=
 ∀Y:sF,∃W:Nat->Nat->List V->Hp->Prop,(∃m,W 0 m [] H1)/\∀i m ys H2,W i m ys H2->
  (J.stop i H2/\P ys H2) \/
  (J.go i H2/\ys.length<R3/\∃Nx:List V->Hp->Prop,(∀Ir H',Nx Ir H'->∃m',m'<m/\W (i+1) m' Ir H')/\∀x H3,J.yld i H2 x H3->g Y x (qZ js σ) H3 λσ4 H4=>tt Y σ4 H4 λb H5=>
   if b=true then te Y σ4 H5 λy H6=>Nx (ys++[y]) H6 else Nx ys H5)
def Ox (wi:TI)(js:List (Option Nat))(g:sF->TG)(tt:sF->TT)(te:sF->TE):TE:=λσ H Q=>wi σ H λJ H1=>
 LC J js g tt te σ H1 λys H2=>∀p,H2 p=none->Q (.ref p) (cu H2 p (.lst ys))
theorem wK {E:R6->Sk->Prop}{s2:Sk}{xP:T6}{ni:Scope}{g:sF->TG}{tt:sF->TT}{te:sF->TE}{J:It}{it:Sr}{tn:Nat->UU->Prop}{P:List V->Hp->Prop}{cl:List (Str×Sr)}{RR:R6->Sr->Result->Sk->Prop}(I:ay X pins σ H s2)(hc:X.calm=true)(T:wz X.prog X.w X.K tg J fp it tn)(kA:tn 0 s2.heap)(f2:∀b∈fp,om X pins H b)(AN:∀Y:sF,PG (eO X scope N Y) tg (g Y)/\EZ (eO X scope N Y) wx (tt Y)/\PE (eO X scope N Y) xP (te Y))(S:nP ni X.N scope N js)(qp:X.env.scope=ni)(c1:∀x c,cl.lookup x=some c->X.env.cells.lookup x=some c)(c2:∀x,(x,NameKind.free)∈scope.names->∃c,cl.lookup x=some c)(h:LC J js g tt te σ H P)(hR:∀(b8 C:Sr) (ys:List V) (H':Hp) (s':Sk),ay X pins σ (cu H' b8 (.lst ys)) s'->(∃m,s'.heap.Ns C m)->om X pins (cu H' b8 (.lst ys)) C->H' b8=none->P ys H'->RR (.ref b8) C (.ok .next) s') :
  Sv (SN X.prog X.w) X.A (newList []) (λb8 s₃=>Sv (SN X.prog X.w) X.A (newFunctionEnv scope X.env.globals cl [] X.env.qual none .none (some X.env)) (λNj s₄=>
   codeAny (SN X.prog X.w) X.A (.compStart (.ListComp xP [⟨tg,iter,wx,0⟩] scope pos) 0 (.ref it) b8 {Nj with scope:=relabel scope X.env}) (RR b8 Nj.locals) s₄) E s₃) E s2:=by
 refine SG (wpAny_newFunctionEnv S.nocell (by intro y hy;simp at hy) (λh₁ Ky GD=>?_) S.kind);dsimp only at Ky GD ⊢;generalize hH2:s2.heap.push {cls:=.type "list",dict:=none,data:=.seq ([]:List R6).toArray}=H2 at Ky GD ⊢;have hC:H2.objs.size=s2.heap.objs.size+1:=by rw[←hH2,Xc]
 have N3:s2.heap.objs.size≠H2.objs.size:=by rw[hC];exact SJ (Nat.lt_succ_self _)
 have GF:s2.heap.objs.size<=H2.objs.size:=by rw[hC];exact Nat.le_succ _
 have below:∀b,b<s2.heap.objs.size->b≠H2.objs.size/\b≠s2.heap.objs.size:=λb hb=>⟨by rw[hC];exact SJ (V0 hb),SJ hb⟩;have GG:∀b o,s2.heap.get? b=some o->h₁.get? b=some o:=λb o e=>GD.extBut b o (below b (Sl e)).1 (R4 _ (hH2▸R4 _ e));have nM:h₁.PlainList s2.heap.objs.size #[]:=⟨_,GD.extBut _ _ N3 (R4 _ (hH2▸R9 _ rfl))⟩;have O9:∀b∈fp,b<s2.heap.objs.size:=λb hb=>by
  obtain⟨o,e,_⟩:=T.obj _ _ kA b hb;exact Sl e
 generalize hCg:H2.objs.size=C at *;generalize hAg:s2.heap.objs.size=b8 at *
 let Y:sF:=⟨C,s2,H,fp,pins,cl⟩
 have ok:(eO X scope N Y).Ok:=by
  refine⟨I.ok.mod,S.kind,I.ok.glob,I.ok.blt,?_,λx y c e1 e2=>I.ok.inj x y c (c1 x c e1) (c1 y c e2),λx hx=>c2 x (kJ S.nocell hx),λx c e=>(by cases e),I.ok.hd,I.ok.frames,.inl rfl,λb hb=>⟨?_,λx c e=>?_⟩,I.bs,Sz I.ok.bsz I.sz,λb o e hb=>?_,λb hb hf=>?_,I.stack,I.stkFree⟩
  ·show s2.heap.objs.size<=C;rw[hAg];exact GF
  ·exact (below b (O9 b hb)).1
  ·exact (f2 b hb).2.2.2.2.1 x c (c1 x c e)
  ·rcases (f2 b hb).2.2.2.1 with z|z
   ·exact I.ok.noex b o e z
   ·exact absurd (SK (Sl (I.ok.bs b o e).1) z) (TZ _)
  ·rcases Ss.mp (I.stkSub b hf) with z|z
   ·exact (f2 b hb).2.1 z
   ·exact (f2 b hb).2.2.1 z
 have O_:∀x c,X.env.cells.lookup x=some c->c<b8:=λx c e=>by
  obtain⟨v,q⟩:=I.cell x c e;rw[←hAg];exact q.lt
 have Im:∀p∈X.pn++pins,p.1<b8:=λp hp=>by rw[←hAg];exact Sl (I.pin p hp).1
 have RP:X.env.locals<b8:=by rw[←hAg];exact I.lt
 have Nk:∀b∈oh X.stack,b<b8:=λb hb=>by
  obtain⟨_,o,ho,_⟩:=I.stack.mem hb;rw[←hAg];exact Sl ho
 have Nl:∀p∈X.pn++pins,p.1∉oh X.stack:=λp hp hf=>by
  rcases Ss.mp (I.stkSub _ hf) with z|z
  ·exact (I.pin p hp).2.2.1 z
  ·exact (I.pin p hp).2.2.2.1 z
 have zE:H b8=none:=by rw[←hAg];exact I.hok.fresh (Sb _)
 have QN:H C=none:=I.hok.fresh (by rw[hAg];exact GF);have I4:∀tk:Nat,ay (eO X scope N Y) [] (qZ js σ) H {s2 with heap:=h₁,toks:=tk}:=λtk=>by
  refine⟨ok,rfl,I.bare,Un.kept GG,⟨_,Ky,λi x v e1 e2 e3=>?_⟩,λx c e=>?_,QN,λx c e=>I.freeC x c (c1 x c e),λp hp=>?_,I.hok.kept GG,?_⟩
  ·
   have Kz:(qZ js σ)[i]? = some (some v):=e2;unfold qZ at Kz;rw[R_] at Kz;cases hj:js[i]? with
   |none=>rw[hj] at Kz;cases Kz
   |some o=>
    rw[hj] at Kz;cases o with
    |none=>cases Kz
    |some j=>
     have e4:(match σ[j]? with|some v=>v|none=>none)=some v:=SH Kz;obtain⟨nx,fr⟩:=S.cap i j x hj e1;have e5:σ[j]? = some (some v):=by
      cases q:σ[j]? with
      |none=>rw[q] at e4;cases e4
      |some z=>rw[q] at e4;rw[show z=some v from e4]
     obtain⟨m,hn,hl⟩:=I.loc;have kx:X.env.scope.names.lookup x=some .cell\/X.env.scope.names.lookup x=some .free:=by rw[qp];exact S.free x (Td fr)
     obtain⟨u,r,lk⟩:=hl j x v nx e5 (.inr kx);refine⟨u,r,.inr ⟨df fr,?_⟩⟩;obtain⟨c,hcl⟩:=c2 x (Td fr);rcases lk with⟨k,_⟩|⟨k,c',e',z⟩
     ·have k':X.env.scope.names.lookup x=some .local:=k;rcases kx with q|q<;>· rw[q] at k';cases k'
     ·have:c'=c:=by
       have:=c1 x c hcl;rw[e'] at this;exact SH this
      subst this;obtain⟨o,ho,hd⟩:=z;exact⟨c',hcl,o,GG _ _ ho,hd⟩
  ·obtain⟨v,o,ho,hd⟩:=I.cell x c (c1 x c e);exact⟨v,o,GG _ _ ho,hd⟩
  ·have zF:p∈X.pn++pins:=by simpa using hp
   obtain⟨q1,q2,q3,q4,q5⟩:=I.pin p zF;exact⟨GG _ _ q1,q2,λz=>absurd (Im p zF) (by rw[z];exact Nat.not_lt.mpr GF),Nl p zF,q5⟩
  ·show (qZ js σ).length=N.length;unfold qZ;rw[RX];exact S.len
 obtain⟨hg,ht,he⟩:=AN Y;obtain⟨W,⟨m0,w0⟩,turn⟩:=h Y;have Pa:∀{H':Hp} {pl:List (Sr×Obj)},H' b8=none->(∀p∈pl,p.1≠b8)->om (eO X scope N Y) pl H' b8:=λ{H' pl} hn hp=>by
  refine⟨hn,N3,λz=>absurd (Nk _ z) (TZ _),.inr (by show s2.heap.objs.size<=b8;rw[hAg];exact Sb _),λx c e=>SJ (O_ x c (c1 x c e)),λp zF=>?_⟩;rcases Tz.mp zF with z|z
  ·exact SJ (Im p z)
  ·exact hp p z
 have Pb:∀{H':Hp} {pl:List (Sr×Obj)},(∀b∈fp,H' b=none)->(∀p∈pl,p.1∉fp)->∀b∈fp,om (eO X scope N Y) pl H' b:=λ{H' pl} hn hp b hb=>by
  refine⟨hn b hb,(below b (O9 b hb)).1,λz=>?_,.inl hb,λx c e=>(f2 b hb).2.2.2.2.1 x c (c1 x c e),λp zF=>?_⟩
  ·rcases Ss.mp (I.stkSub b z) with q|q
   ·exact (f2 b hb).2.1 q
   ·exact (f2 b hb).2.2.1 q
  ·rcases Tz.mp zF with z|z
   ·exact (f2 b hb).2.2.2.2.2 p z
   ·exact λe=>hp p z (by rw[e];exact hb)
 have P_:b8∉fp:=λz=>absurd (O9 b8 z) (by intro q;rw[hAg] at *;exact TZ _ q);have Pc:∀{i:Nat} {x:Str} {v:V},N[i]? = some x->(qZ js σ)[i]? = some (some v)->∃u c o,aM v u/\scope.names.lookup x=some .free/\cl.lookup x=some c/\s2.heap.get? c=some o/\o.data=.cell (some u):=λ{i x v} e1 e2=>by
  unfold qZ at e2;rw[R_] at e2;cases hj:js[i]? with
  |none=>rw[hj] at e2;cases e2
  |some o=>
   rw[hj] at e2;cases o with
   |none=>cases e2
   |some j=>
    have e4:(match σ[j]? with|some v=>v|none=>none)=some v:=SH e2;obtain⟨nx,fr⟩:=S.cap i j x hj e1;have e5:σ[j]? = some (some v):=by
     cases q:σ[j]? with
     |none=>rw[q] at e4;cases e4
     |some z=>rw[q] at e4;rw[show z=some v from e4]
    obtain⟨m,hn,hl⟩:=I.loc;have kx:X.env.scope.names.lookup x=some .cell\/X.env.scope.names.lookup x=some .free:=by rw[qp];exact S.free x (Td fr)
    obtain⟨u,r,lk⟩:=hl j x v nx e5 (.inr kx);obtain⟨c,hcl⟩:=c2 x (Td fr);rcases lk with⟨k,_⟩|⟨k,c',e',z⟩
    ·have k':X.env.scope.names.lookup x=some .local:=k;rcases kx with q|q<;>· rw[q] at k';cases k'
    ·have:c'=c:=by
      have:=c1 x c hcl;rw[e'] at this;exact SH this
     subst this;obtain⟨o,ho,hd⟩:=z;exact⟨u,c',o,r,fr,hcl,ho,hd⟩
 have Nm:∀{pl:List (Sr×Obj)} {σ':St} {H':Hp} {s':Sk},ay (eO X scope N Y) pl σ' H' s'->ay (eO X scope N Y) pl (qZ js σ) H' s':=λ{pl σ' H' s'} K=>by
  refine⟨K.ok,K.os,K.bare,K.base,?_,K.cell,K.free,K.freeC,K.pin,K.hok,?_⟩
  ·obtain⟨m,hn,_⟩:=K.loc;refine⟨m,hn,λi x v e1 e2 e3=>?_⟩;obtain⟨u,c,o,r,fr,hcl,ho,hd⟩:=Pc e1 e2;refine⟨u,r,.inr ⟨df fr,c,hcl,?_⟩⟩;obtain⟨sl,q⟩:=K.base.any ho (I.freeC x c (c1 x c hcl)) λz=>(f2 c z).2.2.2.2.1 x c (c1 x c hcl) rfl;exact⟨_,q,hd⟩
  ·show (qZ js σ).length=N.length;unfold qZ;rw[RX];exact S.len
 have Nn:∀tk:Nat,codeAny (SN X.prog X.w) X.A (.compLoop (.ListComp xP [⟨tg,iter,wx,0⟩] scope pos) 0 (.ref it) (.ref b8) (compEnvC scope cl C X.env)) (RR (.ref b8) C) {s2 with heap:=h₁,toks:=tk}:=by
  intro tk;refine iZ (λn s'=>∃(i:Nat) (ys:List V) (ax:List R6) (H':Hp),ay (eO X scope N Y) [] (qZ js σ) H' s'/\tn i s'.heap/\(∀b∈fp,H' b=none)/\H' b8=none/\s'.heap.PlainList b8 ax.toArray/\aO ys ax/\ys.length<=R3/\W i n ys H') ?_ m0
   ⟨0,[],[],H,I4 tk,T.keep _ _ _ kA (λb hb o e=>GG b o e),λb hb=>(f2 b hb).1,zE,nM,.nil,WG _,w0⟩
  rintro n s3 ⟨i,ys,ax,H3,I3,KN,fr3,na3,⟨nn,ea⟩,rv3,hz3,w3⟩;have KA:∀p∈[(b8,({cls:=.type "list",data:=.seq ax.toArray nn}:Obj))],p.1∉fp:=λp hp=>by
   have e:p=(b8,({cls:=.type "list",data:=.seq ax.toArray nn}:Obj)):=by simpa using hp
   rw[e];exact P_
  have Ip:ay (eO X scope N Y) [(b8,({cls:=.type "list",data:=.seq ax.toArray nn}:Obj))] (qZ js σ) H3 s3:=I3.pins_of λp hp=>by
   have e:p=(b8,({cls:=.type "list",data:=.seq ax.toArray nn}:Obj)):=by simpa using hp
   subst e;exact⟨ea,na3,N3,λz=>absurd (Nk _ z) (TZ _),λv z=>by cases z⟩
  rcases turn i n ys H3 w3 with⟨stop,p⟩|⟨go,qQ,Nx,hNx,step⟩
  ·refine S8 (T.done (eO X scope N Y) rfl rfl rfl hc i _ s3 _ H3 (λ_ _=>False) Ip (Pb fr3 KA) KN stop) (λr s4 QO=>?_) λ_ _ z=>z;obtain⟨hr,J4⟩:=QO;subst hr;have pa:=(J4.pin (b8,({cls:=.type "list",data:=.seq ax.toArray nn}:Obj)) (SW _ Sd)).1;have u:Un (oh X.stack) fp H (cu H3 b8 (.lst ys)) s2.heap s4.heap:=
    ⟨J4.base.keep,J4.base.slot,λb o e nb hx=>by rw[aL (below b (by rw[←hAg];exact Sl e)).2];exact J4.base.free b o e nb hx,J4.base.there,
     λb xs e=>by rw[aL (br e zE)];exact J4.base.tups b xs e,λb o w' e=>by rw[aL (br e zE)];exact J4.base.frzs b o w' e,λb ps e=>by rw[aL (br e zE)];exact J4.base.tbls b ps e⟩
   have hok:gK X.prog X.w (cu H3 b8 (.lst ys)) s4.heap:=λb o e=>by
    by_cases hb:b=b8
    ·subst hb;rw[bo] at e;cases e;exact⟨hz3,ax,nn,rv3,pa⟩
    ·rw[aL hb] at e;refine (J4.hok b o e).stay (λ_ _ _ q=>q) (λc q=>?_) λc xs q=>?_
     ·rw[aL (br q na3)];exact q
     ·rw[aL (br q na3)];exact q
   have Pd:ay X pins σ (cu H3 b8 (.lst ys)) s4:=I.call' (ch:=fp) J4.os u hok J4.bare λb hb=>⟨(f2 b hb).2.2.2.1,(f2 b hb).2.1,(f2 b hb).2.2.2.2.1,(f2 b hb).2.2.2.2.2⟩;have QP:∃m,s4.heap.Ns C m:=by obtain⟨m,hn,_⟩:=J4.loc;exact⟨m,hn⟩
   exact hR b8 C ys H3 s4 Pd QP (I.fpOk (by rw[hAg];exact GF) (by rw[aL (Ne.symm N3)];exact J4.free)) na3 p
  ·refine S8 (T.item (eO X scope N Y) rfl rfl rfl hc i _ s3 _ H3 (λ_ _=>False) Ip (Pb fr3 KA) KN go) (λr s4 h4=>?_) λ_ _ z=>z;obtain⟨u,hr,h4⟩:=h4;subst hr;refine S8 h4 (λ_ s5 h5=>?_) λ_ _ z=>z;obtain⟨x,H5,I5,r5,y5,st5,fr5⟩:=h5;have O1:=I5.pinned (Pb fr5 KA) (T.obj _ _ st5);refine S8 (hg _ s5 _ H5 x u _ O1 r5 (step x H5 y5)) (λ_ s6 h6=>?_) λ_ _ z=>z;obtain⟨σ6,H6,I6,q6⟩:=h6;refine S8 (ht _ s6 σ6 H6 _ I6 q6) (λb s7 h7=>?_) λ_ _ z=>z;obtain⟨H7,I7,q7⟩:=h7;have Np:∀{H8:Hp} {σ8:St} {s8:Sk},ay (eO X scope N Y) ([(b8,({cls:=.type "list",data:=.seq ax.toArray nn}:Obj))]++oq fp s5.heap) σ8 H8 s8->
     s8.heap.get? b8=some ({cls:=.type "list",data:=.seq ax.toArray nn}:Obj)/\H8 b8=none/\(∀b∈fp,H8 b=none)/\(∀b∈fp,∀o,s5.heap.get? b=some o->s8.heap.get? b=some o):=λ{H8 σ8 s8} K=>by
    have q:=K.pin (b8,({cls:=.type "list",data:=.seq ax.toArray nn}:Obj)) (SW _ (Vc _ Sd));refine⟨q.1,q.2.1,λb hb=>?_,λb hb o e=>(K.pin (b,o) (SW _ (SW _ (ik hb e)))).1⟩;obtain⟨o,e,d⟩:=T.obj _ _ st5 b hb;exact (K.pin (b,o) (SW _ (SW _ (ik hb e)))).2.1
   have Eg:∀{H8:Hp} {σ8:St} {s8:Sk} {pl:List (Sr×Obj)},ay (eO X scope N Y) pl σ8 H8 s8->ay (eO X scope N Y) [] σ8 H8 s8:=λK=>K.pins_of λp hp=>absurd hp (by simp);cases b with
   |false=>
    rw[hZ (by simp)] at q7;obtain⟨m',hm,w7⟩:=hNx _ _ q7;obtain⟨p1,p2,p3,p4⟩:=Np I7;exact⟨m',hm,i+1,ys,ax,H7,Nm (Eg I7),T.keep _ _ _ st5 p4,p3,p2,⟨nn,p1⟩,rv3,hz3,w7⟩
   |true=>
    rw[h9 rfl] at q7;refine S8 (he _ s7 σ6 H7 _ I7 q7) (λv s8 h8=>?_) λ_ _ z=>z;obtain⟨y,H8,I8,r8,q8⟩:=h8;obtain⟨m',hm,w8⟩:=hNx _ _ q8;obtain⟨p1,p2,p3,p4⟩:=Np I8;refine wpAny_list_append_plain (items:=ax.toArray) ⟨nn,p1⟩ (λh' QQ sb=>?_) (by rw[R7,←rv3.length];exact hz3);obtain⟨f0,f1,f2',f3,f4,f5⟩:=Pa (H':=H8) (pl:=[]) p2 (by simp);have I9:ay (eO X scope N Y) [] σ6 H8 {s8 with heap:=h'}:=(Eg I8).turned (t':=s8.toks) (λb o hb e=>(sb.2 b hb).trans e) f0 f1 f3 f4 f5;refine⟨m',hm,i+1,ys++[y],ax++[v],H8,Nm I9,T.keep _ _ _ st5 (λb hb o e=>(sb.2 b (λz=>P_ (z▸hb))).trans (p4 b hb o e)),p3,p2,?_,rv3.append (.cons r8 .nil),?_,w8⟩
    ·rw[show (ax++[v]).toArray=ax.toArray.push v from by simp];exact QQ
    ·rw[Se,Ub];exact qQ
 exact codeAny_compStart_list (Nn _) (T.self _ _ _ _ _ (T.keep _ _ _ kA (λb hb o e=>GG b o e)) (Nn _))
theorem wL {ni:Scope}(I:ay X pins σ H s)(S:nP ni X.N scope N js)(qp:X.env.scope=ni) :
  ∃cl:List (Str×Sr),closureFor scope X.env=pure cl/\(∀x c,cl.lookup x=some c->X.env.cells.lookup x=some c)/\∀x,(x,NameKind.free)∈scope.names->∃c,cl.lookup x=some c:=
 wI λx hx=>I.ok.has x (by
  have:=S.free x hx;rw[←qp] at this;exact this)
theorem GR {xP:T6}{wi:TI}{g:sF->TG}{tt:sF->TT}{te:sF->TE}(ni:Scope)(NX N:List Str)(js:List (Option Nat))(hc:X.calm=true)(hi:PI X tg iter wi)(AN:∀Y:sF,PG (eO X scope N Y) tg (g Y)/\EZ (eO X scope N Y) wx (tt Y)/\PE (eO X scope N Y) xP (te Y))(qp:X.env.scope=ni:=by rfl)(Nq:X.N=NX:=by rfl)(hS:wJ ni NX scope N js=true:=by decide+kernel)(hs:∀x,UD iter X.env x=pure x:=by intro _;rfl):PE X (.ListComp xP [⟨tg,iter,wx,0⟩] scope pos) (Ox wi js g tt te):=by
 intro pins s σ H Q I h;have S:nP ni X.N scope N js:=by rw[Nq];exact wJ.to hS
 obtain⟨cl,e1,e2,e3⟩:=wL I S qp;rw[eval_ListComp];refine wpAny_comprehension_free (use:=none) rfl hs e1 S.kind S.loc (cM (hi pins s σ H _ I h) λv s1 h1=>cM h1 λO0 s2 h2=>?_);obtain⟨it,fp,tn,J,H2,e,I2,T,kA,f2,q⟩:=h2;subst e;refine wK (RR:=λb8 C=>compPost (SN X.prog X.w) X.A X.xe none (EP X pins σ Q) b8 C) I2 hc T kA f2 AN S qp e2 e3 q ?_;intro b8 C ys H' s' I' ns fC na p;obtain⟨m,hn⟩:=ns;obtain⟨f0,f1,f2',f3,f4,f5⟩:=fC;exact⟨m,hn,λh' sb=>⟨.ref b8,_,I'.turned (t':=s'.toks) (λb o hb e=>(sb.2 b hb).trans e) f0 f1 f3 f4 f5,rfl,p b8 na⟩⟩
def LD (J:It)(g:TG)(tb:TS)(D:lR)(σ:St)(H1:Hp):Prop:=∃W:Nat->Nat->St->Hp->Prop,(∃m,W 0 m σ H1)/\∀i m σ H,W i m σ H->
 (J.stop i H/\D.nx σ H)\/(J.go i H/\∃N:St->Hp->Prop,(∀σ' H',N σ' H'->∃m',m'<m/\W (i+1) m' σ' H')/\∀x H',J.yld i H x H'->g x σ H' λσ2 H2=>tb {D with nx:=N,ct:=N,bk:=D.nx} σ2 H2)
def LF (wi:TI)(g:TG)(tb:TS):TS:=λD σ H=>wi σ H λJ H1=>LD J g tb D σ H1
theorem E1 {wi:TI}{g:TG}(hp:Xw (SN X.prog X.w) X.A X.env X.xe)(hc:X.calm=true)(hi:PI X tg iter wi)(hg:PG X tg g)(hb:qy X body tb)(hs:∀x,UD iter X.env x=pure x:=by intro _;rfl):PS X (.For tg iter body [] pos) (LF wi g tb):=IP hp hc hi hg hb hs
end L2
namespace L2
inductive D where
 |non|bl (b:Bool)|int (i:Int)|str (x:Str)|tup (xs:List D)|lst (xs:List D)
instance:Inhabited D:=⟨.non⟩
mutual
def eg (K:R1)(H:Hp):D->V->Prop
 | .non,v=>v=.non
 | .bl b,v=>v=.bl b
 | .int i,v=>v=.int i
 | .str x,v=>v=.str x
 | .tup ds,v=>∃a xs,v=.ref a/\fF K H a xs/\dj K H ds xs
 | .lst ds,v=>∃a xs,v=.ref a/\eN K H a xs/\dj K H ds xs
def dj (K:R1)(H:Hp):List D->List V->Prop
 | [],xs=>xs=[]
 |d::ds,xs=>∃x r,xs=x::r/\eg K H d x/\dj K H ds r
end
mutual
noncomputable def jJ:D->D->Bool
 | .non,.non=>true
 | .bl a,.bl b=>a==b
 | .bl a,.int b=>(if a then 1 else 0)==b
 | .int a,.bl b=>a==(if b then 1 else 0)
 | .int a,.int b=>a==b
 | .str a,.str b=>a==b
 | .tup xs,.tup ys=>iT xs ys
 | .lst xs,.lst ys=>iT xs ys
 |_,_=>false
noncomputable def iT:List D->List D->Bool
 | [],[]=>true
 |x::xs,y::ys=>jJ x y&&iT xs ys
 |_,_=>false
end
mutual
noncomputable def dU:D->Nat
 | .tup xs=>eP xs+1
 | .lst xs=>eP xs+1
 |_=>0
noncomputable def eP:List D->Nat
 | []=>0
 |x::xs=>max (dU x) (eP xs)
end
theorem dj.length {K:R1}{H:Hp}:∀{ds:List D} {xs:List V},dj K H ds xs->ds.length=xs.length
 | [],_,h=>by unfold dj at h;subst h;rfl
 |d::ds,_,h=>by
  unfold dj at h;obtain⟨x,r,rfl,_,q⟩:=h;rw[Sj,Sj,dj.length q]
theorem dj.get {K:R1}{H:Hp}:∀{ds:List D} {xs:List V} {i:Nat} {d:D} {x:V},dj K H ds xs->ds[i]? = some d->xs[i]? = some x->eg K H d x
 | [],_,_,_,_,_,e,_=>by simp at e
 |d::ds,_,i,d',x',h,e1,e2=>by
  unfold dj at h;obtain⟨x,r,rfl,p,q⟩:=h;cases i with
  |zero=>simp at e1 e2;subst e1 e2;exact p
  |succ i=>exact dj.get q (by simpa using e1) (by simpa using e2)
theorem jx:∀{ds:List D} {i:Nat} {d:D},ds[i]? = some d->dU d<=eP ds
 | [],_,_,e=>by simp at e
 |d::ds,i,d',e=>by
  unfold eP;cases i with
  |zero=>simp at e;subst e;exact Nat.le_max_left _ _
  |succ i=>exact Sz (jx (ds:=ds) (by simpa using e)) (Nat.le_max_right _ _)
noncomputable def kK (xs ys:List D)(j:Nat):Bool:=match xs[j]?,ys[j]? with
 |some a,some b=>jJ a b
 |_,_=>true
theorem gO:∀(xs ys:List D),((SX (min xs.length ys.length)).all (kK xs ys)&&xs.length==ys.length)=iT xs ys
 | [],[]=>by simp[iT]
 | [],_::_=>by simp[iT]
 |_::_,[]=>by simp[iT]
 |x::xs,y::ys=>by
  have ih:=gO xs ys;unfold iT;rw[←ih,Sj,Sj,Nat.add_min_add_right,List.range_succ_eq_map,Tx,List.all_map];have e0:kK (x::xs) (y::ys) 0=jJ x y:=rfl;have e1:(kK (x::xs) (y::ys)∘Nat.succ)=kK xs ys:=by funext j;simp[kK,Function.comp]
  rw[e0,e1,Bool.and_assoc];congr 1;congr 1;rw[Tt];simp
theorem uz {xs ys:List D}(h:xs.length≠ys.length):iT xs ys=false:=by
 rw[←gO,show (xs.length==ys.length)=false from by simpa using h,Bool.and_false]
mutual
theorem i4:∀d:D,jJ d d=true
 | .non=>rfl
 | .bl b=>by unfold jJ;simp
 | .int b=>by unfold jJ;simp
 | .str b=>by unfold jJ;simp
 | .tup xs=>by unfold jJ;exact lW xs
 | .lst xs=>by unfold jJ;exact lW xs
theorem lW:∀ds:List D,iT ds ds=true
 | []=>rfl
 |d::ds=>by unfold iT;rw[i4 d,lW ds];rfl
end
theorem LG {ys:List V}(I:ay X pins σ H s)(h:eN X.K H a xs)(h':fF X.K H a ys):False:=by
 obtain⟨ax,_,p,_⟩:=I.list h;obtain⟨its',_,q,_⟩:=I.tuple h';exact absurd rfl (SeqAt.ne_of_list_tuple p.isList q)
theorem uA (I:ay X pins σ H s):∀n d1 d2 x,dU d1<=n->eg X.K H d1 x->eg X.K H d2 x->jJ d1 d2=true:=by
 have lists:∀n,(∀d1 d2 x,dU d1<=n->eg X.K H d1 x->eg X.K H d2 x->jJ d1 d2=true)->∀(ds es:List D) (xs:List V),eP ds<=n->dj X.K H ds xs->dj X.K H es xs->iT ds es=true:=by
  intro n ih ds
  induction ds with
  |nil=>
   intro es xs _ h1 h2;unfold dj at h1;subst h1;cases es with
   |nil=>rfl
   |cons e es=>unfold dj at h2;obtain⟨x,r,e',_⟩:=h2;cases e'
  |cons d ds ihd=>
   intro es xs hd h1 h2;unfold dj at h1;obtain⟨x,r,rfl,p,q⟩:=h1;cases es with
   |nil=>unfold dj at h2;cases h2
   |cons e es=>
    unfold dj at h2;obtain⟨x',r',e',p',q'⟩:=h2;cases e';unfold eP at hd;unfold iT;rw[ih d e x (Sz (Nat.le_max_left _ _) hd) p p',ihd es r (Sz (Nat.le_max_right _ _) hd) q q'];rfl
 intro n
 induction n with
 |zero=>
  intro d1 d2 x hd h1 h2;have fl:∀d,eg X.K H d x->(∃a,x=.ref a)\/(d=.non/\x=.non)\/(∃b,d=.bl b/\x=.bl b)\/(∃b,d=.int b/\x=.int b)\/∃b,d=.str b/\x=.str b:=λd h=>by
   cases d with
   |non=>unfold eg at h;exact .inr (.inl ⟨rfl,h⟩)
   |bl b=>unfold eg at h;exact .inr (.inr (.inl ⟨b,rfl,h⟩))
   |int b=>unfold eg at h;exact .inr (.inr (.inr (.inl ⟨b,rfl,h⟩)))
   |str b=>unfold eg at h;exact .inr (.inr (.inr (.inr ⟨b,rfl,h⟩)))
   |tup ds=>unfold eg at h;obtain⟨a,_,e,_⟩:=h;exact .inl ⟨a,e⟩
   |lst ds=>unfold eg at h;obtain⟨a,_,e,_⟩:=h;exact .inl ⟨a,e⟩
  have nr:¬∃a,x=.ref a:=λh00=>by
   obtain⟨a,e⟩:=h00;subst e;cases d1 with
   |tup ds=>unfold dU at hd;lia
   |lst ds=>unfold dU at hd;lia
   |_=>unfold eg at h1;cases h1
  have f1:=fl d1 h1;have f2:=fl d2 h2;rcases f1 with f1|⟨rfl,rfl⟩|⟨b,rfl,rfl⟩|⟨b,rfl,rfl⟩|⟨b,rfl,rfl⟩
  ·exact absurd f1 nr
  all_goals
   rcases f2 with f2|⟨rfl,f2⟩|⟨c,rfl,f2⟩|⟨c,rfl,f2⟩|⟨c,rfl,f2⟩
   ·exact absurd f2 nr
   all_goals first|(cases f2;exact i4 _)|cases f2
 |succ n ih=>
  intro d1 d2 x hd h1 h2;cases d1 with
  |tup ds=>
   unfold eg at h1;obtain⟨a,xs,rfl,hs,hr⟩:=h1;cases d2 with
   |tup es=>
    unfold eg at h2;obtain⟨a',xs',e,AQ,hr'⟩:=h2;cases e;have:=I.tuple_inj hs AQ;subst this;unfold jJ;exact lists n ih ds es xs (by unfold dU at hd;lia) hr hr'
   |lst es=>
    unfold eg at h2;obtain⟨a',xs',e,AQ,hr'⟩:=h2;cases e;exact (LG I AQ hs).elim
   |_=>unfold eg at h2;cases h2
  |lst ds=>
   unfold eg at h1;obtain⟨a,xs,rfl,hs,hr⟩:=h1;cases d2 with
   |lst es=>
    unfold eg at h2;obtain⟨a',xs',e,AQ,hr'⟩:=h2;cases e;have:=I.list_inj hs AQ;subst this;unfold jJ;exact lists n ih ds es xs (by unfold dU at hd;lia) hr hr'
   |tup es=>
    unfold eg at h2;obtain⟨a',xs',e,AQ,hr'⟩:=h2;cases e;exact (LG I hs AQ).elim
   |_=>unfold eg at h2;cases h2
  |_=>exact ih _ d2 x (by unfold dU;exact WG _) h1 h2
inductive Ji (K:R1)(H:Hp)(s:Sk):D->V->R6->Prop
 |non:Ji K H s .non .non .none
 |bl (b:Bool):Ji K H s (.bl b) (.bl b) (.bool b)
 |int (i:Int) (t:Tok):Ji K H s (.int i) (.int i) (.int i t)
 |str (x:Str) (t:Tok):Ji K H s (.str x) (.str x) (.str x t)
 |tup {ds:List D} {a:Sr} {xs:List V} {ax:List R6} (hs:fF K H a xs) (hr:dj K H ds xs) (rv:aO xs ax) (p:IsTup s.heap a ax.toArray):Ji K H s (.tup ds) (.ref a) (.ref a)
 |lst {ds:List D} {a:Sr} {xs:List V} {ax:List R6} (hs:eN K H a xs) (hr:dj K H ds xs) (rv:aO xs ax) (p:s.heap.IsList a ax.toArray):Ji K H s (.lst ds) (.ref a) (.ref a)
theorem KP (I:ay X pins σ H s):∀{d:D} {x:V} {u:R6},eg X.K H d x->aM x u->Ji X.K H s d x u:=by
 intro d x u h r;cases d<;>unfold eg at h
 case tup=>obtain⟨a,xs,rfl,hs,hr⟩:=h;cases r;obtain⟨ax,rv,p,_⟩:=I.tuple hs;exact .tup hs hr rv p
 case lst=>obtain⟨a,xs,rfl,hs,hr⟩:=h;cases r;obtain⟨ax,rv,p,_⟩:=I.list hs;exact .lst hs hr rv p.isList
 all_goals subst h
 case non=>cases r;exact .non
 case bl=>cases r;exact .bl _
 case int=>obtain⟨t,rfl⟩:=r;exact .int _ _
 case str=>obtain⟨t,rfl⟩:=r;exact .str _ _
section
variable {A:S2}{ds es:List D}{a1 a2:Sr}{AZ A4:List V}{i1 i2:List R6}
theorem q_ (v1:aO AZ i1)(v2:aO A4 i2)(r1:dj X.K H ds AZ)(r2:dj X.K H es A4)(f:∀(j:Nat) (d e:D) (x y:V) (u v:R6),ds[j]? = some d->eg X.K H d x->eg X.K H e y->aM x u->aM y v->Vv A s u v (jJ d e)) :
  ∀j (h1:j<i1.toArray.size) (h2:j<i2.toArray.size),Vv A s i1.toArray[j] i2.toArray[j] (kK ds es j):=λj g1 g2=>by
 have l1:=v1.length;have l2:=v2.length;have k1:=r1.length;have k2:=r2.length;rw[R7] at g1 g2;have q1:ds[j]? = some ds[j]:=R5 (by lia);have q2:es[j]? = some es[j]:=R5 (by lia);have e1:AZ[j]? = some AZ[j]:=R5 (by lia);have e2:A4[j]? = some A4[j]:=R5 (by lia);obtain⟨u1,z1,w1⟩:=v1.get e1;obtain⟨u2,z2,w2⟩:=v2.get e2;have y1:i1.toArray[j]=u1:=by obtain⟨_,q⟩:=R8.mp z1;simpa using q
 have y2:i2.toArray[j]=u2:=by obtain⟨_,q⟩:=R8.mp z2;simpa using q
 have:kK ds es j=jJ ds[j] es[j]:=by unfold kK;rw[q1,q2]
 rw[y1,y2,this];exact f j _ _ _ _ _ _ q1 (r1.get q1 e1) (r2.get q2 e2) w1 w2
variable (v1:aO AZ i1)(v2:aO A4 i2)(r1:dj X.K H ds AZ)(r2:dj X.K H es A4)(hu:A.units<Uu)(he:∀j (h1:j<i1.toArray.size) (h2:j<i2.toArray.size),Vv A.in1 s i1.toArray[j] i2.toArray[j] (kK ds es j))
include v1 v2 r1 r2 hu he
theorem rf:i1.toArray.size=ds.length/\i2.toArray.size=es.length:=by rw[R7,R7,←v1.length,←v2.length,r1.length,r2.length];exact⟨rfl,rfl⟩
theorem Bu (p1:IsTup s.heap a1 i1.toArray)(p2:IsTup s.heap a2 i2.toArray):SeqAt.RcAt A s (.ref a1) (.ref a2) (jJ (.tup ds) (.tup es)):=by
 have q:=SeqAt.RcAt.tuples (A:=A) p1 p2 hu he;rw[(rf v1 v2 r1 r2 hu he).1,(rf v1 v2 r1 r2 hu he).2,gO] at q;unfold jJ;exact q
theorem Bv (p1:IsTup s.heap a1 i1.toArray)(p2:IsTup s.heap a2 i2.toArray):Xx A s (.ref a1) (.ref a2) (!jJ (.tup ds) (.tup es)):=by
 have q:=SeqAt.RcNeAt.tuples (A:=A) p1 p2 hu he;rw[(rf v1 v2 r1 r2 hu he).1,(rf v1 v2 r1 r2 hu he).2,gO] at q;unfold jJ;exact q
theorem Bw (p1:s.heap.IsList a1 i1.toArray)(p2:s.heap.IsList a2 i2.toArray):SeqAt.RcAt A s (.ref a1) (.ref a2) (jJ (.lst ds) (.lst es)):=by
 obtain⟨l1,l2⟩:=rf v1 v2 r1 r2 hu he;unfold jJ;by_cases hl:ds.length=es.length
 ·have q:=SeqAt.RcAt.lists (A:=A) p1 p2 (by rw[l1,l2,hl]) hu he;have z:=gO ds es;rw[hl,W4,beq_self_eq_true,Bool.and_true] at z;rw[l1,hl,z] at q;exact q
 ·rw[uz hl];exact SeqAt.RcAt.lists_lengths (A:=A) p1 p2 (by rw[l1,l2];simpa using hl) hu
theorem Bx (p1:s.heap.IsList a1 i1.toArray)(p2:s.heap.IsList a2 i2.toArray):Xx A s (.ref a1) (.ref a2) (!jJ (.lst ds) (.lst es)):=by
 obtain⟨l1,l2⟩:=rf v1 v2 r1 r2 hu he;unfold jJ;by_cases hl:ds.length=es.length
 ·have q:=SeqAt.RcNeAt.lists (A:=A) p1 p2 (by rw[l1,l2,hl]) hu he;have z:=gO ds es;rw[hl,W4,beq_self_eq_true,Bool.and_true] at z;rw[l1,hl,z] at q;exact q
 ·rw[uz hl];exact SeqAt.RcNeAt.lists_lengths (A:=A) p1 p2 (by rw[l1,l2];simpa using hl) hu
end
theorem By (I:ay X pins σ H s):∀(n:Nat) (d1 d2:D) (x y:V) (u v:R6) (A:S2),dU d1<=n->A.units+n<Uu->eg X.K H d1 x->eg X.K H d2 y->aM x u->aM y v->Vv A s u v (jJ d1 d2):=by
 intro n
 induction n using Nat.strongRecOn with|ind n ih=>
 intro d1 d2 x y u v A hd hu h1 h2 r1 r2;have di:A.units<Uu:=by lia
 have hi:∀{ds:List D} {j:Nat} {d e:D} {x y:V} {u v:R6},eP ds+1<=n->ds[j]? = some d->eg X.K H d x->eg X.K H e y->aM x u->aM y v->Vv A.in1 s u v (jJ d e):=λ{ds j d e x y u v} hn q a b c d'=>ih (n-1) (by lia) _ _ _ _ _ _ A.in1 (by have:=jx q;lia) (by show A.units+1+(n-1)<Uu;lia) a b c d';cases KP I h1 r1<;>cases KP I h2 r2
 ·exact WH _
 ·exact SeqAt.EqAt.none_bool _
 ·exact SeqAt.EqAt.none_int _ _
 ·exact SeqAt.EqAt.none_str _ _
 ·exact SeqAt.EqAt.none_tuple ‹_› di
 ·exact SeqAt.EqAt.none_list ‹_› di
 ·exact SeqAt.EqAt.bool_none _
 ·exact SeqAt.EqAt.bool_bool _ _
 ·exact SeqAt.EqAt.bool_int _ _ _
 ·exact SeqAt.EqAt.bool_str _ _ _
 ·exact SeqAt.EqAt.bool_tuple _ ‹_› di
 ·exact SeqAt.EqAt.bool_list _ ‹_› di
 ·exact SeqAt.EqAt.int_none _ _
 ·exact SeqAt.EqAt.int_bool _ _ _
 ·exact SeqAt.EqAt.int_int _ _ _ _
 ·exact SeqAt.EqAt.int_str _ _ _ _
 ·exact SeqAt.EqAt.int_tuple _ _ ‹_› di
 ·exact SeqAt.EqAt.int_list _ _ ‹_› di
 ·exact SeqAt.EqAt.str_none _ _
 ·exact SeqAt.EqAt.str_bool _ _ _
 ·exact SeqAt.EqAt.str_int _ _ _ _
 ·exact SeqAt.EqAt.str_str _ _ _ _
 ·exact SeqAt.EqAt.str_tuple _ _ ‹_› di
 ·exact SeqAt.EqAt.str_list _ _ ‹_› di
 ·exact SeqAt.EqAt.tuple_none ‹_› di
 ·exact SeqAt.EqAt.tuple_bool _ ‹_› di
 ·exact SeqAt.EqAt.tuple_int _ _ ‹_› di
 ·exact SeqAt.EqAt.tuple_str _ _ ‹_› di
 ·rename_i ds a1 AZ i1 qr wc wd p1 es a2 A4 i2 xQ we wg p2;by_cases hab:a1=a2
  ·subst hab;rw[uA I n _ _ _ hd h1 h2];exact WH _
  ·exact W5 hab (Bu wd wg wc we di (q_ wd wg wc we λ_ _ _ _ _ _ _ q=>hi (by unfold dU at hd;lia) q) p1 p2)
 ·exact SeqAt.EqAt.tuple_list ‹_› ‹_› di
 ·exact SeqAt.EqAt.list_none ‹_› di
 ·exact SeqAt.EqAt.list_bool _ ‹_› di
 ·exact SeqAt.EqAt.list_int _ _ ‹_› di
 ·exact SeqAt.EqAt.list_str _ _ ‹_› di
 ·exact SeqAt.EqAt.list_tuple ‹_› ‹_› di
 ·rename_i ds a1 AZ i1 qr wc wd p1 es a2 A4 i2 xQ we wg p2;by_cases hab:a1=a2
  ·subst hab;rw[uA I n _ _ _ hd h1 h2];exact WH _
  ·exact W5 hab (Bw wd wg wc we di (q_ wd wg wc we λ_ _ _ _ _ _ _ q=>hi (by unfold dU at hd;lia) q) p1 p2)
theorem Jj (I:ay X pins σ H s)(n:Nat)(d1 d2:D)(x y:V)(u v:R6)(A:S2)(hd:dU d1<=n)(hu:A.units+n<Uu)(h1:eg X.K H d1 x)(h2:eg X.K H d2 y)(r1:aM x u)(r2:aM y v):SeqAt.RcAt A s u v (jJ d1 d2):=by
 have di:A.units<Uu:=by lia
 have hi:∀{ds:List D} {j:Nat} {d e:D} {x y:V} {u v:R6},eP ds+1<=n->ds[j]? = some d->eg X.K H d x->eg X.K H e y->aM x u->aM y v->Vv A.in1 s u v (jJ d e):=λ{ds j d e x y u v} hn q a b c d'=>By I (n-1) _ _ _ _ _ _ A.in1 (by have:=jx q;lia) (by show A.units+1+(n-1)<Uu;lia) a b c d';cases KP I h1 r1<;>cases KP I h2 r2
 ·exact SeqAt.RcAt.none_none
 ·exact SeqAt.RcAt.none_bool _
 ·exact SeqAt.RcAt.none_int _ _
 ·exact SeqAt.RcAt.none_str _ _
 ·exact SeqAt.RcAt.none_tuple ‹_› di
 ·exact SeqAt.RcAt.none_list ‹_› di
 ·exact SeqAt.RcAt.bool_none _
 ·exact SeqAt.RcAt.bool_bool _ _
 ·exact SeqAt.RcAt.bool_int _ _ _
 ·exact SeqAt.RcAt.bool_str _ _ _
 ·exact SeqAt.RcAt.bool_tuple _ ‹_› di
 ·exact SeqAt.RcAt.bool_list _ ‹_› di
 ·exact SeqAt.RcAt.int_none _ _
 ·exact SeqAt.RcAt.int_bool _ _ _
 ·exact SeqAt.RcAt.int_int _ _ _ _
 ·exact SeqAt.RcAt.int_str _ _ _ _
 ·exact SeqAt.RcAt.int_tuple _ _ ‹_› di
 ·exact SeqAt.RcAt.int_list _ _ ‹_› di
 ·exact SeqAt.RcAt.str_none _ _
 ·exact SeqAt.RcAt.str_bool _ _ _
 ·exact SeqAt.RcAt.str_int _ _ _ _
 ·exact SeqAt.RcAt.str_str _ _ _ _
 ·exact SeqAt.RcAt.str_tuple _ _ ‹_› di
 ·exact SeqAt.RcAt.str_list _ _ ‹_› di
 ·exact SeqAt.RcAt.tuple_none ‹_› di
 ·exact SeqAt.RcAt.tuple_bool _ ‹_› di
 ·exact SeqAt.RcAt.tuple_int _ _ ‹_› di
 ·exact SeqAt.RcAt.tuple_str _ _ ‹_› di
 ·rename_i ds a1 AZ i1 qr wc wd p1 es a2 A4 i2 xQ we wg p2;exact Bu wd wg wc we di (q_ wd wg wc we λ_ _ _ _ _ _ _ q=>hi (by unfold dU at hd;lia) q) p1 p2
 ·exact SeqAt.RcAt.tuple_list ‹_› ‹_› di
 ·exact SeqAt.RcAt.list_none ‹_› di
 ·exact SeqAt.RcAt.list_bool _ ‹_› di
 ·exact SeqAt.RcAt.list_int _ _ ‹_› di
 ·exact SeqAt.RcAt.list_str _ _ ‹_› di
 ·exact SeqAt.RcAt.list_tuple ‹_› ‹_› di
 ·rename_i ds a1 AZ i1 qr wc wd p1 es a2 A4 i2 xQ we wg p2;exact Bw wd wg wc we di (q_ wd wg wc we λ_ _ _ _ _ _ _ q=>hi (by unfold dU at hd;lia) q) p1 p2
theorem Bz (I:ay X pins σ H s)(n:Nat)(d1 d2:D)(x y:V)(u v:R6)(A:S2)(hd:dU d1<=n)(hu:A.units+n<Uu)(h1:eg X.K H d1 x)(h2:eg X.K H d2 y)(r1:aM x u)(r2:aM y v):Xx A s u v (!jJ d1 d2):=by
 have di:A.units<Uu:=by lia
 have hi:∀{ds:List D} {j:Nat} {d e:D} {x y:V} {u v:R6},eP ds+1<=n->ds[j]? = some d->eg X.K H d x->eg X.K H e y->aM x u->aM y v->Vv A.in1 s u v (jJ d e):=λ{ds j d e x y u v} hn q a b c d'=>By I (n-1) _ _ _ _ _ _ A.in1 (by have:=jx q;lia) (by show A.units+1+(n-1)<Uu;lia) a b c d';cases KP I h1 r1<;>cases KP I h2 r2
 ·exact SeqAt.RcNeAt.none_none
 ·exact SeqAt.RcNeAt.none_bool _
 ·exact SeqAt.RcNeAt.none_int _ _
 ·exact SeqAt.RcNeAt.none_str _ _
 ·exact SeqAt.RcNeAt.none_tuple ‹_› di
 ·exact SeqAt.RcNeAt.none_list ‹_› di
 ·exact SeqAt.RcNeAt.bool_none _
 ·exact SeqAt.RcNeAt.bool_bool _ _
 ·exact SeqAt.RcNeAt.bool_int _ _ _
 ·exact SeqAt.RcNeAt.bool_str _ _ _
 ·exact SeqAt.RcNeAt.bool_tuple _ ‹_› di
 ·exact SeqAt.RcNeAt.bool_list _ ‹_› di
 ·exact SeqAt.RcNeAt.int_none _ _
 ·exact SeqAt.RcNeAt.int_bool _ _ _
 ·exact SeqAt.RcNeAt.int_int _ _ _ _
 ·exact SeqAt.RcNeAt.int_str _ _ _ _
 ·exact SeqAt.RcNeAt.int_tuple _ _ ‹_› di
 ·exact SeqAt.RcNeAt.int_list _ _ ‹_› di
 ·exact SeqAt.RcNeAt.str_none _ _
 ·exact SeqAt.RcNeAt.str_bool _ _ _
 ·exact SeqAt.RcNeAt.str_int _ _ _ _
 ·exact SeqAt.RcNeAt.str_str _ _ _ _
 ·exact SeqAt.RcNeAt.str_tuple _ _ ‹_› di
 ·exact SeqAt.RcNeAt.str_list _ _ ‹_› di
 ·exact SeqAt.RcNeAt.tuple_none ‹_› di
 ·exact SeqAt.RcNeAt.tuple_bool _ ‹_› di
 ·exact SeqAt.RcNeAt.tuple_int _ _ ‹_› di
 ·exact SeqAt.RcNeAt.tuple_str _ _ ‹_› di
 ·rename_i ds a1 AZ i1 qr wc wd p1 es a2 A4 i2 xQ we wg p2;exact Bv wd wg wc we di (q_ wd wg wc we λ_ _ _ _ _ _ _ q=>hi (by unfold dU at hd;lia) q) p1 p2
 ·exact SeqAt.RcNeAt.tuple_list ‹_› ‹_› di
 ·exact SeqAt.RcNeAt.list_none ‹_› di
 ·exact SeqAt.RcNeAt.list_bool _ ‹_› di
 ·exact SeqAt.RcNeAt.list_int _ _ ‹_› di
 ·exact SeqAt.RcNeAt.list_str _ _ ‹_› di
 ·exact SeqAt.RcNeAt.list_tuple ‹_› ‹_› di
 ·rename_i ds a1 AZ i1 qr wc wd p1 es a2 A4 i2 xQ we wg p2;exact Bx wd wg wc we di (q_ wd wg wc we λ_ _ _ _ _ _ _ q=>hi (by unfold dU at hd;lia) q) p1 p2
def Jk (K:R1)(f:Bool->Bool):R2:=λx y H Q=>∃d1 d2,eg K H d1 x/\eg K H d2 y/\dU d1<=30/\Q (.bl (f (jJ d1 d2))) H
theorem BA (hu:X.A.units+64<Uu):ig X (TB .Eq) (Jk X.K id):=by
 intro pins s σ H x y v u Q I rx ry h;obtain⟨d1,d2,h1,h2,hd,q⟩:=h;exact Jj I 30 d1 d2 x y v u X.A hd (by lia) h1 h2 rx ry X.prog X.w X.xe _ ⟨.bl _,H,I,rfl,q⟩
theorem wM (hu:X.A.units+64<Uu):ig X (TB .NotEq) (Jk X.K not):=by
 intro pins s σ H x y v u Q I rx ry h;obtain⟨d1,d2,h1,h2,hd,q⟩:=h;exact Bz I 30 d1 d2 x y v u X.A hd (by lia) h1 h2 rx ry X.prog X.w X.xe _ ⟨.bl _,H,I,rfl,q⟩
end L2
namespace L2
noncomputable def f9 (n m:String):Bool:=(n==m)||(n=="bool"&&m=="int")
theorem LH (K:R1){n m:String}(hn:n∈["NoneType","bool","int","str","list","tuple","dict"])(hm:m∈["bool","int","str","list","tuple","dict"]) :
  PySem.W.kitOne K (.type n) (.type m)=some (f9 n m):=by
 simp only[Ss,List.mem_nil_iff,or_false] at hn hm;rcases hn with rfl|rfl|rfl|rfl|rfl|rfl|rfl<;>rcases hm with rfl|rfl|rfl|rfl|rfl|rfl<;>kernel_rfl
inductive wj (K:R1)(H:Hp):V->String->Prop where
 |non:wj K H .non "NoneType"
 |bl (x:Bool):wj K H (.bl x) "bool"
 |int (i:Int):wj K H (.int i) "int"
 |str (x:Str):wj K H (.str x) "str"
 |lst {a:Sr} {xs:List V} (e:H a=some (.lst xs)):wj K H (.ref a) "list"
 |frz {a:Sr} {o:Obj} {xs:List V} (e:H a=some (.frz o (.lst xs))):wj K H (.ref a) "list"
 |tup {a:Sr} {xs:List V} (e:H a=some (.tup xs)):wj K H (.ref a) "tuple"
 |dK {a:Sr} {aP:List (Key×V)} (e:H a=some (.dK aP)):wj K H (.ref a) "dict"
 |dT {a:Sr} {aP:List (List Key×V)} (e:H a=some (.dT aP)):wj K H (.ref a) "dict"
theorem wj.mem {x:V}{n:String}(h:wj K H x n):n∈["NoneType","bool","int","str","list","tuple","dict"]:=by
 cases h<;>simp
theorem wj.ty {x:V}{n:String}(h:wj K H x n):lU K H x (.type n):=by
 cases h with
 |non=>exact .non
 |bl=>exact .bl _
 |int=>exact .int _
 |str=>exact .str _
 |lst e=>exact .lst e
 |frz e=>exact .frz e
 |tup e=>exact .tup e
 |dK e=>exact .dK e
 |dT e=>exact .dT e
theorem uB {m:String}(hm:m∈["bool","int","str","list","tuple","dict"]):dW X (.builtin "isinstance") (λxs H Q=>∃x n,xs=[x,.ty m]/\wj X.K H x n/\Q (.bl (f9 n m)) H):=by
 intro pins s σ H xs us Q I r h;obtain⟨x,n,rfl,ty,q⟩:=h;obtain⟨u,w',rfl,rx,rt⟩:=Bh r;cases rt;exact zQ I rx ty.ty (LH X.K ty.mem hm) λtk=>⟨.bl _,H,I.tok tk,rfl,q⟩
theorem mJ:dW X (.type "range") (λxs H Q=>∃j,xs=[.int j]/\∀p,H p=none->Q (.ref p) (cu H p (.rng 0 j))):=by
 intro pins s σ H xs us Q I r h;obtain⟨j,rfl,q⟩:=h;obtain⟨u,rfl,rx⟩:=iX r;obtain⟨t,rfl⟩:=rx;refine call_range_1 ⟨.ref s.heap.objs.size,cu H s.heap.objs.size (.rng 0 j),I.laid (λb u e=>R4 _ e) (Sb _) ?_,rfl,q _ (I.hok.fresh (Sb _))⟩;exact⟨_,_,_,R9 _ rfl⟩
theorem oA {a:Int}{b8:Array R6}(h:ItemsOf (λi v=>∃t,v=Value.int (a+i*1) t) b8 n):aO ((SX n).map λi=>V.int (a+(i:Nat))) b8.toList:=by
 obtain⟨hs,hi⟩:=h;have gen:∀(l:List R6) (k:Nat),(∀(i:Nat) v,l[i]? = some v->∃t,v=Value.int (a+((k+i:Nat):Int)*1) t)->aO ((List.range' k l.length).map λi=>V.int (a+(i:Nat))) l:=by
  intro l
  induction l with
  |nil=>intro k _;exact .nil
  |cons v r ih=>
   intro k hk;rw[Sj,List.range'_succ,RY];refine .cons ?_ (ih (k+1) λi v e=>?_)
   ·obtain⟨t,e⟩:=hk 0 v rfl;exact⟨t,by rw[e];simp⟩
   ·obtain⟨t,e'⟩:=hk (i+1) v (by simpa using e);refine⟨t,?_⟩;rw[e',show k+(i+1)=k+1+i by lia]
 have q:=gen b8.toList 0 (λi v e=>by
  obtain⟨t,e'⟩:=hi i v (by simpa using e);exact⟨t,by rw[e',Nat.zero_add]⟩)
 rw[SM,hs] at q;rw[List.range_eq_range'];exact q
theorem qA (hc:X.calm=true):dW X (.type "list") (λxs H Q=>∃p lo hi,xs=[.ref p]/\H p=some (.rng lo hi)/\(-(2 ^ 62)<=lo/\lo<2 ^ 62/\ -(2 ^ 62)<=hi/\hi<2 ^ 62)/\(hi-lo).toNat<=2 ^ 20/\
  ∀l,H l=none->Q (.ref l) (cu H l (.lst ((SX (hi-lo).toNat).map λi=>V.int (lo+(i:Nat)))))):=by
 intro pins s σ H xs us Q I r h;obtain⟨p,lo,hi,rfl,hp,⟨h1,h2,h3,h4⟩,hz,q⟩:=h;obtain⟨u,rfl,rx⟩:=iX r;cases rx;obtain⟨t,u,v,e⟩:=I.hok p _ hp;refine call_list_range (n:=(hi-lo).toNat) (I.ok.hd hc) (c:=1) (show IsRange s.heap p lo hi 1 t u v from e) (small_one h1 h2 h3 h4) (by rw[rangeSize_one];split<;>lia) (by lia) λh' tk KC c' hk Nr nM=>?_;have hl:((SX (hi-lo).toNat).map λi=>V.int (lo+(i:Nat))).length<=R3:=by
  rw[RX,Ti,Ut];lia
 refine⟨.ref s.heap.objs.size,_,I.laid hk (Sb _) (show bz X.prog X.w _ _ _ (.lst _) from ⟨hl,KC.toList,c',oA nM,by simpa using Nr⟩),rfl,q _ (I.hok.fresh (Sb _))⟩
def BB (i j:Int):Prop:=0<j/\j<18446744073709551616
theorem wN (h:n<18446744073709551616):n.log2<9000:=by
 by_cases h0:n=0
 ·subst h0;decide
 ·have:=(Nat.log2_lt h0 (k:=64)).mpr (by lia);lia
theorem dP:ig X (U7 .FloorDiv) (rI BB λi j=>.int (i / j)):=NI λi j _ _ _ _ _ hc q=>by
 refine floordiv_int (by have:=hc.1;lia) ?_ (.inl (PyProof.noPylong_of_log2 (wN (by have:=hc.1;have:=hc.2;lia))));rw[Int.fdiv_eq_ediv_of_nonneg _ (by have:=hc.1;lia)];exact q
theorem yg:S0 "list"=some (.type "list"):=by decide+kernel
theorem cD:S0 "tuple"=some (.type "tuple"):=by decide+kernel
theorem Jl:S0 "int"=some (.type "int"):=by decide+kernel
theorem E2:S0 "bool"=some (.type "bool"):=by decide+kernel
theorem uC:S0 "range"=some (.type "range"):=by decide+kernel
theorem oB:S0 "len"=some (.builtin "len"):=by decide+kernel
theorem Jm:S0 "max"=some (.builtin "max"):=by decide+kernel
theorem BC:S0 "min"=some (.builtin "min"):=by decide+kernel
theorem BD:S0 "abs"=some (.builtin "abs"):=by decide+kernel
theorem qB:S0 "isinstance"=some (.builtin "isinstance"):=by decide+kernel
theorem gP:S0 "sorted"=some (.builtin "sorted"):=by decide+kernel
theorem BE:S0 "all"=some (.builtin "all"):=by decide+kernel
theorem Jn:S0 "sum"=some (.builtin "sum"):=by decide+kernel
end L2
namespace HT
open L2
section
variable {w:Tq}{A:S2}
theorem getItem_tuple_whole {t sl:Sr}{vl vu:R6}{lo:Option Int}(ht:IsTup s.heap t items)(hs:s.heap.IsSliceOf sl vl vu .none)(pl:IsPart vl lo)(pu:IsPart vu hi)(hw:sIx items.size 0 lo=0/\sIx items.size items.size hi=items.size)(h:Q (.ref t) s):Sv (SN prog w) A (WD (.ref t) (.ref sl)) Q E s:=by
 obtain⟨os,Et,hcs,hds⟩:=id hs;have O2:s.TypeIs (.ref sl) "slice":=⟨os,Et,hcs⟩;unfold WD
 try with_reducible refine S7 ?_
 first|refine RW (RZ ?_)|skip
 refine RW (wpAny_sequenceKey ht.typeIs (by decide) ?_);refine RW (Te (name:=Us "__getitem__") ht.typeIs T8
  (SI T8 ht.typeIs entry_tuple_getitem ?_ (args_tuple_getitem _ _)))
 show Sv _ _ (Va (.ref t) >>= _) _ _ s;refine RW (tupleItemsOf_ ht ?_);refine RW (wpAny_typeOf O2 ?_);rw[h9 (by decide)];refine RW (gN hs pl pu ?_);obtain⟨w1,w2⟩:=hw;rw[w1,w2];show Sv _ _ (if (((0:Nat):Int)==0&&(1:Int)==1&&(items.size-0)==items.size)=true then _ else _) _ _ s;rw[h9 (by simp)];have Pe:Sv (SN prog w) A.in1 (WS (.ref t)) (λb s'=>b=true/\s'=s) E s:=by
  unfold WS;exact RW (wpAny_typeOf ht.typeIs (RZ ⟨by decide,rfl⟩))
 refine RW (S8 Pe (λb s' hb=>?_) λ_ _ e=>e);obtain⟨rfl,rfl⟩:=hb;rw[h9 rfl];exact RW (wpAny_rule (RZ ⟨_,rfl,RZ h⟩))
end
end HT
namespace L2
theorem oC {p:Sr}(h:H p=none)(o:HO):aJ H (cu H p o):=λb u q=>by rw[aL (br q h)];exact q
section
open AutoSeq1 (wpAny_loadPart')
theorem jK {w:Tq}{A:S2}{Q:List R6->Sk->Prop}{r:Sr}{a b c:Int}{t u v:Tok}(hh:A.handled=none)(hr:IsRange s.heap r a b c t u v)(xR:Builtin.Range.small a b c=true)(hn:VB a b c=n)(fT:n<=2 ^ 24)(hQ:∀h' tk (b8:Array R6),(∀b o',s.heap.get? b=some o'->h'.get? b=some o')->ItemsOf (λi v=>∃t,v=.int (a+i*c) t) b8 n->Q b8.toList {s with heap:=h',toks:=tk}) :
  Sv (SN prog w) A (collect (.ref r)) Q E s:=by
 unfold collect;refine RW (wpAny_runValue (WI F.entry_proto_collect ?_));rw[Vd F.plain_proto_collect _];show Sv _ A.in1 (newList [] >>= λl=>again (.builtin "list.__iadd__" ⟨[l,.ref r],[]⟩)) _ _ s;refine RW (SG ?_);refine RZ ⟨plainId_quiet F.plain_list_iadd _,WI F.entry_list_iadd ?_⟩;rw[Vd F.plain_list_iadd _];have hS:(s.heap.push {cls:=.type "list",data:=.seq ([]:List R6).toArray}).get? s.heap.objs.size=some {cls:=.type "list",data:=.seq #[] 0}:=R9 _ rfl;show Sv _ A.in1 (WJ (.ref s.heap.objs.size) (.ref r) (.ref s.heap.objs.size)) _ _ _;refine S8 (wpAny_extend_range (A:=A) (R:=λres s'=>res=.ok (.ret (.ref s.heap.objs.size))/\Sv (SN prog w) A (load s.heap.objs.size >>= λo=>match o.data with|.seq xs _=>pure xs.toList|_=>unsupported "internal:collect") Q E s')
  hh (R4 _ hr) xR hn fT s.heap.objs.size _ 0 hS λh' tk KC c' hk Nr nM=>⟨rfl,?_⟩) (λfin s' h=>?_) λe s' h=>absurd h.1 (by simp)
 ·refine RW (wpAny_load Nr (RZ ?_));exact hQ h' tk KC (λb o' hb=>hk b o' (SJ (Sl hb)) (R4 _ hb)) nM
 ·cases fin with
  |done f=>
   obtain⟨e,q⟩:=h;cases e;exact q
  |again c'=>exact⟨h.1,W2 h.2 λr KW hr=>by obtain⟨rfl,q⟩:=hr;exact q⟩
theorem iU (l:Sr)(a b c:Int)(t u v:Tok)(n:Nat)(xR:Builtin.Range.small a b c=true)(hn:VB a b c=n)(fT:n<=2 ^ 20) :
  Meets (Builtin.«tuple.__new__» ⟨[.type "tuple",.ref l],[]⟩)
   (λA R s=>A.handled=none/\IsRange s.heap l a b c t u v/\∀(h':UU) (tk:Nat) (b8:Array R6),(∀b o',s.heap.get? b=some o'->h'.get? b=some o')->ItemsOf (λi v=>∃t,v=.int (a+i*c) t) b8 n->
    R (.ok (.ret (.ref h'.objs.size))) {s with heap:=h'.push {cls:=.type "tuple",data:=.seq b8},toks:=tk}):=
 .of_wp λprog w A R s h=>by
  obtain⟨hp,g,d,tk,os⟩:=s;obtain⟨hh,ht,h⟩:=h;have QR:=sub_tuple_self;have Qa:=init_tuple_lookup;have RQ:=madeHere_tuple;have hT:Shared.TypeIs ⟨hp,g,d,tk,os⟩ (.ref l) "range":=⟨_,ht,rfl⟩;wp_walk using wpAny_typeOf hT,jK (A:=A.in1) hh ht xR hn (by lia);intro h' QS b8 hk nM;show Sv _ _ (TV b8.toList.toArray >>= λv=>ret v) _ _ _;unfold TV;refine RW (SG ?_ (by show b8.toList.toArray.size<=R3;rw[Ut];simp;have:=nM.1;lia));refine RZ ⟨_,rfl,?_⟩;have e:b8.toList.toArray=b8:=by simp
  rw[e];exact h h' QS b8 hk nM
theorem oD (hc:X.calm=true):dW X (.type "tuple") (λxs H Q=>∃p lo hi,xs=[.ref p]/\H p=some (.rng lo hi)/\(-(2 ^ 62)<=lo/\lo<2 ^ 62/\ -(2 ^ 62)<=hi/\hi<2 ^ 62)/\(hi-lo).toNat<=2 ^ 20/\
  ∀l,H l=none->Q (.ref l) (cu H l (.tup ((SX (hi-lo).toNat).map λi=>V.int (lo+(i:Nat)))))):=by
 intro pins s σ H xs us Q I r h;obtain⟨p,lo,hi,rfl,hp,⟨h1,h2,h3,h4⟩,hz,q⟩:=h;obtain⟨u,rfl,rx⟩:=iX r;cases rx;obtain⟨t,u,v,e⟩:=I.hok p _ hp;refine callType_new F.called_tuple (by decide) (F.typeCall_tuple_1 _) (F.newCall_tuple_1 _) (λobj=>F.args_object_init_2 obj _) F.entry_tuple_new
  (iU p lo hi 1 t u v (hi-lo).toNat (small_one h1 h2 h3 h4) (by rw[rangeSize_one];split<;>lia) hz) ⟨I.ok.hd hc,e,λh' tk b8 hk nM=>⟨⟨_,R9 _ rfl,rfl⟩,?_⟩⟩
 have hl:((SX (hi-lo).toNat).map λi=>V.int (lo+(i:Nat))).length<=R3:=by
  rw[RX,Ti,Ut];lia
 have I1:ay X pins σ H {s with heap:=h',toks:=tk}:=I.kept hk;refine⟨.ref h'.objs.size,_,I1.laid (t':=tk) (λb o e=>R4 _ e) (Sb _) (show bz X.prog X.w _ _ _ (.tup _) from ⟨hl,b8.toList,oA nM,by simpa using IsTup.new h' b8,0,by simpa using R9 h' rfl⟩),rfl,q _ (I1.hok.fresh (Sb _))⟩
end
end L2
namespace HT
open L2
end HT
namespace L2
def uD:V->List V->Hp->VK->Prop:=λx vs H Q=>∃l b xs zs,x=.ref l/\vs=[.ref b]/\H l=some (.lst xs)/\H b=some (.tup zs)/\xs.length+zs.length<=R3/\Q .non (cu H l (.lst (xs++zs)))
theorem wO:Py X "list.extend" uD:=by
 intro pins s σ H x vs v us Q I rx rv h;obtain⟨l,b,xs,zs,rfl,rfl,hH,hB,hz,q⟩:=h;cases rx;obtain⟨u,rfl,ru⟩:=rv.one;cases ru;obtain⟨z,ax,n,r,hl,e⟩:=I.lstM hH;obtain⟨z2,its2,r2,_,n2,e2⟩:=I.hok b _ hB;have A5:=r2.length;have hsz:ax.toArray.size+its2.toArray.size<=R3:=by rw[R7,R7];lia
 have Eh:¬(!ax.toArray.isEmpty&&UE (ax.toArray.size+its2.toArray.size))=true:=by
  rw[oz hsz,Bool.and_false];exact R0
 refine call_meets F.slot_list_extend ⟨_,e,rfl⟩ F.entry_list_extend (F.args_list_extend_2 _ _)
  (AutoSeq1.list_extend_list_tuple_0 l ax.toArray n b its2.toArray n2 Eh (by rw[R7];lia) (by lia)) ⟨e,e2,?_⟩
 refine⟨.non,_,I.lset (its':=ax++its2) hH e (by simp) (r.append r2) ?_,rfl,q⟩;rw[Se];lia
theorem sG:dW X (.builtin "sorted") (λxs H Q=>∃(p:Sr) (ns:List Int),xs=[.ref p]/\(eN X.K H p (ns.map V.int)\/fF X.K H p (ns.map V.int))/\ns.length<64/\
  ∀(l:Sr) (r_:List Int),H l=none->r_.Perm ns->r_.Pairwise (·<=·)->Q (.ref l) (cu H l (.lst (r_.map V.int)))):=by
 intro pins s σ H xs us Q I r h;obtain⟨p,ns,rfl,hq,N7,q⟩:=h;obtain⟨u,rfl,rx⟩:=iX r;cases rx;have Nt:∃(T:String) (o:Obj) (ax:List R6) (n:Nat),(T="list"\/T="tuple")/\s.heap.get? p=some o/\o.cls=.type T/\o.data=.seq ax.toArray n/\WE ax ns:=by
  rcases hq with hq|hq
  ·obtain⟨ax,rv,pl,hz⟩:=I.list hq;obtain⟨o,e,c,n,d⟩:=pl.isList;exact⟨"list",o,ax,n,.inl rfl,e,c,d,j4 rv⟩
  ·obtain⟨ax,rv,pl,hz⟩:=I.tuple hq;obtain⟨o,e,c,n,d⟩:=pl;exact⟨"tuple",o,ax,n,.inr rfl,e,c,d,j4 rv⟩
 obtain⟨T,o,ax,n,hT,ho,hc,hd,hI⟩:=Nt;have fT:ax.length=ns.length:=hI.length;refine Xd kind_sorted plain_sorted entry_sorted (args_sorted1 _) ?_;unfold Builtin.«sorted»;refine RW (m:=checkCount "sorted" 1 1 _) (RZ ?_);refine RW (Xn p hT ho hc hd (λh1 k1=>?_) (by rw[R7,Ut];lia));refine RW (wpAny_newList ?_);have KD:(h1.push (W6 "list" ax.toArray 0)).get? h1.objs.size=some (W6 "list" ax.toArray 0):=R9 _ rfl;have KG:(h1.push {cls:=.type "list",data:=.seq (ax.toArray.toList).toArray}).get? h1.objs.size=some (W6 "list" ax.toArray 0):=by simpa using KD
 refine RW (S7 (SI slot_list_sort ⟨_,KG,rfl⟩ entry_list_sort (list_sort_tree KG hI (by lia) λout r_ a1 a2 a3=>⟨_,rfl,?_⟩) (args_list_sort _)));refine RZ ⟨_,rfl,?_⟩;obtain⟨e,he⟩:=sortedHeap_at (out:=out) KG;have keep:∀b o,h1.get? b=some o->(sortedHeap (h1.push {cls:=.type "list",data:=.seq (ax.toArray.toList).toArray}) h1.objs.size ax out).get? b=some o:=λb o e=>by
  have hb:=Sl e;rw[sortedHeap_old (SJ hb) (by rw[Xc];exact V0 hb)];exact R4 _ e
 have I1:ay X pins σ H {s with heap:=h1}:=I.kept (t':=s.toks) k1;have A5:(r_.map V.int).length<=R3:=by rw[RX,a2.length_eq,Ut];lia
 exact⟨.ref h1.objs.size,_,I1.laid (t':=s.toks) keep (Sb _) (show bz X.prog X.w _ _ _ (.lst _) from ⟨A5,out.toList,e,lV a1,by simpa using he⟩),rfl,q _ r_ (I1.hok.fresh (Sb _)) a2 a3⟩
theorem zW {bs:List Bool}{us:List R6}(r:aO (bs.map V.bl) us){v:R6}(h:us[i]? = some v):v=.bool (bs.getD i true):=by
 have hl:=r.length;rw[RX] at hl;obtain⟨hi,_⟩:=R8.mp h;have e:(bs.map V.bl)[i]? = some (V.bl (bs.getD i true)):=by
  rw[R_,R5 (by lia)];simp[List.getD,R5 (show i<bs.length by lia)]
 obtain⟨u,hu,ru⟩:=r.get e;rw[h] at hu;cases hu;exact ru
theorem zX (bs:List Bool):((SX bs.length).all λi=>bs.getD i true)=bs.all id:=by
 induction bs with
 |nil=>rfl
 |cons b bs ih=>
  rw[Sj,List.range_succ_eq_map,Tx,List.all_map,Tx];congr 1
theorem rg (hc:X.calm=true):dW X (.builtin "all") (λxs H Q=>∃(p:Sr) (bs:List Bool),xs=[.ref p]/\eN X.K H p (bs.map V.bl)/\Q (.bl (bs.all id)) H):=by
 intro pins s σ H xs us Q I r h;obtain⟨p,bs,rfl,hq,q⟩:=h;obtain⟨u,rfl,rx⟩:=iX r;cases rx;obtain⟨ax,rv,pl,hz⟩:=I.list hq;have hl:=pl.isList;have qQ:p<s.heap.objs.size:=by obtain⟨_,e,_⟩:=hl;exact Sl e
 refine call_all_walk (Xk hl ?_);refine⟨s.heap.objs.size,_,_,_,_,_,λi=>bs.getD i true,rfl,Walks.list (A:=X.A.in1) (I.ok.hd hc) _ p (SJ qQ) ax.toArray,⟨⟨_,R9 _ rfl,rfl,rfl⟩,hl.push _⟩,?_,λh' tk hk=>?_⟩
 ·intro i v s' Q' E' hP QT;have e:=zW rv (i:=i) (v:=v) (by simpa using hP);subst e;exact T7 QT
 ·have e:(SX ax.toArray.size).all (λi=>bs.getD i true)=bs.all id:=by
   rw[R7,←rv.length,RX];exact zX bs
  rw[e];refine⟨.bl _,H,I.kept λb o e=>hk b o (λhm=>?_) (R4 _ e),rfl,q⟩;rcases Ss.mp hm with e1|hm
  ·exact absurd (e1▸Sl e) (TZ _)
  ·cases hm
theorem rj {prog:UN}{w:Tq}{A:S2}{E:R6->Sk->Prop}{it t:Sr}{items:Array R6}(Er:t≠it):∀(n i:Nat) (s:Sk) (Q:List R6->Sk->Prop),s.heap.IsListIter it t i->s.heap.IsList t items->i+n<=items.size->
  (∀h',h'.IsListIter it t (i+n)->Ur it s.heap h'->Q ((items.toList.drop i).take n) {s with heap:=h'})->Sv (SN prog w) A (draw (.ref it) n) Q E s
 |0,i,s,Q,K0,_,_,hQ=>by
  show Sv _ _ (pure []) Q E s;exact RZ (by simpa using hQ s.heap K0 (Heap.SameBut.refl ..))
 |n+1,i,s,Q,K0,ht,hle,hQ=>by
  have qQ:i<items.size:=by lia
  show Sv _ _ (WA (.ref it) >>= _) Q E s;refine RW (wpAny_pyNext_list_item K0 ht (x:=items[i]) (by simp[qQ]) λh₁ KI Nu=>?_);refine RW (S7 (rj Er n (i+1) _ _ KI (ht.extBut Nu.extBut Er) (by lia) λh₂ Pf QU=>RZ ?_));have hd:items.toList.drop i=items[i]::items.toList.drop (i+1):=by simp[Tj,qQ]
  have:=hQ h₂ (by rw[show i+(n+1)=i+1+n by lia];exact Pf) (Nu.trans QU);rw[hd,List.take_succ_cons] at this;exact this
theorem lX {w:Tq}{A:S2}{t:Sr}{Q:List R6->Sk->Prop}(hh:A.handled=none)(ht:s.heap.IsList t items)(hQ:∀h',Heap.ExtBut s.heap.objs.size s.heap h'->Q items.toList {s with heap:=h'}):Sv (SN prog w) A (unpackItems (.ref t) items.size none) Q E s:=by
 have qQ:t≠s.heap.objs.size:=by obtain⟨o,ho,_⟩:=ht;exact SJ (Sl ho)
 unfold unpackItems;refine RW ?_
 ·unfold notIterableAtAll;refine RW (VH ht.typeIs slot_list_iter.lookup ?_);refine RZ ?_;simp only[SQ,if_false];refine RW (S7 (Xk ht ?_));refine RW (S7 (rj qQ items.size 0 _ _ ⟨_,R9 _ rfl,rfl,rfl⟩ (ht.push _) (by lia) λh₁ KI Nu=>?_));have KJ:List.take items.size (List.drop 0 items.toList)=items.toList:=by
   rw[Vh];exact VX (by simp)
  rw[KJ];rw[hZ (by simp)];have QV:h₁.IsList t items:=(ht.push _).extBut Nu.extBut qQ;refine RW (S7 (wpAny_pyNext_list_end hh KI QV (by simp) λh₂ QW=>?_));simp only[Option.isSome_none,SQ,if_false];refine RZ (hQ h₂ λb o hb e=>QW b o hb (Nu.extBut b o hb (R4 _ e)))
def Oy (K:R1)(n:Nat)(t:A7):TG:=λv σ H Q=>∃a xs,v=.ref a/\eN K H a xs/\xs.length=n/\t xs σ H Q
theorem Jo {es:List T6}{k}{t:A7}(hc:X.calm=true)(h:EB X es t)(hn:(T4 es X.env).length=n:=by rfl)(zB:(T4 es X.env).findIdx? (·.1)=none:=by rfl):PG X (.Tuple es k pos) (Oy X.K n t):=by
 intro pins s σ H v u Q I r hw;obtain⟨a,xs,e1,hq,hl,hw⟩:=hw;subst e1;cases r;obtain⟨ax,rv,pl,hz⟩:=I.list hq;rw[assign_Tuple];refine RW (wpAny_standAt ?_);unfold unpack;have en:(T4 es X.env).length=ax.toArray.size:=by rw[hn,R7,←rv.length,hl]
 rw[en,zB];refine RW (S7 (lX (I.ok.hd hc) pl.isList λh' hx=>?_));have I1:ay X pins σ H {s with heap:=h'}:=I.kept (t':=s.toks) λb o e=>hx b o (SJ (Sl e)) e;exact h pins _ σ H xs _ Q I1 (by simpa using rv) hw
def BF (K:R1):V->Option Int->Option Int->Hp->VK->Prop:=λx lo hi H Q=>∃a xs,x=.ref a/\H a=some (.tup xs)/\∀r H',aJ H H'->H' r=some (.tup (oy xs lo hi))->Q (.ref r) H'
theorem E3:Bk X (BF X.K):=by
 have base:Bk X (Lp X.K):=I_;intro pins s σ H x v vl vu lo hi sl Q I rx hs pl pu h;obtain⟨a,xs,rfl,Ni,q⟩:=h;have hx:fF X.K H a xs:=fF.of Ni;by_cases hw:HT.sIx xs.length 0 lo=0/\HT.sIx xs.length xs.length hi=xs.length
 ·cases rx;obtain⟨ax,r,ht,hz⟩:=I.tuple hx;have hl:ax.toArray.size=xs.length:=by rw[R7,r.length]
  refine⟨"tuple",_,PyProof.Rows.slot_tuple_getitem.lookup,ht.typeIs,HT.getItem_tuple_whole ht hs pl pu (by rw[hl];exact hw) ⟨.ref a,H,I,rfl,q a H (aJ.refl _) ?_⟩⟩;have e:oy xs lo hi=xs:=by unfold oy;rw[hw.1,hw.2];simp
  rw[e];exact Ni
 ·exact base pins s σ H _ v vl vu lo hi sl Q I rx hs pl pu ⟨a,xs,rfl,hx,hw,λp hp=>q p _ (oC hp _) bo⟩
def BG:R2:=λx y H Q=>∃a b xs ys,x=.ref a/\y=.ref b/\H a=some (.tup xs)/\H b=some (.tup ys)/\xs.length+ys.length<=R3/\∀r H',aJ H H'->H' r=some (.tup (xs++ys))->Q (.ref r) H'
theorem BH:ig X (U7 .Add) BG:=by
 intro pins s σ H x y v u Q I rx ry h;obtain⟨a,b,xs,ys,rfl,rfl,ha',GH,hz,q⟩:=h;have ha:fF X.K H a xs:=fF.of ha';have hb:fF X.K H b ys:=fF.of GH;by_cases hx:xs=[]
 ·subst hx;cases rx;cases ry;obtain⟨ax,r1,p1,_⟩:=I.tuple ha;obtain⟨its2,r2,p2,_⟩:=I.tuple hb;have e1:ax=[]:=(aO.nil_iff r1).mpr rfl;subst e1;obtain⟨⟨cls,dd,data,sl⟩,ho,hc,n,hd⟩:=id p1;obtain⟨⟨cls2,dd2,data2,sl2⟩,ho2,hc2,n2,hd2⟩:=id p2;simp only at hc hd hc2 hd2;subst hc hd hc2 hd2;exact concat_meets ⟨_,ho,rfl⟩ ⟨_,ho2,rfl⟩ noFill_tuple_add seq_tuple_add VS VE (Vu _ _)
   (tuple_addW0 a b ([]:List R6).toArray its2.toArray n n2 dd dd2 sl sl2 (by simp)) ⟨ho,ho2,⟨.ref b,H,I,rfl,q b H (aJ.refl _) (by simpa using GH)⟩⟩
 ·refine ES pins s σ H _ _ v u Q I rx ry ⟨a,b,xs,ys,rfl,rfl,ha,hb,hx,hz,λe=>?_,λ_ p hp=>q p _ (oC hp _) bo⟩;subst e;exact q a H (aJ.refl _) (by simpa using ha')
end L2
namespace L2
structure Fn (P:UN)(w:Tq)(K:R1)(mg:Str->Option R6)(base:UU)(x:Str)(k:Nat)(ps:List Str)(sp:Sp):Prop where
 ex:∃(f:Sr) (fd:Vk),mg x=some (.ref f)/\T9 K (.ref f)=true/\kE K fd ps []/\il P w K mg base uu k f fd ps sp
structure Df (K:R1)(mg:Str->Option R6)(x:Str)(st:Wv):Prop where
 ex:∃(f:Sr) (fd:Vk),mg x=some (.ref f)/\En K x x st f fd
section
variable {w:Tq}{base:UU}
theorem Df.fn (d:Df K mg x st)(S:aQ N ps (aj st))(hb:∀(kV ku pm:R6) (an:Option Sr) (bx ct:R6) (us:List R6),us.length=ps.length->bindArgs (TU x x (dD st) (bC st) (aj st) .none kV ku pm an bx ct) ⟨us,[]⟩=pure (ps.zip us))(len:∀vs H Q E,sp vs H Q E->vs.length=ps.length)(eX:∀(f:Sr) (bx:R6) (A:S2) (outer:List Env) (s:Sk) (H:Hp) (vs:List V) (Q:VK) (E:XK),dE k (A.deeper (UM x (aj st) s.heap.objs.size f bx))->sp vs H Q E->
   ∃t,qy (gb uu P w K mg base N x (aj st) f bx A outer s H E).nox (bC st) t/\t {nx:=λ_ H'=>Q .non H',rt:=Q} (fg N vs) H):Fn P w K mg base x (k+1) ps sp:=by
 obtain⟨f,fd,m,F⟩:=d.ex;exact⟨f,fd,m,F.kp,F.binds hb,F.ok S len (eX f)⟩
end
section
variable {p:Pos}{e:T6}{es:List T6}{t:TA}
theorem uE (F:Fn X.prog X.w X.K X.mg X.base x k ps sp)(hr:dE k X.A)(ha:PA X (e::es) t)(hg:Gl X x:=by rfl)(wa:(x==("__debug__":Str))=false:=by decide)
  (he:Sq (e::es) X.env=(false,VP e X.env)::Sq es X.env:=by rfl) (oe:(Ux pos (Sq es X.env)).any (·.1)=false:=by rfl) :
  PE X (.Call (.Name x p) (e::es) [] pos) (GN sp [] E0 t):=by
 obtain⟨f,fd,hm,hk,hb,G⟩:=F.ex;exact EM G hr hg hm hk hb .nil Ly ha wa he oe
end
theorem aJ.seqT (e:aJ H H')(h:fF K H a xs):fF K H' a xs:=by
 rcases h with (h|⟨o,h⟩)|h
 ·exact .inl (.inl (e _ _ h))
 ·exact .inl (.inr ⟨o,e _ _ h⟩)
 ·exact .inr h
mutual
theorem aJ.rep {K:R1}{H H':Hp}(e:aJ H H'):∀{d:D} {v:V},eg K H d v->eg K H' d v
 | .non,v,h=>by unfold eg at h ⊢;exact h
 | .bl b,v,h=>by unfold eg at h ⊢;exact h
 | .int b,v,h=>by unfold eg at h ⊢;exact h
 | .str b,v,h=>by unfold eg at h ⊢;exact h
 | .tup ds,v,h=>by
  unfold eg at h ⊢;obtain⟨a,xs,r,q,z⟩:=h;exact⟨a,xs,r,e.seqT q,aJ.reps e z⟩
 | .lst ds,v,h=>by
  unfold eg at h ⊢;obtain⟨a,xs,r,q,z⟩:=h;exact⟨a,xs,r,e.seq q,aJ.reps e z⟩
theorem aJ.reps {K:R1}{H H':Hp}(e:aJ H H'):∀{ds:List D} {vs:List V},dj K H ds vs->dj K H' ds vs
 | [],vs,h=>by unfold dj at h ⊢;exact h
 |d::ds,vs,h=>by
  unfold dj at h ⊢;obtain⟨x,r,q,p,z⟩:=h;exact⟨x,r,q,aJ.rep e p,aJ.reps e z⟩
end
end L2
namespace L2
inductive U where
 |non|bl (b:Bool)|int (i:Int)|str (x:Str)|tup (xs:List U)|lst (xs:List U)|dct (ks vs:List U)|scr (xs:List U)|obj (fs:List Str) (xs:List U)
instance:Inhabited U:=⟨.non⟩
inductive R (α:Type) where
 |ok (a:α)|exc (c:String) (u:U)|stk
noncomputable def R.bind {α β:Type}:R α->(α->R β)->R β
 | .ok a,f=>f a
 | .exc c u,_=>.exc c u
 | .stk,_=>.stk
noncomputable abbrev Ev:=List (Option U)
inductive SR where
 |nx (ρ:Ev)|rt (u:U) (ρ:Ev)|bk (ρ:Ev)|ct (ρ:Ev)|exc (c:String) (u:U)|stk
end L2
variable {us ks:List L2.U}{u s1:L2.U}{es:List (List L2.U×Sr×L2.V)}{g:L2.Ev->L2.R (L2.U×L2.Ev)}{p:L2.U->L2.U->L2.R L2.U}{ρ:L2.Ev}{sg:L2.U->L2.Ev->L2.R L2.Ev}
namespace L2
open Sem (wp)
mutual
noncomputable def qC:U->U->Bool
 | .non,.non=>true
 | .bl a,.bl b=>decide (a=b)
 | .int a,.int b=>decide (a=b)
 | .str a,.str b=>decide (a=b)
 | .tup a,.tup b=>kL a b
 | .lst a,.lst b=>kL a b
 | .dct a b,.dct c d=>kL a c&&kL b d
 | .scr a,.scr b=>kL a b
 | .obj a b,.obj c d=>decide (a=c)&&kL b d
 |_,_=>false
noncomputable def kL:List U->List U->Bool
 | [],[]=>true
 |x::xs,y::ys=>qC x y&&kL xs ys
 |_,_=>false
end
mutual
theorem BI:∀{a b:U},qC a b=true->a=b
 | .non,b,h=>by cases b<;>first|rfl|(unfold qC at h;cases h)
 | .bl a,b,h=>by cases b<;>unfold qC at h<;>first|(cases h;done)|rw[of_decide_eq_true h]
 | .int a,b,h=>by cases b<;>unfold qC at h<;>first|(cases h;done)|rw[of_decide_eq_true h]
 | .str a,b,h=>by cases b<;>unfold qC at h<;>first|(cases h;done)|rw[of_decide_eq_true h]
 | .tup a,b,h=>by cases b<;>unfold qC at h<;>first|(cases h;done)|rw[ip h]
 | .lst a,b,h=>by cases b<;>unfold qC at h<;>first|(cases h;done)|rw[ip h]
 | .scr a,b,h=>by cases b<;>unfold qC at h<;>first|(cases h;done)|rw[ip h]
 | .dct a c,b,h=>by
  cases b<;>unfold qC at h<;>first|(cases h;done)|skip
  rw[Sa] at h;rw[ip h.1,ip h.2]
 | .obj a c,b,h=>by
  cases b<;>unfold qC at h<;>first|(cases h;done)|skip
  rw[Sa] at h;rw[of_decide_eq_true h.1,ip h.2]
theorem ip:∀{a b:List U},kL a b=true->a=b
 | [],[],_=>rfl
 | [],_::_,h=>by unfold kL at h;cases h
 |_::_,[],h=>by unfold kL at h;cases h
 |x::xs,y::ys,h=>by
  unfold kL at h;rw[Sa] at h;rw[BI h.1,ip h.2]
end
mutual
theorem uF:∀(a:U),qC a a=true
 | .non=>rfl
 | .bl a=>by unfold qC;exact hJ rfl
 | .int a=>by unfold qC;exact hJ rfl
 | .str a=>by unfold qC;exact hJ rfl
 | .tup a=>by unfold qC;exact ej a
 | .lst a=>by unfold qC;exact ej a
 | .scr a=>by unfold qC;exact ej a
 | .dct a b=>by unfold qC;rw[ej a,ej b];rfl
 | .obj a b=>by unfold qC;rw[ej b,hJ rfl];rfl
theorem ej:∀(a:List U),kL a a=true
 | []=>by unfold kL;rfl
 |x::xs=>by unfold kL;rw[uF x,ej xs];rfl
end
noncomputable instance Qv:DecidableEq U:=λa b=>if h:qC a b=true then .isTrue (BI h) else .isFalse λe=>h (by rw[e];exact uF b)
mutual
def eo (h:UU):U->R6->Prop
 | .int i,v=>∃t,v=.int i t
 | .tup us,v=>∃a items,v=.ref a/\h.IsTuple a items/\cx h us items.toList
 |_,_=>False
def cx (h:UU):List U->List R6->Prop
 | [],vs=>vs=[]
 |u::us,vs=>∃v r,vs=v::r/\eo h u v/\cx h us r
end
mutual
noncomputable def hK:U->Int
 | .int i=>hashInt i
 | .tup us=>reduceHash (TH (uh us))
 |_=>0
noncomputable def uh:List U->List Int
 | []=>[]
 |u::us=>hK u::uh us
end
mutual
noncomputable def GU:U->Nat
 | .tup us=>lY us+1
 |_=>1
noncomputable def lY:List U->Nat
 | []=>0
 |u::us=>GU u+lY us
end
mutual
noncomputable def wm:U->Nat
 | .tup us=>qD us+1
 |_=>0
noncomputable def qD:List U->Nat
 | []=>0
 |u::us=>max (wm u) (qD us)
end
theorem wQ {x y:Array R6}(h1:h.IsTuple a x)(h2:h.IsTuple a y):x=y:=by
 obtain⟨o,e,_,n,d⟩:=h1;obtain⟨o',e',_,n',d'⟩:=h2;rw[e] at e';cases e';rw[d] at d';cases d';rfl
mutual
theorem eo.inj {h:UU}:∀{x y:U} {v:R6},eo h x v->eo h y v->x=y
 | .int i,y,v,h1,h2=>by
  unfold eo at h1;obtain⟨t,rfl⟩:=h1;cases y<;>unfold eo at h2<;>first|exact h2.elim|skip
  ·obtain⟨u,e⟩:=h2;cases e;rfl
  ·obtain⟨_,_,e,_⟩:=h2;cases e
 | .str i,y,v,h1,h2=>by unfold eo at h1;exact h1.elim
 | .tup us,y,v,h1,h2=>by
  unfold eo at h1;obtain⟨a,ax,rfl,q,z⟩:=h1;cases y<;>unfold eo at h2<;>first|exact h2.elim|skip
  ·obtain⟨u,e⟩:=h2;cases e
  ·obtain⟨a',its',e,q',z'⟩:=h2;cases e;have:=wQ q q';subst this;rw[cx.inj z z']
 | .non,y,v,h1,h2=>by unfold eo at h1;exact h1.elim
 | .bl _,y,v,h1,h2=>by unfold eo at h1;exact h1.elim
 | .lst _,y,v,h1,h2=>by unfold eo at h1;exact h1.elim
 | .dct _ _,y,v,h1,h2=>by unfold eo at h1;exact h1.elim
 | .scr _,y,v,h1,h2=>by unfold eo at h1;exact h1.elim
 | .obj _ _,y,v,h1,h2=>by unfold eo at h1;exact h1.elim
theorem cx.inj {h:UU}:∀{x y:List U} {vs:List R6},cx h x vs->cx h y vs->x=y
 | [],y,vs,h1,h2=>by
  unfold cx at h1;subst h1;cases y with
  |nil=>rfl
  |cons=>unfold cx at h2;obtain⟨_,_,e,_⟩:=h2;cases e
 |u::us,y,vs,h1,h2=>by
  unfold cx at h1;obtain⟨v,r,rfl,p,q⟩:=h1;cases y with
  |nil=>unfold cx at h2;cases h2
  |cons=>
   unfold cx at h2;obtain⟨v',r',e,p',q'⟩:=h2;cases e;rw[eo.inj p p',cx.inj q q']
end
mutual
theorem eo.keep {h h':UU}(k:∀a ax,h.IsTuple a ax->h'.IsTuple a ax):∀{x:U} {v:R6},eo h x v->eo h' x v
 | .int i,v,h1=>by unfold eo at h1 ⊢;exact h1
 | .str i,v,h1=>by unfold eo at h1;exact h1.elim
 | .tup us,v,h1=>by
  unfold eo at h1 ⊢;obtain⟨a,ax,e,q,z⟩:=h1;exact⟨a,ax,e,k a ax q,cx.keep k z⟩
 | .non,v,h1=>by unfold eo at h1;exact h1.elim
 | .bl _,v,h1=>by unfold eo at h1;exact h1.elim
 | .lst _,v,h1=>by unfold eo at h1;exact h1.elim
 | .dct _ _,v,h1=>by unfold eo at h1;exact h1.elim
 | .scr _,v,h1=>by unfold eo at h1;exact h1.elim
 | .obj _ _,v,h1=>by unfold eo at h1;exact h1.elim
theorem cx.keep {h h':UU}(k:∀a ax,h.IsTuple a ax->h'.IsTuple a ax):∀{x:List U} {vs:List R6},cx h x vs->cx h' x vs
 | [],vs,h1=>by unfold cx at h1 ⊢;exact h1
 |u::us,vs,h1=>by
  unfold cx at h1 ⊢;obtain⟨v,r,e,p,q⟩:=h1;exact⟨v,r,e,eo.keep k p,cx.keep k q⟩
end
theorem cx.length {h:UU}:∀{us:List U} {vs:List R6},cx h us vs->us.length=vs.length
 | [],vs,h1=>by unfold cx at h1;subst h1;rfl
 |u::us,vs,h1=>by
  unfold cx at h1;obtain⟨v,r,rfl,p,q⟩:=h1;rw[Sj,Sj,cx.length q]
theorem cx.get {h:UU}:∀{us:List U} {vs:List R6} {i:Nat} {u:U} {v:R6},cx h us vs->us[i]? = some u->vs[i]? = some v->eo h u v
 | [],_,_,_,_,_,e,_=>by simp at e
 |w::us,_,i,u,v,h,e1,e2=>by
  unfold cx at h;obtain⟨x,r,rfl,p,q⟩:=h;cases i with
  |zero=>simp at e1 e2;subst e1 e2;exact p
  |succ i=>exact cx.get q (by simpa using e1) (by simpa using e2)
theorem kM:∀{us:List U} {i:Nat} {u:U},us[i]? = some u->wm u<=qD us
 | [],_,_,e=>by simp at e
 |w::us,i,u,e=>by
  unfold qD;cases i with
  |zero=>simp at e;subst e;exact Nat.le_max_left _ _
  |succ i=>exact Sz (kM (us:=us) (by simpa using e)) (Nat.le_max_right _ _)
theorem oE:∀(a b:List U),uh (a++b)=uh a++uh b
 | [],b=>by unfold uh;rfl
 |x::a,b=>by rw[Wn,uh,uh,oE a b];rfl
theorem mK:∀(a b:List U),lY (a++b)=lY a+lY b
 | [],b=>by rw[Uv];show _=0+_;lia
 |x::a,b=>by rw[Wn,lY,lY,mK a b];lia
section
variable {w:Tq}
theorem Jp:∀(n:Nat) (u:U) (v:R6) (A:S2) (E:R6->Sk->Prop) (s:Sk) (Q:Int->Sk->Prop),wm u<=n->A.units+n<Uu->eo s.heap u v->Q (hK u) {s with toks:=s.toks+GU u} ->
  Sv (SN prog w) A (pyHash v) Q E s:=by
 intro n
 induction n with
 |zero=>
  intro u v A E s Q hd hu hk h;cases u<;>unfold eo at hk<;>first|exact hk.elim|skip
  ·obtain⟨t,rfl⟩:=hk;unfold hK GU at h;exact wpAny_pyHash_int h
  ·unfold wm at hd;lia
 |succ n ih=>
  intro u v A E s Q hd hu hk h;cases u<;>unfold eo at hk<;>first|exact hk.elim|skip
  ·obtain⟨t,rfl⟩:=hk;unfold hK GU at h;exact wpAny_pyHash_int h
  ·rename_i us;unfold wm at hd;obtain⟨a,items,rfl,ht,hi⟩:=hk;have hT:s.TypeIs (.ref a) "tuple":=let ⟨o,e,c,_⟩:=ht;⟨o,e,c⟩
   obtain⟨o,ho,_,nn,hdat⟩:=ht;unfold pyHash
   first|unfold pyHashByItsType|skip
   first|refine RW (wpAny_cRoomFor_or (.inr (by lia)) ?_)|skip
   refine RW (VH hT F.slot_tuple_hash.lookup ?_);show Sv _ _ (if (some (Value.builtin "tuple.__hash__")==some Value.none)=true then _ else _) Q E s;rw[hZ (by rw[beq_builtin_none];exact R0)];refine RW (VH hT F.slot_tuple_hash.lookup ?_);show Sv _ _ (callSpecialIfBoundUnlessNone? (.ref a) "__hash__" _ >>= _) Q E s;refine RW (wpAny_callSpecialIfBoundUnlessNone?_slot hT F.slot_tuple_hash (SI F.slot_tuple_hash hT F.entry_tuple_hash ?_ (F.args_tuple_hash_1 _)));show Sv _ _ (Va (.ref a) >>= _) _ _ s;refine RW (wpAny_tupleItemsOf ho hdat ?_);refine RW ?_;rw[←Array.forIn_toList];refine wpAny_forIn_list _
    (λrest (b:Array Int) s'=>∃done left,us=done++left/\cx s.heap left rest/\b.toList=uh done/\s'={s with toks:=s.toks+lY done})
    _ ?_ ?_ _ _ ⟨[],us,rfl,hi,by unfold uh;rfl,by unfold lY;rfl⟩
   ·rintro x rest b s' ⟨done,left,rfl,hl,hb,rfl⟩;cases left with
    |nil=>unfold cx at hl;cases hl
    |cons k ks'=>
     unfold cx at hl;obtain⟨v',r',e,h1,hl'⟩:=hl;cases e;have Pg:wm k<=n:=by
      have:=kM (us:=done++k::ks') (i:=done.length) (u:=k) (by simp);lia
     refine RW (ih k x A.in1 E _ _ Pg (by show A.units+1+n<Uu;lia) h1 ?_);have e2:uh (done++[k])=uh done++[hK k]:=by rw[oE];unfold uh uh;rfl
     have e3:lY (done++[k])=lY done+GU k:=by rw[mK];show _+(GU k+lY [])=_;unfold lY;lia
     first
      |exact RZ ⟨done++[k],ks',by simp,hl',by simp[hb,e2],by simp[e3,Nat.add_assoc]⟩
      |exact RW (RZ (RZ ⟨done++[k],ks',by simp,hl',by simp[hb,e2],by simp[e3,Nat.add_assoc]⟩))
   ·rintro b s' ⟨done,left,rfl,hl,hb,rfl⟩;cases left with
    |cons k ks'=>unfold cx at hl;obtain⟨_,_,e,_⟩:=hl;cases e
    |nil=>
     rw[Tg] at h;show Sv _ _ (retInt (TH b.toList)) _ _ _;rw[hb];refine wpAny_ret_mkInt ?_;show Sv _ _ (if (decide (-(2:Int) ^ 63<=TH (uh done))&&decide (TH (uh done)<2 ^ 63))=true then _ else _) Q E _;unfold hK GU reduceHash at h;by_cases hr:(decide (-(2:Int) ^ 63<=TH (uh done))&&decide (TH (uh done)<2 ^ 63))=true
     ·rw[h9 hr];rw[h9 hr] at h;exact RZ (by simpa [Nat.add_assoc] using h)
     ·rw[hZ hr];rw[hZ hr] at h;exact RW (wpAny_rule (RZ (by simpa [Nat.add_assoc] using h)))
theorem Oz:∀(n:Nat) (x y:U) (u v:R6) (A:S2),wm x<=n->A.units+n<Uu->eo s.heap x u->eo s.heap y v->Vv A s u v (decide (x=y)):=by
 intro n
 induction n with
 |zero=>
  intro x y u v A hd hu h1 h2;have di:A.units<Uu:=by lia
  cases x<;>(try (unfold eo at h1;exact h1.elim))
  case int i=>
   unfold eo at h1;obtain⟨t,rfl⟩:=h1;cases y<;>(try (unfold eo at h2;exact h2.elim))
   case int j=>
    unfold eo at h2;obtain⟨t',rfl⟩:=h2;have:=SeqAt.EqAt.int_int (A:=A) (s:=s) i t j t';have e:decide (U.int i=U.int j)=(i==j):=by rw[Tt];simp
    rw[e];exact this
   case tup us=>
    unfold eo at h2;obtain⟨a,ax,rfl,ht,_⟩:=h2;rw[hV (by intro z;cases z)];exact SeqAt.EqAt.int_tuple i t ht di
  case tup us=>unfold wm at hd;lia
 |succ n ih=>
  intro x y u v A hd hu h1 h2;have di:A.units<Uu:=by lia
  cases x<;>(try (unfold eo at h1;exact h1.elim))
  case int i=>exact ih _ y u v A (by unfold wm;lia) (by lia) h1 h2
  case tup us=>
   unfold wm at hd;have Io:=h1;unfold eo at h1;obtain⟨a,ax,rfl,p1,z1⟩:=h1;cases y<;>(try (unfold eo at h2;exact h2.elim))
   case int j=>
    unfold eo at h2;obtain⟨t',rfl⟩:=h2;rw[hV (by intro z;cases z)];exact SeqAt.EqAt.tuple_int j t' p1 di
   case tup ws=>
    have N4:=h2;unfold eo at h2;obtain⟨b,its2,rfl,p2,z2⟩:=h2;by_cases hab:a=b
    ·subst hab;rw[eo.inj Io N4,hJ rfl];exact WH _
    ·refine W5 hab ?_;have l1:ax.size=us.length:=by rw[z1.length,SM]
     have l2:its2.size=ws.length:=by rw[z2.length,SM]
     have he:∀j (g1:j<ax.size) (g2:j<its2.size),Vv A.in1 s ax[j] its2[j] (decide (us[j]? = ws[j]?)):=λj g1 g2=>by
      have q1:us[j]? = some us[j]:=R5 (by lia);have q2:ws[j]? = some ws[j]:=R5 (by lia);have y1:ax.toList[j]? = some ax[j]:=by rw[Tc];exact TJ g1
      have y2:its2.toList[j]? = some its2[j]:=by rw[Tc];exact TJ g2
      have e:decide (us[j]? = ws[j]?)=decide (us[j]=ws[j]):=by rw[q1,q2,Tt];simp
      rw[e];refine ih us[j] ws[j] ax[j] its2[j] A.in1 ?_ (by show A.units+1+n<Uu;lia) (z1.get q1 y1) (z2.get q2 y2);have:=kM q1;lia
     have q:=SeqAt.RcAt.tuples (A:=A) p1 p2 di he;rw[l1,l2] at q;have fin:((SX (min us.length ws.length)).all (λj=>decide (us[j]? = ws[j]?))&&us.length==ws.length)=decide (U.tup us=U.tup ws):=by
      rw[Tt,Sa,S4,decide_eq_true_eq];constructor
      ·rintro⟨ha,hl⟩;have hl:us.length=ws.length:=by simpa using hl
       congr 1;refine List.ext_getElem? λj=>?_;by_cases hj:j<us.length
       ·exact of_decide_eq_true (ha j (W8.mpr (by lia)))
       ·rw[TL.mpr (by lia),TL.mpr (by lia)]
      ·intro e;cases e;exact⟨λj _=>hJ rfl,by simp⟩
     rw[←fin];exact q
theorem E4:∀(n:Nat) (x:U) (v:R6) (A:S2) (E:R6->Sk->Prop) (s:Sk) (Q:Bool->Sk->Prop),wm x<=n->eo s.heap x v->Q true s->Sv (SN prog w) A (eqIsQuiet n v) Q E s:=by
 intro n
 induction n with
 |zero=>
  intro x v A E s Q hd hk h;cases x<;>unfold eo at hk<;>first|exact hk.elim|skip
  ·obtain⟨t,rfl⟩:=hk;rw[eqIsQuiet_byValue _ rfl];exact RZ h
  ·unfold wm at hd;lia
 |succ n ih=>
  intro x v A E s Q hd hk h;cases x<;>unfold eo at hk<;>first|exact hk.elim|skip
  ·obtain⟨t,rfl⟩:=hk;rw[eqIsQuiet_byValue _ rfl];exact RZ h
  ·rename_i us;unfold wm at hd;obtain⟨a,items,rfl,ht,hi⟩:=hk;have hT:s.TypeIs (.ref a) "tuple":=let ⟨o,e,c,_⟩:=ht;⟨o,e,c⟩
   obtain⟨o,ho,_,nn,hdat⟩:=ht;unfold eqIsQuiet;refine RW (VH hT F.slot_tuple_eq.lookup ?_);show Sv _ _ (isInstance (.ref a) (.type "tuple") >>= _) _ _ s;refine RW (Vl hT isSubtype_tuple_tuple ?_);simp only[Up,SQ,if_false];refine RW (wpAny_seqItems ho hdat ?_);refine RW ?_;show Sv _ _ (forIn items _ _) _ _ s;rw[←Array.forIn_toList];refine wpAny_forIn_list _ (λrest r s'=>r.1=none/\s'=s/\∃done left,us=done++left/\cx s.heap left rest) _ ?_ ?_ _ _ ⟨rfl,rfl,[],us,rfl,hi⟩
   ·rintro v rest r s' ⟨hr,rfl,done,left,rfl,hl⟩;cases left with
    |nil=>unfold cx at hl;cases hl
    |cons k ks'=>
     unfold cx at hl;obtain⟨v',r',e,h1,hl'⟩:=hl;cases e;have Pg:wm k<=n:=by
      have:=kM (us:=done++k::ks') (i:=done.length) (u:=k) (by simp);lia
     refine RW (ih k v A E _ _ Pg h1 ?_);simp only[Up,SQ,if_false];exact RZ ⟨rfl,rfl,done++[k],ks',by simp,hl'⟩
   ·rintro⟨r1,r2⟩ s' ⟨hr,rfl,_⟩;simp only at hr;subst hr;exact RZ h
def TK (h:UU)(us:List U)(a:Sr):Prop:=qD us<=6/\∃items,h.IsTuple a items/\cx h us items.toList
theorem TK.is (x:TK h us a):wm (.tup us)<=7/\eo h (.tup us) (.ref a):=by
 obtain⟨l,ax,t,z⟩:=x;exact⟨by unfold wm;lia,by unfold eo;exact⟨a,ax,rfl,t,z⟩⟩
theorem kN {x y:List U}:(U.tup x=U.tup y)↔x=y:=⟨λh=>by cases h;rfl,λh=>by rw[h]⟩
noncomputable def oF (prog:UN)(w:Tq):HeapKind prog w (List U) where
 is:=TK
 hash:=λus=>hK (.tup us)
 draws:=λus=>GU (.tup us)
 room:=λA=>A.units+20<Uu
 inj:=λhx hy=>kN.mp (eo.inj hx.is.2 hy.is.2)
 keeps:=λ{h h' k a d o es ep} x ho hd hs=>by
  have kp:∀b ax,h.IsTuple b ax->h'.IsTuple b ax:=λb ax h00=>by
   obtain⟨o',e,c,n,z⟩:=h00;have Er:b≠d:=by
    rintro rfl;obtain rfl:o'=o:=SH (e.symm.trans ho);rw[hd] at z;exact nomatch z
   exact⟨o',(hs.2 b Er).trans e,c,n,z⟩
  obtain⟨l,ax,t,z⟩:=x;exact⟨l,ax,kp _ _ t,z.keep kp⟩
 pyHash:=λ{A E s k a Q} hu hk h=>Jp 7 (.tup k) (.ref a) A E s Q hk.is.1 (by lia) hk.is.2 h
 eqBool:=λ{A E s x y a b Q} hu hx hy h=>Oz 7 (.tup x) (.tup y) (.ref a) (.ref b) A hx.is.1 (by lia) hx.is.2 hy.is.2 prog w E Q (by
  have e:decide (U.tup x=U.tup y)=decide (x=y):=by rw[Tt,decide_eq_true_eq,decide_eq_true_eq];exact kN
  rw[e];exact h)
 quiet:=λ{A E s k a Q} hk h=>E4 8 (.tup k) (.ref a) A E s Q (Sz hk.is.1 (by lia)) hk.is.2 h
end
def Eo (p:List U×Sr×V)(q:List U×Sr×R6):Prop:=p.1=q.1/\p.2.1=q.2.1/\aM p.2.2 q.2.2
noncomputable def LJ (e:List U×Sr×R6):Xv:=⟨hK (.tup e.1),.ref e.2.1,e.2.2⟩
def LK (a:Sr)(ep:Nat)(es:List (List U×Sr×V))(h:UU):Prop:=(a==Tr)=false/\∃o ds,∃xs:List (List U×Sr×R6),h.get? a=some o/\o.ExactDict/\o.data=.dict ds ep/\Ws Eo es xs/\ds.toList=xs.map LJ
noncomputable def DN (a:Sr)(ep:Nat)(es:List (List U×Sr×V)):HO:=.ext (LK a ep es)
mutual
def KH (H:Hp):U->V->Prop
 | .int i,v=>v=.int i
 | .tup us,v=>∃b ys,v=.ref b/\H b=some (.tup ys)/\us.length<=R3/\oG H us ys
 |_,_=>False
def oG (H:Hp):List U->List V->Prop
 | [],vs=>vs=[]
 |u::us,vs=>∃v r,vs=v::r/\KH H u v/\oG H us r
end
mutual
theorem KH.to {H H':Hp}(e:∀b ys,H b=some (.tup ys)->H' b=some (.tup ys)):∀{u:U} {v:V},KH H u v->KH H' u v
 | .int i,v,h=>by unfold KH at h ⊢;exact h
 | .tup us,v,h=>by
  unfold KH at h ⊢;obtain⟨b,ys,r,q,l,z⟩:=h;exact⟨b,ys,r,e b ys q,l,oG.to e z⟩
 | .non,v,h=>by unfold KH at h;exact h.elim
 | .bl _,v,h=>by unfold KH at h;exact h.elim
 | .str _,v,h=>by unfold KH at h;exact h.elim
 | .lst _,v,h=>by unfold KH at h;exact h.elim
 | .dct _ _,v,h=>by unfold KH at h;exact h.elim
 | .scr _,v,h=>by unfold KH at h;exact h.elim
 | .obj _ _,v,h=>by unfold KH at h;exact h.elim
theorem oG.to {H H':Hp}(e:∀b ys,H b=some (.tup ys)->H' b=some (.tup ys)):∀{us:List U} {vs:List V},oG H us vs->oG H' us vs
 | [],vs,h=>by unfold oG at h ⊢;exact h
 |u::us,vs,h=>by
  unfold oG at h ⊢;obtain⟨v,r,q,p,z⟩:=h;exact⟨v,r,q,KH.to e p,oG.to e z⟩
end
section
variable {w:Tq}
mutual
theorem KH.is (ok:gK P w H h):∀{u:U} {v:V} {x:R6},KH H u v->aM v x->eo h u x
 | .int i,v,x,k,r=>by
  unfold KH at k;subst k;obtain⟨t,rfl⟩:=r;unfold eo;exact⟨t,rfl⟩
 | .tup us,v,x,k,r=>by
  unfold KH at k;obtain⟨b,ys,rfl,q,_,z⟩:=k;cases r;obtain⟨_,ax,rv,it,_⟩:=ok b _ q;unfold eo;exact⟨b,ax.toArray,rfl,it,by simpa using oG.is ok z rv⟩
 | .non,v,x,k,r=>by unfold KH at k;exact k.elim
 | .bl _,v,x,k,r=>by unfold KH at k;exact k.elim
 | .str _,v,x,k,r=>by unfold KH at k;exact k.elim
 | .lst _,v,x,k,r=>by unfold KH at k;exact k.elim
 | .dct _ _,v,x,k,r=>by unfold KH at k;exact k.elim
 | .scr _,v,x,k,r=>by unfold KH at k;exact k.elim
 | .obj _ _,v,x,k,r=>by unfold KH at k;exact k.elim
theorem oG.is (ok:gK P w H h):∀{us:List U} {vs:List V} {xs:List R6},oG H us vs->aO vs xs->cx h us xs
 | [],vs,xs,k,r=>by
  unfold oG at k;subst k;cases r;unfold cx;rfl
 |u::us,vs,xs,k,r=>by
  unfold oG at k;obtain⟨v,vr,rfl,p,z⟩:=k;cases r with
  |cons r1 r2=>
   unfold cx;exact⟨_,_,rfl,KH.is ok p r1,oG.is ok z r2⟩
end
def ui (H:Hp)(us:List U)(b:Sr):Prop:=qD us<=6/\∃ys,H b=some (.tup ys)/\us.length<=R3/\oG H us ys
theorem ui.tk (ok:gK P w H h)(k:ui H us b):TK h us b:=by
 obtain⟨l,ys,q,_,z⟩:=k;obtain⟨_,ax,rv,it,_⟩:=ok b _ q;exact⟨l,ax.toArray,it,by simpa using oG.is ok z rv⟩
theorem ui.to (e:∀b ys,H b=some (.tup ys)->H' b=some (.tup ys))(k:ui H us b):ui H' us b:=by
 obtain⟨l,ys,q,n,z⟩:=k;exact⟨l,ys,e b ys q,n,z.to e⟩
structure fG (H:Hp)(a:Sr)(es:List (List U×Sr×V)):Prop where
 ob:(∃ep,H a=some (DN a ep es))\/(es=[]/\H a=some (.dK []))
 nd:(es.map (·.1)).Nodup
 key:∀e∈es,ui H e.1 e.2.1
theorem j5 {α β:Type}{R:α->β->Prop}:∀{xs:List α} {ys:List β} {y:β},Ws R xs ys->y∈ys->∃x∈xs,R x y
 |_,_,_,.nil,h=>by cases h
 |x::xs,y'::ys,y,.cons r t,h=>by
  rcases Ss.mp h with e|h
  ·subst e;exact⟨x,Sd,r⟩
  ·obtain⟨x',m,q⟩:=j5 t h;exact⟨x',Sn _ m,q⟩
theorem oH:∀{es:List (List U×Sr×V)} {xs:List (List U×Sr×R6)},Ws Eo es xs->es.map (·.1)=xs.map (·.1)
 |_,_,.nil=>rfl
 |_::_,_::_,.cons r t=>by rw[RY,RY,oH t,r.1]
theorem fG.of (ok:gK P w H h)(d:fG H a es):∃xs,Ws Eo es xs/\h.DictOfH (oF P w) a xs:=by
 rcases d.ob with⟨ep,q⟩|⟨e,q⟩
 ·obtain⟨⟨_,o,ds,xs,h1,h2,h3,h4,h5⟩,_⟩:=ok a _ q;refine⟨xs,h4,o,ds,ep,h1,h2,h3,h5,λx hx=>?_,by rw[←oH h4];exact d.nd⟩;obtain⟨e,he,r⟩:=j5 h4 hx;have:=(d.key e he).tk ok;rw[r.1,r.2.1] at this;exact this
 ·subst e;obtain⟨_,_,vs,rel,dd⟩:=ok a _ q;cases rel;obtain⟨o,ds,ep,h1,h2,h3,h4,h5,h6⟩:=dd;have e0:ds.toList=[]:=by
   generalize ds.toList=l at h5;cases h5;rfl
  exact⟨[],.nil,o,ds,ep,h1,h2,h3,by rw[e0];rfl,(λx hx=>by cases hx),V8⟩
theorem fG.lo (ok:gK P w H h)(d:fG H a es):(a==Tr)=false:=by
 rcases d.ob with⟨ep,q⟩|⟨e,q⟩
 ·obtain⟨⟨l,_⟩,_⟩:=ok a _ q;exact l
 ·obtain⟨_,l,_⟩:=ok a _ q;exact l
noncomputable def iV (es:List (List U×Sr×V))(k:List U):Option V:=(es.find? λe=>decide (e.1=k)).map (·.2.2)
noncomputable def jL (es:List (List U×Sr×V))(k:List U)(b:Sr)(v:V):List (List U×Sr×V):=
 if (iV es k).isSome then es.map (λe=>if e.1=k then (e.1,e.2.1,v) else e) else es++[(k,b,v)]
theorem i5 (k:List U):∀{es:List (List U×Sr×V)} {xs:List (List U×Sr×R6)},Ws Eo es xs->jZ (iV es k) ((atKey xs k).map (·.2))
 |_,_,.nil=>trivial
 |e::es,x::xs,.cons r t=>by
  have ih:=i5 k t;unfold iV atKey at ih ⊢;rw[TF,TF];by_cases c:e.1=k
  ·have c':x.1=k:=by rw[←r.1];exact c
   rw[hJ c,hJ c'];exact r.2.2
  ·have c':¬x.1=k:=by rw[←r.1];exact c
   rw[hV c,hV c'];exact ih
theorem BJ (k:List U){u:R6}(rv:aM v u){xs:List (List U×Sr×R6)}(p:Ws Eo es xs):Ws Eo (jL es k b v) (storedH xs k b u):=by
 have e:(iV es k).isSome=(atKey xs k).isSome:=by
  have:=(i5 k p).isSome_eq;rw[Option.isSome_map] at this;exact this
 unfold jL storedH;rw[e];split
 ·rename_i hh;clear hh e
  induction p with
  |nil=>exact .nil
  | @cons q x es xs r t ih=>
   refine .cons ?_ ih;unfold putAt;dsimp only;by_cases c:q.1=k
   ·have c':x.1=k:=by rw[←r.1];exact c
    rw[h9 c,h9 c'];exact⟨r.1,r.2.1,rv⟩
   ·have c':¬x.1=k:=by rw[←r.1];exact c
    rw[hZ c,hZ c'];exact r
 ·rename_i hh;clear hh e
  induction p with
  |nil=>exact .cons ⟨rfl,rfl,rv⟩ .nil
  |cons r t ih=>exact .cons r ih
end
section
variable {d:V}{r:R6}{k:List U}{A:S2}
theorem sH (hu:A.units+64<Uu):(oF X.prog X.w).room A.in1:=by show A.units+1+20<Uu;lia
theorem zY (hu:A.units+64<Uu)(I:ay X pins σ H s)(g:fG H a es)(kb:ui H k b)(e:iV es k=some v)(h:∀w' s',ay X pins σ H s'->aM v w'->Q w' s') :
  Sv (SN X.prog X.w) A (WD (.ref a) (.ref b)) Q E s:=by
 obtain⟨xs,rel,dd⟩:=g.of I.hok;obtain⟨w',hw,xS⟩:=jZ.some_of (v:=v) (o:=(atKey xs k).map (·.2)) (by rw[←e];exact i5 k rel);obtain⟨p,hp,AO⟩:=VT.mp hw;refine wpAny_getItem_heap (sH hu) (kb.tk I.hok) dd hp ?_;rw[AO];exact h w' _ (I.tok _) xS
theorem Jq (hu:A.units+64<Uu)(I:ay X pins σ H s)(g:fG H a es)(kb:ui H k b)(rd:aM d r)(h:∀w' s',ay X pins σ H s'->aM ((iV es k).getD d) w'->Q w' s') :
  Sv (SN X.prog X.w) A (call (.builtin "dict.get") [.ref a,.ref b,r]) Q E s:=by
 obtain⟨xs,rel,dd⟩:=g.of I.hok;exact call_meetsIn U2 dd.typeIs VU (VI _ _ _) (meetsH_dict_get_default (oF X.prog X.w) a b (g.lo I.hok) r) ⟨sH hu,k,xs,kb.tk I.hok,dd,h _ _ (I.tok _) ((i5 k rel).getD rd)⟩
theorem fG.typeIs (I:ay X pins σ H s)(g:fG H a es):s.TypeIs (.ref a) "dict":=by
 obtain⟨xs,rel,dd⟩:=g.of I.hok;exact dd.typeIs
theorem fG.noDict (I:ay X pins σ H s)(g:fG H a es):∀b,Value.ref a=.ref b->∃ob,s.heap.get? b=some ob/\ob.dict=none:=λb q=>by
 cases q;obtain⟨xs,rel,ob,_,_,h1,h2,_⟩:=g.of I.hok;exact⟨ob,h1,h2.2.1⟩
theorem fG.mut (g:fG H a es):KO (H a):=by
 rcases g.ob with⟨ep,q⟩|⟨_,q⟩<;>(rw[q];exact True.intro)
theorem zZ {Q:Unit->Sk->Prop}(hu:A.units+64<Uu)(I:ay X pins σ H s)(g:fG H a es)(kb:ui H k b)(hz:es.length<=R3)(rv:aM v r)(h:∀ep s',ay X pins σ (cu H a (DN a ep (jL es k b v))) s'->Q () s') :
  Sv (SN X.prog X.w) A (setItem (.ref a) (.ref b) r) Q E s:=by
 obtain⟨xs,rel,dd⟩:=g.of I.hok;refine wpAny_setItem_heap (hsz:=by rw[←U6 rel];exact hz) (sH hu) (kb.tk I.hok) dd λh' KY hs=>?_;obtain⟨q,ds,ep,hq,h2,h3,h4,_,h5⟩:=KY;refine h ep _ ?_;refine sE I g.mut hs ⟨q,hq⟩ ⟨⟨g.lo I.hok,q,ds,_,hq,h2,h3,BJ k rv rel,h4⟩,⟨q,hq⟩,λg1 g2 ⟨l,o,ds,xs,z1,z2⟩ kp=>⟨l,o,ds,xs,kp _ z1,z2⟩⟩
end
end L2
namespace L2
noncomputable def kU:Key->U
 | .inl i=>.int i
 | .inr x=>.str x
def sJ (H:Hp)(a:Sr)(ks:List U)(xs:List V):Prop:=
 (∃aP:List (Key×V),H a=some (.dK aP)/\ks=aP.map (λp=>kU p.1)/\xs=aP.map (·.2)) \/
 ∃es:List (List U×Sr×V),es≠[]/\fG H a es/\ks=es.map (λp=>.tup p.1)/\xs=es.map (·.2.2)
noncomputable abbrev LL:=sJ
theorem sJ.at (h:LL H a ks xs):sJ H a ks xs:=h
theorem fG.ne (h:fG H a es)(n:es≠[]):∃ep,H a=some (DN a ep es):=by
 rcases h.ob with q|⟨e,_⟩
 ·exact q
 ·exact absurd e n
def E5 (K:R1)(H:Hp)(a:Sr)(xs:List V):Prop:=(∃o,H a=some (.frz o (.lst xs))) \/
  ∃(o:Obj) (ax:Array R6) (n:Nat),K.lookup a=some o/\o.cls=.type "list"/\o.dict=none/\o.data=.seq ax n/\ax.size<=R3/\aO xs ax.toList
theorem E5.sq (h:E5 K H a xs):eN K H a xs:=by
 rcases h with⟨o,h⟩|h
 ·exact .inl (.inr ⟨o,h⟩)
 ·exact .inr h
theorem E5.to (h:E5 K H a xs)(e:∀o y,H a=some (.frz o y)->H' a=some (.frz o y)):E5 K H' a xs:=by
 rcases h with⟨o,h⟩|h
 ·exact .inl ⟨o,e _ _ h⟩
 ·exact .inr h
structure CO (K:R1)(C:Sr)(fs:List Str):Prop where
 cl:NJ K C
 no:∀f∈fs,IV K C f
 nd:fs.Nodup
mutual
def Rp (K:R1)(H:Hp)(A:Sr->Prop):U->V->Prop
 | .non,v=>v=.non
 | .bl b,v=>v=.bl b
 | .int i,v=>v=.int i
 | .str x,v=>v=.str x
 | .tup us,v=>∃a xs,v=.ref a/\H a=some (.tup xs)/\us.length<=R3/\aC K H A us xs
 | .lst us,v=>∃a xs,v=.ref a/\¬A a/\H a=some (.lst xs)/\us.length<=R3/\aC K H A us xs
 | .dct ks us,v=>∃a xs,v=.ref a/\¬A a/\sJ H a ks xs/\us.length<=R3/\aC K H A us xs
 | .scr us,v=>∃a xs,v=.ref a/\E5 K H a xs/\us.length<=R3/\aC K H A us xs
 | .obj fs us,v=>∃a C dx xs,v=.ref a/\H a=some (.ins C dx (fs.zip xs))/\CO K C fs/\us.length=fs.length/\aC K H A us xs
def aC (K:R1)(H:Hp)(A:Sr->Prop):List U->List V->Prop
 | [],xs=>xs=[]
 |u::us,xs=>∃x r,xs=x::r/\Rp K H A u x/\aC K H A us r
end
def i6 (K:R1)(H:Hp)(A:Sr->Prop):U->Sr->Prop
 | .lst us,a=>∃xs,H a=some (.lst xs)/\us.length<=R3/\aC K H A us xs
 | .dct ks us,a=>∃xs,LL H a ks xs/\us.length<=R3/\aC K H A us xs
 |_,_=>False
def Pk (K:R1)(H:Hp)(A:Sr->Prop):U->V->Prop
 | .non,v=>v=.non
 | .bl b,v=>v=.bl b
 | .int i,v=>v=.int i
 | .str x,v=>v=.str x
 | .tup us,v=>∃a xs,v=.ref a/\H a=some (.tup xs)/\us.length<=R3/\aC K H A us xs
 | .lst us,v=>∃a xs,v=.ref a/\H a=some (.lst xs)/\us.length<=R3/\aC K H A us xs
 | .dct ks us,v=>∃a xs,v=.ref a/\sJ H a ks xs/\us.length<=R3/\aC K H A us xs
 | .scr us,v=>∃a xs,v=.ref a/\E5 K H a xs/\us.length<=R3/\aC K H A us xs
 | .obj fs us,v=>∃a C dx xs,v=.ref a/\H a=some (.ins C dx (fs.zip xs))/\CO K C fs/\us.length=fs.length/\aC K H A us xs
def Mu:Option HO->Prop
 |some (.lst _)=>True
 |some (.dK _)=>True
 |some (.dT _)=>True
 |some (.ext _)=>True
 |_=>False
theorem Mu.ex {o:Option HO}(h:Mu o):∃x,o=.some x:=by
 cases o with
 |none=>exact h.elim
 |some x=>exact⟨x,rfl⟩
def dQ (A:Sr->Prop)(H H':Hp):Prop:=∀b o,¬A b->H b=some o->H' b=some o
theorem dQ.refl:dQ A H H:=λ_ _ _ h=>h
theorem dQ.trans (a:dQ A H H1)(b:dQ A H1 H2):dQ A H H2:=λc o n h=>b c o n (a c o n h)
theorem dQ.same (h:aJ H H'):dQ A H H':=λb o _ e=>h b o e
section
variable {A':Sr->Prop}
theorem sJ.ex (h:sJ H a ks xs):∃o,H a=some o:=by
 rcases h with⟨k,h,_⟩|⟨k,n,h,_⟩
 ·exact⟨_,h⟩
 ·obtain⟨ep,q⟩:=h.ne n;exact⟨_,q⟩
theorem sJ.to (h:sJ H a ks xs)(e:∀o,H a=some o->H' a=some o)(t:∀b ys,H b=some (.tup ys)->H' b=some (.tup ys)):sJ H' a ks xs:=by
 rcases h with⟨k,h,z⟩|⟨k,n,h,z⟩
 ·exact .inl ⟨k,e _ h,z⟩
 ·exact .inr ⟨k,n,⟨h.ob.imp (fun⟨ep,q⟩=>⟨ep,e _ q⟩) (λq=>⟨q.1,e _ q.2⟩),h.nd,λy hy=>(h.key y hy).to t⟩,z⟩
mutual
theorem Rp.re (m:∀b,A b->Mu (H b))(e:dQ A H H')(n:∀b,A' b->A b\/H b=none):∀{u:U} {v:V},Rp K H A u v->Rp K H' A' u v
 | .non,v,h=>by unfold Rp at h ⊢;exact h
 | .bl b,v,h=>by unfold Rp at h ⊢;exact h
 | .int b,v,h=>by unfold Rp at h ⊢;exact h
 | .str b,v,h=>by unfold Rp at h ⊢;exact h
 | .tup us,v,h=>by
  unfold Rp at h ⊢;obtain⟨a,xs,r,q,l,z⟩:=h;exact⟨a,xs,r,e a _ (λz=>by have:=m a z;rw[q] at this;exact this) q,l,aC.re m e n z⟩
 | .lst us,v,h=>by
  unfold Rp at h ⊢;obtain⟨a,xs,r,na,q,l,z⟩:=h;refine⟨a,xs,r,λy=>?_,e a _ na q,l,aC.re m e n z⟩;rcases n a y with y|y
  ·exact na y
  ·rw[q] at y;cases y
 | .scr us,v,h=>by
  unfold Rp at h ⊢;obtain⟨a,xs,r,q,l,z⟩:=h;exact⟨a,xs,r,q.to λo y w=>e a _ (λz=>by have:=m a z;rw[w] at this;exact this) w,l,aC.re m e n z⟩
 | .obj fs us,v,h=>by
  unfold Rp at h ⊢;obtain⟨a,C,dx,xs,r,q,c,l,z⟩:=h;exact⟨a,C,dx,xs,r,e a _ (λz=>by have:=m a z;rw[q] at this;exact this) q,c,l,aC.re m e n z⟩
 | .dct ks us,v,h=>by
  unfold Rp at h ⊢;obtain⟨a,xs,r,na,q,l,z⟩:=h;refine⟨a,xs,r,λy=>?_,q.to (λo w=>e a o na w) (λb ys w=>e b _ (λy=>by have:=m b y;rw[w] at this;exact this) w),l,aC.re m e n z⟩;obtain⟨o,w⟩:=q.ex;rcases n a y with y|y
  ·exact na y
  ·rw[w] at y;cases y
theorem aC.re (m:∀b,A b->Mu (H b))(e:dQ A H H')(n:∀b,A' b->A b\/H b=none):∀{us:List U} {vs:List V},aC K H A us vs->aC K H' A' us vs
 | [],vs,h=>by unfold aC at h ⊢;exact h
 |u::us,vs,h=>by
  unfold aC at h ⊢;obtain⟨x,r,q,p,z⟩:=h;exact⟨x,r,q,Rp.re m e n p,aC.re m e n z⟩
end
mutual
theorem Rp.mono (n:∀b,A' b->A b):∀{u:U} {v:V},Rp K H A u v->Rp K H A' u v
 | .non,v,h=>by unfold Rp at h ⊢;exact h
 | .bl b,v,h=>by unfold Rp at h ⊢;exact h
 | .int b,v,h=>by unfold Rp at h ⊢;exact h
 | .str b,v,h=>by unfold Rp at h ⊢;exact h
 | .tup us,v,h=>by
  unfold Rp at h ⊢;obtain⟨a,xs,r,q,l,z⟩:=h;exact⟨a,xs,r,q,l,aC.mono n z⟩
 | .lst us,v,h=>by
  unfold Rp at h ⊢;obtain⟨a,xs,r,na,q,l,z⟩:=h;exact⟨a,xs,r,λy=>na (n a y),q,l,aC.mono n z⟩
 | .scr us,v,h=>by
  unfold Rp at h ⊢;obtain⟨a,xs,r,q,l,z⟩:=h;exact⟨a,xs,r,q,l,aC.mono n z⟩
 | .obj fs us,v,h=>by
  unfold Rp at h ⊢;obtain⟨a,C,dx,xs,r,q,c,l,z⟩:=h;exact⟨a,C,dx,xs,r,q,c,l,aC.mono n z⟩
 | .dct ks us,v,h=>by
  unfold Rp at h ⊢;obtain⟨a,xs,r,na,q,l,z⟩:=h;exact⟨a,xs,r,λy=>na (n a y),q,l,aC.mono n z⟩
theorem aC.mono (n:∀b,A' b->A b):∀{us:List U} {vs:List V},aC K H A us vs->aC K H A' us vs
 | [],vs,h=>by unfold aC at h ⊢;exact h
 |u::us,vs,h=>by
  unfold aC at h ⊢;obtain⟨x,r,q,p,z⟩:=h;exact⟨x,r,q,Rp.mono n p,aC.mono n z⟩
end
mutual
theorem Rp.same (e:aJ H H'):∀{u:U} {v:V},Rp K H A u v->Rp K H' A u v
 | .non,v,h=>by unfold Rp at h ⊢;exact h
 | .bl b,v,h=>by unfold Rp at h ⊢;exact h
 | .int b,v,h=>by unfold Rp at h ⊢;exact h
 | .str b,v,h=>by unfold Rp at h ⊢;exact h
 | .tup us,v,h=>by
  unfold Rp at h ⊢;obtain⟨a,xs,r,q,l,z⟩:=h;exact⟨a,xs,r,e a _ q,l,aC.same e z⟩
 | .lst us,v,h=>by
  unfold Rp at h ⊢;obtain⟨a,xs,r,na,q,l,z⟩:=h;exact⟨a,xs,r,na,e a _ q,l,aC.same e z⟩
 | .scr us,v,h=>by
  unfold Rp at h ⊢;obtain⟨a,xs,r,q,l,z⟩:=h;exact⟨a,xs,r,q.to λo y w=>e a _ w,l,aC.same e z⟩
 | .obj fs us,v,h=>by
  unfold Rp at h ⊢;obtain⟨a,C,dx,xs,r,q,c,l,z⟩:=h;exact⟨a,C,dx,xs,r,e a _ q,c,l,aC.same e z⟩
 | .dct ks us,v,h=>by
  unfold Rp at h ⊢;obtain⟨a,xs,r,na,q,l,z⟩:=h;exact⟨a,xs,r,na,q.to (λo w=>e a o w) (λb ys w=>e b _ w),l,aC.same e z⟩
theorem aC.same (e:aJ H H'):∀{us:List U} {vs:List V},aC K H A us vs->aC K H' A us vs
 | [],vs,h=>by unfold aC at h ⊢;exact h
 |u::us,vs,h=>by
  unfold aC at h ⊢;obtain⟨x,r,q,p,z⟩:=h;exact⟨x,r,q,Rp.same e p,aC.same e z⟩
end
theorem aC.length:∀{us:List U} {vs:List V},aC K H A us vs->us.length=vs.length
 | [],_,h=>by unfold aC at h;subst h;rfl
 |u::us,_,h=>by
  unfold aC at h;obtain⟨x,r,rfl,_,q⟩:=h;rw[Sj,Sj,aC.length q]
theorem aC.get:∀{us:List U} {vs:List V} {i:Nat} {u:U},aC K H A us vs->us[i]? = some u->∃v,vs[i]? = some v/\Rp K H A u v
 | [],_,_,_,_,e=>by simp at e
 |w::us,_,i,u,h,e=>by
  unfold aC at h;obtain⟨x,r,rfl,p,q⟩:=h;cases i with
  |zero=>simp at e;subst e;exact⟨x,by simp,p⟩
  |succ i=>
   obtain⟨v,a,b⟩:=aC.get q (i:=i) (by simpa using e);exact⟨v,by simpa using a,b⟩
theorem aC.nil:aC K H A [] []:=by unfold aC;rfl
theorem aC.cons (h:Rp K H A u v)(t:aC K H A us vs):aC K H A (u::us) (v::vs):=by unfold aC;exact⟨v,vs,rfl,h,t⟩
theorem aC.append:∀{us ws:List U} {vs xs:List V},aC K H A us vs->aC K H A ws xs->aC K H A (us++ws) (vs++xs)
 | [],ws,vs,xs,h,t=>by unfold aC at h;subst h;exact t
 |u::us,ws,vs,xs,h,t=>by
  unfold aC at h;obtain⟨x,r,rfl,p,q⟩:=h;exact aC.cons p (aC.append q t)
theorem aC.take:∀{us:List U} {vs:List V} (n:Nat),aC K H A us vs->aC K H A (us.take n) (vs.take n)
 | [],vs,n,h=>by unfold aC at h;subst h;simp;exact aC.nil
 |u::us,vs,0,h=>by simp;exact aC.nil
 |u::us,vs,n+1,h=>by
  unfold aC at h;obtain⟨x,r,rfl,p,q⟩:=h;exact aC.cons p (aC.take n q)
theorem aC.drop:∀{us:List U} {vs:List V} (n:Nat),aC K H A us vs->aC K H A (us.drop n) (vs.drop n)
 | [],vs,n,h=>by unfold aC at h;subst h;simp;exact aC.nil
 |u::us,vs,0,h=>h
 |u::us,vs,n+1,h=>by
  unfold aC at h;obtain⟨x,r,rfl,p,q⟩:=h;exact aC.drop n q
theorem aC.set:∀{us:List U} {vs:List V} (n:Nat) {u:U} {v:V},Rp K H A u v->aC K H A us vs->aC K H A (us.set n u) (vs.set n v)
 | [],vs,n,_,_,_,h=>by unfold aC at h;subst h;simp;exact aC.nil
 |u::us,vs,0,_,_,p',h=>by
  unfold aC at h;obtain⟨x,r,rfl,p,q⟩:=h;exact aC.cons p' q
 |u::us,vs,n+1,_,_,p',h=>by
  unfold aC at h;obtain⟨x,r,rfl,p,q⟩:=h;exact aC.cons p (aC.set n p' q)
theorem Rp.pk (h:Rp K H A u v):Pk K H A u v:=by
 cases u<;>(unfold Rp at h;unfold Pk)
 case lst us=>obtain⟨a,xs,r,na,q⟩:=h;exact⟨a,xs,r,q⟩
 case dct ks us=>obtain⟨a,xs,r,na,q⟩:=h;exact⟨a,xs,r,q⟩
 all_goals exact h
theorem Pk.same (e:aJ H H')(h:Pk K H A u v):Pk K H' A u v:=by
 cases u<;>(unfold Pk at h ⊢)
 case tup us=>obtain⟨a,xs,r,q,l,z⟩:=h;exact⟨a,xs,r,e a _ q,l,z.same e⟩
 case lst us=>obtain⟨a,xs,r,q,l,z⟩:=h;exact⟨a,xs,r,e a _ q,l,z.same e⟩
 case scr us=>obtain⟨a,xs,r,q,l,z⟩:=h;exact⟨a,xs,r,q.to λo y w=>e a _ w,l,z.same e⟩
 case obj fs us=>obtain⟨a,C,dx,xs,r,q,c,l,z⟩:=h;exact⟨a,C,dx,xs,r,e a _ q,c,l,z.same e⟩
 case dct ks us=>obtain⟨a,xs,r,q,l,z⟩:=h;exact⟨a,xs,r,q.to (λo w=>e a o w) (λb ys w=>e b _ w),l,z.same e⟩
 all_goals exact h
theorem i6.pk (h:i6 K H A u a):Pk K H A u (.ref a):=by
 cases u<;>(unfold i6 at h;unfold Pk)
 case lst us=>obtain⟨xs,q,l,z⟩:=h;exact⟨a,xs,rfl,q,l,z⟩
 case dct ks us=>obtain⟨xs,q,l,z⟩:=h;exact⟨a,xs,rfl,q.at,l,z⟩
 all_goals exact h.elim
theorem i6.rp (h:i6 K H A u a)(n:∀b,A' b->A b)(na:¬A' a):Rp K H A' u (.ref a):=by
 cases u<;>(unfold i6 at h;unfold Rp)
 case lst us=>obtain⟨xs,q,l,z⟩:=h;exact⟨a,xs,rfl,na,q,l,z.mono n⟩
 case dct ks us=>obtain⟨xs,q,l,z⟩:=h;exact⟨a,xs,rfl,na,q.at,l,z.mono n⟩
 all_goals exact h.elim
theorem i6.re (m:∀b,A b->Mu (H b))(e:dQ A H H')(n:∀b,A' b->A b\/H b=none)(ea:∀o,H a=some o->H' a=some o)(h:i6 K H A u a):i6 K H' A' u a:=by
 cases u<;>(unfold i6 at h ⊢)
 case lst us=>obtain⟨xs,q,l,z⟩:=h;exact⟨xs,ea _ q,l,z.re m e n⟩
 case dct ks us=>obtain⟨xs,q,l,z⟩:=h;exact⟨xs,q.to ea (λb ys w=>e b _ (λy=>by have:=m b y;rw[w] at this;exact this) w),l,z.re m e n⟩
 all_goals exact h.elim
theorem i6.mu (h:i6 K H A u a):Mu (H a):=by
 cases u<;>(unfold i6 at h)
 case lst us=>obtain⟨xs,q,_⟩:=h;rw[q];trivial
 case dct ks us=>
  obtain⟨xs,q,_⟩:=h;rcases q with⟨k,q,_⟩|⟨k,n,q,_⟩
  ·rw[q];trivial
  ·obtain⟨ep,q⟩:=q.ne n;rw[q];trivial
 all_goals exact h.elim
end
structure Pkg where
 A0:Sr->Prop
 B:Hp
 a0:Sr
structure Gm where
 own:List Bool
 io:Bool
 W:Hp->Prop
noncomputable def Gm.is (G:Gm)(i:Nat):Bool:=G.own.getD i false
structure bW (K:R1)(G:Gm)(Z:Pkg)(A:Sr->Prop)(ρ:Ev)(σ:St)(H:Hp):Prop where
 slot:∀i u,ρ[i]? = some (some u)->∃v,σ[i]? = some (some v)/\if G.is i=true then (∃a,v=.ref a/\A a/\Z.B a=none/\(¬Z.A0 a\/(G.io=true/\i=0))/\i6 K H A u a) else Rp K H A u v
 dis:∀i j u w a,G.is i=true->G.is j=true->i≠j->ρ[i]? = some (some u)->ρ[j]? = some (some w)->σ[i]? = some (some (.ref a))->σ[j]? = some (some (.ref a))->False
 mu:∀a,A a->Mu (H a)
 sup:∀a,Z.A0 a->A a
 out:∀a,A a->Z.A0 a\/Z.B a=none
 bas:∀a o,Z.B a=some o->H a=some o
 io0:G.io=true->σ[0]? = some (some (.ref Z.a0))/\G.is 0=true
 len:ρ.length=σ.length
section
variable {A':Sr->Prop}{G:Gm}{Z:Pkg}{ρ':Ev}
theorem bW.same (r:bW K G Z A ρ σ H)(e:aJ H H'):bW K G Z A ρ σ H' where
 slot:=λi u h=>by
  obtain⟨v,h1,h2⟩:=r.slot i u h;refine⟨v,h1,?_⟩;by_cases c:G.is i=true
  ·rw[h9 c] at h2 ⊢;obtain⟨a,e1,e2,e3,e4,e5⟩:=h2;exact⟨a,e1,e2,e3,e4,e5.re r.mu (dQ.same e) (λb z=>.inl z) λo w=>e a o w⟩
  ·rw[hZ c] at h2 ⊢;exact h2.same e
 dis:=r.dis
 mu:=λa h=>by
  have m:=r.mu a h;obtain⟨o,q⟩:=m.ex;rw[e a o q,←q];exact m
 sup:=r.sup
 out:=r.out
 bas:=λa o h=>e a o (r.bas a o h)
 io0:=r.io0
 len:=r.len
theorem bW.add (r:bW K G Z A ρ σ H)(e:aJ H H')(n:H a=none)(m:Mu (H' a)):bW K G Z (λb=>A b\/b=a) ρ σ H' where
 slot:=λi u h=>by
  have q:∀b,(A b\/b=a)->A b\/H b=none:=λb z=>by
   rcases z with z|z
   ·exact .inl z
   ·subst z;exact .inr n
  obtain⟨v,h1,h2⟩:=r.slot i u h;refine⟨v,h1,?_⟩;by_cases c:G.is i=true
  ·rw[h9 c] at h2 ⊢;obtain⟨b,e1,e2,e3,e4,e5⟩:=h2;exact⟨b,e1,.inl e2,e3,e4,e5.re r.mu (dQ.same e) q λo w=>e b o w⟩
  ·rw[hZ c] at h2 ⊢;exact h2.re r.mu (dQ.same e) q
 dis:=r.dis
 mu:=λb h=>by
  rcases h with h|h
  ·exact (r.same e).mu b h
  ·subst h;exact m
 sup:=λb h=>.inl (r.sup b h)
 out:=λb h=>by
  rcases h with h|h
  ·exact r.out b h
  ·subst h;refine .inr ?_;cases q:Z.B b with
   |none=>rfl
   |some o=>rw[r.bas b o q] at n;cases n
 bas:=λa o h=>e a o (r.bas a o h)
 io0:=r.io0
 len:=r.len
theorem bW.notA (r:bW K G Z A ρ σ H)(n:H a=none):¬A a:=λz=>by
 have:=r.mu a z;rw[n] at this;exact this
theorem bW.notB (r:bW K G Z A ρ σ H)(n:H a=none):Z.B a=none:=by
 cases q:Z.B a with
 |none=>rfl
 |some o=>rw[r.bas a o q] at n;cases n
theorem bW.val (r:bW K G Z A ρ σ H)(c:G.is i=false)(h:ρ[i]? = some (some u)):∃v,σ[i]? = some (some v)/\Rp K H A u v:=by
 obtain⟨v,h1,h2⟩:=r.slot i u h;rw[hZ (by rw[c];exact R0)] at h2;exact⟨v,h1,h2⟩
theorem bW.own (r:bW K G Z A ρ σ H)(c:G.is i=true)(h:ρ[i]? = some (some u)):∃a,σ[i]? = some (some (.ref a))/\A a/\Z.B a=none/\(¬Z.A0 a\/(G.io=true/\i=0))/\i6 K H A u a:=by
 obtain⟨v,h1,h2⟩:=r.slot i u h;rw[h9 c] at h2;obtain⟨a,rfl,z⟩:=h2;exact⟨a,h1,z⟩
end
end L2
variable {Z:L2.Pkg}{G:L2.Gm}
namespace L2
inductive Md where
 |S|O|P
 deriving DecidableEq
def rk (K:R1)(G:Gm)(Z:Pkg)(m:Md)(A:Sr->Prop)(ρ:Ev)(σ:St)(H:Hp)(u:U)(v:V):Prop:=match m with
 | .S=>Rp K H A u v
 | .P=>Pk K H A u v
 | .O=>∃a,v=.ref a/\¬A a/\Z.B a=none/\bW K G Z (λb=>A b\/b=a) ρ σ H/\i6 K H (λb=>A b\/b=a) u a
def z5 (K:R1)(m:Md)(A:Sr->Prop)(H H':Hp)(u:U)(v:V):Prop:=match m with
 | .S=>Rp K H' A u v
 | .P=>Pk K H' A u v
 | .O=>∃a,v=.ref a/\H a=none/\i6 K H' (λb=>A b\/b=a) u a
def E6 (K:R1)(G:Gm)(Z:Pkg)(A:Sr->Prop)(b:Bool)(m:Md)(ρ:Ev)(σ:St)(H:Hp):R (U×Ev)->VK->Prop
 | .ok (u,ρ'),Q=>∀v H',bW K G Z A ρ' σ H'->dQ A H H'->(b=false->ρ'=ρ/\aJ H H')->rk K G Z m A ρ' σ H' u v->Q v H'
 |_,_=>False
def tD (K:R1)(G:Gm)(b:Bool)(m:Md)(g:Ev->R (U×Ev)):TE:=λσ H Q=>∃Z A ρ,bW K G Z A ρ σ H/\E6 K G Z A b m ρ σ H (g ρ) Q
structure DE (X:Cx)(G:Gm)(e:T6)(b:Bool)(m:Md)(g:Ev->R (U×Ev)):Prop where
 un:PE X e (tD X.K G b m g)
def E7 (K:R1)(G:Gm)(Z:Pkg)(A:Sr->Prop)(b:Bool)(ρ:Ev)(σ:St)(H:Hp):R (Bool×Ev)->(Bool->Hp->Prop)->Prop
 | .ok (c,ρ'),Q=>∀H',bW K G Z A ρ' σ H'->dQ A H H'->(b=false->ρ'=ρ/\aJ H H')->Q c H'
 |_,_=>False
def AU (K:R1)(G:Gm)(b:Bool)(g:Ev->R (Bool×Ev)):TT:=λσ H Q=>∃Z A ρ,bW K G Z A ρ σ H/\E7 K G Z A b ρ σ H (g ρ) Q
structure DT (X:Cx)(G:Gm)(e:T6)(b:Bool)(g:Ev->R (Bool×Ev)):Prop where
 un:PT X e (AU X.K G b g)
def wR (K:R1)(H:Hp)(A:Sr->Prop):List U->List V->Prop
 | [],vs=>vs=[]
 |u::us,vs=>∃x r,vs=x::r/\Pk K H A u x/\wR K H A us r
def E8 (K:R1)(p:Bool)(A:Sr->Prop)(H:Hp)(us:List U)(vs:List V):Prop:=if p=true then wR K H A us vs else aC K H A us vs
def E9 (K:R1)(G:Gm)(Z:Pkg)(A:Sr->Prop)(b p:Bool)(ρ:Ev)(σ:St)(H:Hp):R (List U×Ev)->(List V->Hp->Prop)->Prop
 | .ok (us,ρ'),Q=>∀vs H',bW K G Z A ρ' σ H'->dQ A H H'->(b=false->ρ'=ρ/\aJ H H')->E8 K p A H' us vs->Q vs H'
 |_,_=>False
def OA (K:R1)(G:Gm)(b p:Bool)(g:Ev->R (List U×Ev)):TA:=λσ H Q=>∃Z A ρ,bW K G Z A ρ σ H/\E9 K G Z A b p ρ σ H (g ρ) Q
structure DA (X:Cx)(G:Gm)(es:List T6)(b p:Bool)(g:Ev->R (List U×Ev)):Prop where
 un:PA X es (OA X.K G b p g)
section
variable {e:T6}{t t':TE}
theorem PE.to (h:PE X e t)(i:∀σ H Q,t' σ H Q->t σ H Q):PE X e t':=λpins s σ H Q I q=>h pins s σ H Q I (i _ _ _ q)
theorem PT.to {t t':TT}(h:PT X e t)(i:∀σ H Q,t' σ H Q->t σ H Q):PT X e t':=λpins s σ H Q I q=>h pins s σ H Q I (i _ _ _ q)
theorem PW.to {t t':TT}(h:PW X e t)(i:∀σ H Q,t' σ H Q->t σ H Q):PW X e t':=λlO pins s σ H Q I q=>h lO pins s σ H Q I (i _ _ _ q)
theorem PA.to {es:List T6}{t t':TA}(h:PA X es t)(i:∀σ H Q,t' σ H Q->t σ H Q):PA X es t':=λpos pins s σ H Q I q=>h pos pins s σ H Q I (i _ _ _ q)
theorem PS.to {t t':TS}(h:PS X st t)(i:∀D σ H,t' D σ H->t D σ H):PS X st t':=λpins s σ H D I q=>h pins s σ H D I (i _ _ _ q)
theorem qy.to {st:List Wv}{t t':TS}(h:qy X st t)(i:∀D σ H,t' D σ H->t D σ H):qy X st t':=λpins s σ H D I q=>h pins s σ H D I (i _ _ _ q)
theorem PG.to {t t':TG}(h:PG X e t)(i:∀v σ H Q,t' v σ H Q->t v σ H Q):PG X e t':=λpins s σ H v u Q I r q=>h pins s σ H v u Q I r (i _ _ _ _ q)
end
section
variable {A':Sr->Prop}{ρ':Ev}{m:Md}{b:Bool}
theorem rk.rp (h:rk K G Z m A ρ σ H u v)(n:m≠.P):Rp K H A u v:=by
 cases m with
 |S=>exact h
 |O=>
  obtain⟨a,rfl,na,_,_,t⟩:=h;exact t.rp (λb z=>.inl z) na
 |P=>exact absurd rfl n
theorem rk.pk (h:rk K G Z m A ρ σ H u v):Pk K H A u v:=by
 by_cases c:m=.P
 ·subst c;exact h
 ·exact (h.rp c).pk
theorem z5.e (r:bW K G Z A ρ σ H)(s:aJ H H')(h:z5 K m A H H' u v):rk K G Z m A ρ σ H' u v:=by
 cases m with
 |S=>exact h
 |P=>exact h
 |O=>
  obtain⟨a,rfl,n,t⟩:=h;exact⟨a,rfl,r.notA n,r.notB n,r.add s n t.mu,t⟩
theorem rk.later (r:bW K G Z A ρ σ H)(h:rk K G Z m A ρ σ H u v)(x:dQ A H H')(s:b=false->ρ'=ρ/\aJ H H')(c:m=.P->b=false):Pk K H' A u v:=by
 by_cases d:m=.P
 ·exact h.pk.same (s (c d)).2
 ·exact ((h.rp d).re r.mu x λb z=>.inl z).pk
theorem rk.laterS (r:bW K G Z A ρ σ H)(h:rk K G Z m A ρ σ H u v)(x:dQ A H H')(d:m≠.P):Rp K H' A u v:=(h.rp d).re r.mu x λb z=>.inl z
theorem two {b1 b2:Bool}{ρ1 ρ2:Ev}(h1:b1=false->ρ1=ρ/\aJ H H1)(h2:b2=false->ρ2=ρ1/\aJ H1 H2):(b1||b2)=false->ρ2=ρ/\aJ H H2:=λh=>by
 rw[To] at h;obtain⟨a,b⟩:=h1 h.1;obtain⟨c,d⟩:=h2 h.2;exact⟨c.trans a,b.trans d⟩
theorem j6 {b1:Bool}{ρ1:Ev}(h1:b1=false->ρ1=ρ/\aJ H H1)(h2:aJ H1 H2):b1=false->ρ1=ρ/\aJ H H2:=λh=>⟨(h1 h).1,(h1 h).2.trans h2⟩
end
noncomputable def af (i:Nat):Ev->R (U×Ev):=λρ=>match ρ[i]? with
 |some (some u)=>.ok (u,ρ)
 |_=>.stk
noncomputable def gC (u:U):Ev->R (U×Ev):=λρ=>.ok (u,ρ)
section
variable {e a b c:T6}{es:List T6}
theorem LM {b:Bool}{m:Md}(h:PE X e (Ew i))(c:G.is i=false):DE X G e false .S (af i):=by
 refine⟨h.to λσ H Q ⟨Z,A,ρ,r,f⟩=>?_⟩;unfold af at f;split at f
 ·rename_i u hu;obtain⟨v,h1,h2⟩:=r.val c hu;exact⟨v,h1,f v H r dQ.refl (λ_=>⟨rfl,aJ.refl _⟩) h2⟩
 ·exact f.elim
theorem ai (i:Nat)(hN:X.N[i]? = some x:=by rfl)(hv:AR X.env.scope x:=by first|exact Or.inl rfl|exact Or.inr (Or.inl rfl)|exact Or.inr (Or.inr rfl))(hd:(x==("__debug__":Str))=false:=by decide)
  (kr:(x==("__classdict__":Str))=false:=by decide) (c:G.is i=false:=by rfl):DE X G (.Name x pos) false .S (af i):=LM (b:=false) (m:=.S) (gz hN hv hd kr) c
theorem gA (i:Nat)(hN:X.N[i]? = some x:=by rfl)(hv:AR X.env.scope x:=by first|exact Or.inl rfl|exact Or.inr (Or.inl rfl)|exact Or.inr (Or.inr rfl))(hd:(x==("__debug__":Str))=false:=by decide)
  (kr:(x==("__classdict__":Str))=false:=by decide) (c:G.is i=true:=by rfl):DE X G (.Name x pos) false .P (af i):=by
 refine⟨(gz hN hv hd kr).to λσ H Q ⟨Z,A,ρ,r,f⟩=>?_⟩;unfold af at f;split at f
 ·rename_i u hu;obtain⟨a,h1,_,_,_,h2⟩:=r.own c hu;exact⟨.ref a,h1,f _ H r dQ.refl (λ_=>⟨rfl,aJ.refl _⟩) h2.pk⟩
 ·exact f.elim
theorem E_ (h:PE X e (tC v))(r:∀K H A,Rp K H A u v):DE X G e false .S (gC u):=by
 refine⟨h.to λσ H Q ⟨Z,A,ρ,q,f⟩=>?_⟩;exact f v H q dQ.refl (λ_=>⟨rfl,aJ.refl _⟩) (r _ _ _)
theorem aq {i j pos}:DE X G (.Constant (.int i) j pos) false .S (gC (.int i)):=E_ IA λ_ _ _=>by unfold Rp;rfl
theorem iR {i j pos}:DE X G (.Constant (.bool i) j pos) false .S (gC (.bl i)):=E_ K2 λ_ _ _=>by unfold Rp;rfl
theorem gD {j pos}:DE X G (.Constant .none j pos) false .S (gC .non):=E_ wy λ_ _ _=>by unfold Rp;rfl
theorem oI {i:Int}{tk:Tok}(hg:Gl X x)(hm:X.mg x=some (.int i tk))(hd:(x==("__debug__":Str))=false:=by decide):DE X G (.Name x pos) false .S (gC (.int i)):=E_ (v:=.int i) (xY hg hm ⟨_,rfl⟩ hd) λ_ _ _=>by unfold Rp;rfl
noncomputable def a9 (p:U->U->R U)(g1 g2:Ev->R (U×Ev)):Ev->R (U×Ev):=λρ=>(g1 ρ).bind λx=>(g2 x.2).bind λy=>(p x.1 y.1).bind λz=>.ok (z,y.2)
def dq (K:R1)(r:R2)(m:Md)(p:U->U->R U):Prop:=∀A H x y u w z Q,Pk K H A u x->Pk K H A w y->(∀a,A a->Mu (H a))->p u w=.ok z->(∀v H',aJ H H'->z5 K m A H H' z v->Q v H')->r x y H Q
variable {b1 b2 b3:Bool}{m1 m2 m3 mr:Md}{g1 g2 g3:Ev->R (U×Ev)}
theorem kO (hp:dq X.K r mr p)(hm:m1=.P->b2=false){Q:VK}(h:tD X.K G (b1||b2) mr (a9 p g1 g2) σ H Q) :
  Le r (tD X.K G b1 m1 g1) (tD X.K G b2 m2 g2) σ H Q:=by
 obtain⟨Z,A,ρ,q,f⟩:=h;unfold a9 at f;refine⟨Z,A,ρ,q,?_⟩;cases e1:g1 ρ with
 |stk=>rw[e1] at f;exact f.elim
 |exc=>rw[e1] at f;exact f.elim
 |ok x=>
  obtain⟨u,ρ1⟩:=x;rw[e1] at f;intro v1 H1 q1 x1 s1 nj;refine⟨Z,A,ρ1,q1,?_⟩;cases e2:g2 ρ1 with
  |stk=>simp only[R.bind,e2] at f;exact f.elim
  |exc=>simp only[R.bind,e2] at f;exact f.elim
  |ok y=>
   obtain⟨w,ρ2⟩:=y;simp only[R.bind,e2] at f;intro v2 H2 q2 x2 s2 se;cases e3:p u w with
   |stk=>rw[e3] at f;exact f.elim
   |exc=>rw[e3] at f;exact f.elim
   |ok z=>
    rw[e3] at f;refine hp A H2 v1 v2 u w z Q (nj.later q1 x2 s2 hm) se.pk q2.mu e3 λv H' sm vm=>?_;exact f v H' (q2.same sm) ((x1.trans x2).trans (dQ.same sm)) (j6 (two s1 s2) sm) (vm.e q2 sm)
theorem aU {op:Operator}(ho:ig X (U7 op) r)(hp:dq X.K r mr p)(ha:DE X G a b1 m1 g1)(hb:DE X G b b2 m2 g2)(hm:m1=.P->b2=false:=by first|exact λ_=>rfl|exact λh=>nomatch h) :
  DE X G (.BinOp a op b pos) (b1||b2) mr (a9 p g1 g2):=⟨(Lf ho ha.un hb.un).to λ_ _ _=>kO hp hm⟩
theorem oJ (ho:ig X (TB op) r)(hp:dq X.K r mr p)(ha:DE X G a b1 m1 g1)(hb:DE X G b b2 m2 g2)(hk:VC op b=false)(hm:m1=.P->b2=false:=by first|exact λ_=>rfl|exact λh=>nomatch h) :
  DE X G (.Compare a [op] [b] pos) (b1||b2) mr (a9 p g1 g2):=⟨(EJ ho ha.un hb.un hk).to λ_ _ _=>kO hp hm⟩
theorem fH (ho:Em X r)(hp:dq X.K r mr p)(ha:DE X G a b1 m1 g1)(hb:DE X G b b2 m2 g2)(hs:ye b)(hm:m1=.P->b2=false:=by first|exact λ_=>rfl|exact λh=>nomatch h) :
  DE X G (.Subscript a b pos) (b1||b2) mr (a9 p g1 g2):=⟨(Lr ho ha.un hb.un hs).to λ_ _ _=>kO hp hm⟩
noncomputable def gB (g:Ev->R (U×Ev)):Ev->R (Bool×Ev):=λρ=>(g ρ).bind λx=>match x.1 with
 | .bl c=>.ok (c,x.2)
 |_=>.stk
theorem lZ {m:Md}{Q:Bool->Hp->Prop}(h:AU X.K G b1 (gB g) σ H Q):tD X.K G b1 m g σ H λx H'=>∃k,x=.bl k/\Q k H':=by
 obtain⟨Z,A,ρ,q,f⟩:=h;refine⟨Z,A,ρ,q,?_⟩;unfold gB at f;cases e1:g ρ with
 |stk=>rw[e1] at f;exact f.elim
 |exc=>rw[e1] at f;exact f.elim
 |ok x=>
  obtain⟨u,ρ1⟩:=x;rw[e1] at f;intro v H1 q1 x1 s1 vm;cases u with
  |bl c=>
   have e:v=.bl c:=by have:=vm.pk;unfold Pk at this;exact this
   exact⟨c,e,f H1 q1 x1 s1⟩
  |_=>exact f.elim
theorem j7 (h:DE X G e b1 m1 g1)(he:∀lO,isTrue e X.env lO=(do let v ←lO;standAt e.pos;holding [v] (truthy v)):=by intro _;rfl):DT X G e b1 (gB g1):=⟨(IB h.un he).to λ_ _ _ h=>lZ h⟩
theorem bX (ho:ig X (TB op) r)(hp:dq X.K r mr p)(ha:DE X G a b1 m1 g1)(hb:DE X G b b2 m2 g2)(hk:VC op b=false)(hm:m1=.P->b2=false:=by first|exact λ_=>rfl|exact λh=>nomatch h) :
  DT X G (.Compare a [op] [b] pos) (b1||b2) (gB (a9 p g1 g2)):=⟨(EK ho ha.un hb.un hk).to λ_ _ _ h=>kO hp hm (lZ (m:=mr) h)⟩
end
end L2
namespace L2
section
variable {A':Sr->Prop}{ρ':Ev}{b p:Bool}{m:Md}{α:Type}
theorem E6.bind {x:R α}{k:α->R (U×Ev)}{Q:VK}(f:E6 K G Z A b m ρ σ H (x.bind k) Q):∃a,x=.ok a/\E6 K G Z A b m ρ σ H (k a) Q:=by
 cases x with
 |ok a=>exact⟨a,rfl,f⟩
 |exc=>exact f.elim
 |stk=>exact f.elim
theorem E7.bind {x:R α}{k:α->R (Bool×Ev)}{Q:Bool->Hp->Prop}(f:E7 K G Z A b ρ σ H (x.bind k) Q):∃a,x=.ok a/\E7 K G Z A b ρ σ H (k a) Q:=by
 cases x with
 |ok a=>exact⟨a,rfl,f⟩
 |exc=>exact f.elim
 |stk=>exact f.elim
theorem E9.bind {x:R α}{k:α->R (List U×Ev)}{Q:List V->Hp->Prop}(f:E9 K G Z A b p ρ σ H (x.bind k) Q):∃a,x=.ok a/\E9 K G Z A b p ρ σ H (k a) Q:=by
 cases x with
 |ok a=>exact⟨a,rfl,f⟩
 |exc=>exact f.elim
 |stk=>exact f.elim
theorem Pk.bl {c:Bool}(h:Pk K H A (.bl c) v):v=.bl c:=by unfold Pk at h;exact h
theorem Pk.int {i:Int}(h:Pk K H A (.int i) v):v=.int i:=by unfold Pk at h;exact h
theorem Pk.str {i:Str}(h:Pk K H A (.str i) v):v=.str i:=by unfold Pk at h;exact h
theorem eh {c:Bool}:Rp K H A (.bl c) (.bl c):=by unfold Rp;rfl
theorem dG {c:Int}:Rp K H A (.int c) (.int c):=by unfold Rp;rfl
theorem rk.ofS (h:Rp K H A u v):rk K G Z .S A ρ σ H u v:=h
theorem sL:Rp K H A .non .non:=by unfold Rp;rfl
theorem Jr {c:Str}:Rp K H A (.str c) (.str c):=by unfold Rp;rfl
theorem aC.pks:∀{us:List U} {vs:List V},aC K H A us vs->wR K H A us vs
 | [],_,h=>by unfold aC at h;unfold wR;exact h
 |u::us,_,h=>by
  unfold aC at h;unfold wR;obtain⟨x,r,e,z,q⟩:=h;exact⟨x,r,e,z.pk,aC.pks q⟩
end
section
variable {e a b c:T6}{es rest:List T6}{b1 b2 b3:Bool}{m1 m2 m3 mr:Md}{g1 g2 g3:Ev->R (U×Ev)}{h1 h2:Ev->R (Bool×Ev)}
noncomputable def BK (g1 g2:Ev->R (Bool×Ev)):Ev->R (Bool×Ev):=λρ=>(g1 ρ).bind λx=>if x.1=true then g2 x.2 else .ok (false,x.2)
noncomputable def AV (g1 g2:Ev->R (Bool×Ev)):Ev->R (Bool×Ev):=λρ=>(g1 ρ).bind λx=>if x.1=true then .ok (true,x.2) else g2 x.2
noncomputable def oK (g1:Ev->R (Bool×Ev)):Ev->R (Bool×Ev):=λρ=>(g1 ρ).bind λx=>.ok (!x.1,x.2)
structure DW (X:Cx)(G:Gm)(e:T6)(b:Bool)(g:Ev->R (Bool×Ev)):Prop where
 un:PW X e (AU X.K G b g)
theorem DW.dt (h:DW X G e b1 h1):DT X G e b1 h1:=⟨PW.pt h.un⟩
theorem BL {Q:Bool->Hp->Prop}(h:AU X.K G (b1||b2) (BK h1 h2) σ H Q):K3 (AU X.K G b1 h1) (AU X.K G b2 h2) σ H Q:=by
 obtain⟨Z,A,ρ,q,f⟩:=h;obtain⟨⟨k,ρ1⟩,e1,f⟩:=f.bind;refine⟨Z,A,ρ,q,?_⟩;rw[e1];intro H1 q1 x1 s1;cases k with
 |true=>
  rw[h9 rfl] at f ⊢;refine⟨Z,A,ρ1,q1,?_⟩;dsimp only at f;cases e2:h2 ρ1 with
  |ok y=>rw[e2] at f;exact λH2 q2 x2 s2=>f H2 q2 (x1.trans x2) (two s1 s2)
  |exc=>rw[e2] at f;exact f.elim
  |stk=>rw[e2] at f;exact f.elim
 |false=>
  rw[hZ R0] at f ⊢;exact f H1 q1 x1 λz=>s1 (To.mp z).1
theorem Fb {Q:Bool->Hp->Prop}(h:AU X.K G (b1||b2) (AV h1 h2) σ H Q):Pp (AU X.K G b1 h1) (AU X.K G b2 h2) σ H Q:=by
 obtain⟨Z,A,ρ,q,f⟩:=h;obtain⟨⟨k,ρ1⟩,e1,f⟩:=f.bind;refine⟨Z,A,ρ,q,?_⟩;rw[e1];intro H1 q1 x1 s1;cases k with
 |false=>
  rw[hZ R0] at f ⊢;refine⟨Z,A,ρ1,q1,?_⟩;dsimp only at f;cases e2:h2 ρ1 with
  |ok y=>rw[e2] at f;exact λH2 q2 x2 s2=>f H2 q2 (x1.trans x2) (two s1 s2)
  |exc=>rw[e2] at f;exact f.elim
  |stk=>rw[e2] at f;exact f.elim
 |true=>
  rw[h9 rfl] at f ⊢;exact f H1 q1 x1 λz=>s1 (To.mp z).1
theorem Fc (ha:DT X G a b1 h1):DW X G (.BoolOp .And [a] pos) b1 h1:=⟨Ey ha.un⟩
theorem oM (ha:DT X G a b1 h1):DW X G (.BoolOp .Or [a] pos) b1 h1:=⟨IC ha.un⟩
theorem Js (ha:DT X G a b1 h1)(hb:DW X G (.BoolOp .And (b::rest) pos) b2 h2):DW X G (.BoolOp .And (a::b::rest) pos) (b1||b2) (BK h1 h2):=⟨(ID ha.un hb.un).to λ_ _ _=>BL⟩
theorem rn (ha:DT X G a b1 h1)(hb:DW X G (.BoolOp .Or (b::rest) pos) b2 h2):DW X G (.BoolOp .Or (a::b::rest) pos) (b1||b2) (AV h1 h2):=⟨(K4 ha.un hb.un).to λ_ _ _=>Fb⟩
theorem l4 (ha:DT X G a b1 h1):DT X G (.UnaryOp .Not a pos) b1 (oK h1):=⟨(IE ha.un).to λσ H Q h=>by
 obtain⟨Z,A,ρ,q,f⟩:=h;obtain⟨⟨k,ρ1⟩,e1,f⟩:=f.bind;refine⟨Z,A,ρ,q,?_⟩;rw[e1];exact λH1 q1 x1 s1=>f H1 q1 x1 s1⟩
noncomputable def Fd (g1 g2:Ev->R (U×Ev)):Ev->R (U×Ev):=λρ=>(gB g1 ρ).bind λx=>if x.1=true then g2 x.2 else .ok (.bl false,x.2)
noncomputable def NK (g1 g2:Ev->R (U×Ev)):Ev->R (U×Ev):=λρ=>(gB g1 ρ).bind λx=>if x.1=true then .ok (.bl true,x.2) else g2 x.2
noncomputable def Jt (g1:Ev->R (U×Ev)):Ev->R (U×Ev):=λρ=>(gB g1 ρ).bind λx=>.ok (.bl (!x.1),x.2)
theorem BM {ρ1:Ev}{k:Bool}(h:gB g ρ=.ok (k,ρ1)):g ρ=.ok (.bl k,ρ1):=by
 unfold gB at h;cases e:g ρ with
 |ok y=>
  obtain⟨u,ρ2⟩:=y;rw[e] at h;cases u<;>simp[R.bind] at h;obtain⟨rfl,rfl⟩:=h;rfl
 |exc=>rw[e] at h;simp[R.bind] at h
 |stk=>rw[e] at h;simp[R.bind] at h
theorem BN (hn:m2≠.P:=by decide)(ha:DE X G a b1 m1 g1)(hb:DE X G (.BoolOp .And (b::rest) pos) b2 m2 g2):DE X G (.BoolOp .And (a::b::rest) pos) (b1||b2) .S (Fd g1 g2):=⟨(IG ha.un hb.un).to λσ H Q h=>by
 obtain⟨Z,A,ρ,q,f⟩:=h;obtain⟨⟨k,ρ1⟩,e1,f⟩:=f.bind;refine⟨Z,A,ρ,q,?_⟩;rw[BM e1];intro v H1 q1 x1 s1 vm;refine⟨k,vm.pk.bl,?_⟩;cases k with
 |true=>
  rw[h9 rfl] at f ⊢;refine⟨Z,A,ρ1,q1,?_⟩;dsimp only at f;cases e2:g2 ρ1 with
  |ok y=>rw[e2] at f;exact λv2 H2 q2 x2 s2 se=>f v2 H2 q2 (x1.trans x2) (two s1 s2) (se.rp hn)
  |exc=>rw[e2] at f;exact f.elim
  |stk=>rw[e2] at f;exact f.elim
 |false=>
  rw[hZ R0] at f ⊢;exact f _ H1 q1 x1 (λz=>s1 (To.mp z).1) (rk.ofS eh)⟩
theorem GV (hn:m2≠.P:=by decide)(ha:DE X G a b1 m1 g1)(hb:DE X G (.BoolOp .Or (b::rest) pos) b2 m2 g2):DE X G (.BoolOp .Or (a::b::rest) pos) (b1||b2) .S (NK g1 g2):=⟨(K7 ha.un hb.un).to λσ H Q h=>by
 obtain⟨Z,A,ρ,q,f⟩:=h;obtain⟨⟨k,ρ1⟩,e1,f⟩:=f.bind;refine⟨Z,A,ρ,q,?_⟩;rw[BM e1];intro v H1 q1 x1 s1 vm;refine⟨k,vm.pk.bl,?_⟩;cases k with
 |false=>
  rw[hZ R0] at f ⊢;refine⟨Z,A,ρ1,q1,?_⟩;dsimp only at f;cases e2:g2 ρ1 with
  |ok y=>rw[e2] at f;exact λv2 H2 q2 x2 s2 se=>f v2 H2 q2 (x1.trans x2) (two s1 s2) (se.rp hn)
  |exc=>rw[e2] at f;exact f.elim
  |stk=>rw[e2] at f;exact f.elim
 |true=>
  rw[h9 rfl] at f ⊢;exact f _ H1 q1 x1 (λz=>s1 (To.mp z).1) (rk.ofS eh)⟩
theorem wU {op}(ha:DE X G a b1 m1 g1):DE X G (.BoolOp op [a] pos) b1 m1 g1:=⟨IF ha.un⟩
theorem Ju (ha:DE X G a b1 m1 g1):DE X G (.UnaryOp .Not a pos) b1 .S (Jt g1):=⟨(IH ha.un).to λσ H Q h=>by
 obtain⟨Z,A,ρ,q,f⟩:=h;obtain⟨⟨k,ρ1⟩,e1,f⟩:=f.bind;refine⟨Z,A,ρ,q,?_⟩;rw[BM e1];exact λv H1 q1 x1 s1 vm=>⟨k,vm.pk.bl,f _ H1 q1 x1 s1 (rk.ofS eh)⟩⟩
noncomputable def Qw (h:Ev->R (Bool×Ev))(g1 g2:Ev->R (U×Ev)):Ev->R (U×Ev):=λρ=>(h ρ).bind λx=>if x.1=true then g1 x.2 else g2 x.2
noncomputable def sM (p p':U->U->R U)(g1 g2 g3:Ev->R (U×Ev)):Ev->R (U×Ev):=λρ=>(g1 ρ).bind λx=>(g2 x.2).bind λy=>(p x.1 y.1).bind λz=>match z with
 | .bl k=>if k=true then (g3 y.2).bind λw=>(p' y.1 w.1).bind λz'=>.ok (z',w.2) else .ok (.bl false,y.2)
 |_=>.stk
theorem wV {p':U->U->R U}(hp:dq X.K r .S p)(zF:dq X.K r' .S p')(n1:m1≠.P)(n2:m2≠.P){Q:VK}(h:tD X.K G (b1||(b2||b3)) .S (sM p p' g1 g2 g3) σ H Q) :
  Bf r r' (tD X.K G b1 m1 g1) (tD X.K G b2 m2 g2) (tD X.K G b3 m3 g3) σ H Q:=by
 obtain⟨Z,A,ρ,q,f⟩:=h;obtain⟨⟨u,ρ1⟩,e1,f⟩:=f.bind;obtain⟨⟨w,ρ2⟩,e2,f⟩:=f.bind;obtain⟨z,e3,f⟩:=f.bind;refine⟨Z,A,ρ,q,?_⟩;rw[e1];intro v1 H1 q1 x1 s1 nj;refine⟨Z,A,ρ1,q1,?_⟩;dsimp only at e2;rw[e2];intro v2 H2 q2 x2 s2 se;refine hp A H2 v1 v2 u w z _ (nj.laterS q1 x2 n1).pk se.pk q2.mu e3 λv H3 sm vm=>?_;cases z with
 |bl k=>
  refine⟨k,(show Rp X.K H3 A (.bl k) v from vm).pk.bl,?_⟩;have q3:=q2.same sm;cases k with
  |false=>
   rw[hZ R0];exact f _ H3 q3 ((x1.trans x2).trans (dQ.same sm)) (λz=>by
    obtain⟨a,b⟩:=To.mp z;exact j6 (two s1 s2) sm (by rw[a,(To.mp b).1];rfl)) (rk.ofS eh)
  |true=>
   rw[h9 rfl];dsimp only at f;rw[h9 rfl] at f;obtain⟨⟨w3,ρ3⟩,e4,f⟩:=f.bind;obtain⟨z',e5,f⟩:=f.bind;refine⟨Z,A,ρ2,q3,?_⟩;rw[e4];intro v4 H4 q4 x4 s4 QX;refine zF A H4 v2 v4 w w3 z' Q ((se.rp n2).same sm |>.re q3.mu x4 (λb z=>.inl z)).pk QX.pk q4.mu e5 λv5 H5 Iq QY=>?_;refine f v5 H5 (q4.same Iq) (((x1.trans x2).trans (dQ.same sm)).trans (x4.trans (dQ.same Iq))) ?_ (QY.e q4 Iq);intro z;obtain⟨a,b⟩:=To.mp z;obtain⟨b,c⟩:=To.mp b;exact j6 (two (j6 (two s1 s2) sm) s4) Iq (by rw[a,b,c];rfl)
 |_=>exact f.elim
theorem BO {Ku:CmpOp}{p':U->U->R U}(ho:ig X (TB op) r)(hp:dq X.K r .S p)(Ec:ig X (TB Ku) r')(zF:dq X.K r' .S p')(ha:DE X G a b1 m1 g1)(hb:DE X G b b2 m2 g2)(hc:DE X G c b3 m3 g3)(n1:m1≠.P:=by decide)(n2:m2≠.P:=by decide)(hm:lastMarks [op,Ku] [b,c]=false:=by with_unfolding_all rfl):DT X G (.Compare a [op,Ku] [b,c] pos) (b1||(b2||b3)) (gB (sM p p' g1 g2 g3)):=⟨(Bg ho Ec ha.un hb.un hc.un hm).to λ_ _ _ h=>wV hp zF n1 n2 (lZ (m:=.S) h)⟩
noncomputable def NL (p:U->R U)(g:Ev->R (U×Ev)):Ev->R (U×Ev):=λρ=>(g ρ).bind λx=>(p x.1).bind λz=>.ok (z,x.2)
def Jv (K:R1)(r:V->Hp->VK->Prop)(m:Md)(p:U->R U):Prop:=∀A H x u z Q,Pk K H A u x->(∀a,A a->Mu (H a))->p u=.ok z->(∀v H',aJ H H'->z5 K m A H H' z v->Q v H')->r x H Q
theorem Fe {r:V->Hp->VK->Prop}{p:U->R U}(hp:Jv X.K r mr p){Q:VK}(h:tD X.K G b1 mr (NL p g1) σ H Q):Pr r (tD X.K G b1 m1 g1) σ H Q:=by
 obtain⟨Z,A,ρ,q,f⟩:=h;obtain⟨⟨u,ρ1⟩,e1,f⟩:=f.bind;obtain⟨z,e2,f⟩:=f.bind;refine⟨Z,A,ρ,q,?_⟩;rw[e1];intro v1 H1 q1 x1 s1 nj;exact hp A H1 v1 u z Q nj.pk q1.mu e2 λv H' sm vm=>f v H' (q1.same sm) (x1.trans (dQ.same sm)) (j6 s1 sm) (vm.e q1 sm)
theorem LN {op:UnaryOp}{r:V->Hp->VK->Prop}{p:U->R U}(ho:NH X (unaryOp op) r)(hp:Jv X.K r mr p)(ha:DE X G a b1 m1 g1):DE X G (.UnaryOp op a pos) b1 mr (NL p g1):=⟨(Lg ho ha.un).to λ_ _ _=>Fe hp⟩
noncomputable def ak:Ev->R (List U×Ev):=λρ=>.ok ([],ρ)
noncomputable def ae (g:Ev->R (U×Ev))(ga:Ev->R (List U×Ev)):Ev->R (List U×Ev):=λρ=>(g ρ).bind λx=>(ga x.2).bind λy=>.ok (x.1::y.1,y.2)
variable {ga:Ev->R (List U×Ev)}{p:Bool}
theorem ag:DA X G [] false p ak:=⟨j3.to λσ H Q ⟨Z,A,ρ,q,f⟩=>f [] H q dQ.refl (λ_=>⟨rfl,aJ.refl _⟩) (by unfold E8;split;exact rfl;exact aC.nil)⟩
theorem aa (ha:DE X G e b1 m1 g1)(hr:DA X G es b2 p ga)(hm:m1=.P->(p=true/\b2=false):=by first|exact λ_=>⟨rfl,rfl⟩|exact λh=>nomatch h)
  (hs:Sq (e::es) X.env=(false,VP e X.env)::Sq es X.env:=by rfl):DA X G (e::es) (b1||b2) p (ae g1 ga):=⟨(eK ha.un hr.un hs).to λσ H Q h=>by
 obtain⟨Z,A,ρ,q,f⟩:=h;obtain⟨⟨u,ρ1⟩,e1,f⟩:=f.bind;obtain⟨⟨us,ρ2⟩,e2,f⟩:=f.bind;refine⟨Z,A,ρ,q,?_⟩;rw[e1];intro v1 H1 q1 x1 s1 nj;refine⟨Z,A,ρ1,q1,?_⟩;dsimp only at e2;rw[e2];intro vs H2 q2 x2 s2 se;refine f (v1::vs) H2 q2 (x1.trans x2) (two s1 s2) ?_;unfold E8 at se ⊢;cases p with
 |true=>
  rw[h9 rfl] at se ⊢;exact⟨v1,vs,rfl,nj.later q1 x2 s2 (λz=>(hm z).2),se⟩
 |false=>
  rw[hZ R0] at se ⊢;exact aC.cons (nj.laterS q1 x2 λz=>R0 (hm z).1) se⟩
theorem E8.pks (h:E8 K p A H us vs):wR K H A us vs:=by
 unfold E8 at h;cases p with
 |true=>rw[h9 rfl] at h;exact h
 |false=>rw[hZ R0] at h;exact h.pks
theorem E8.rps (h:E8 K false A H us vs):aC K H A us vs:=by
 unfold E8 at h;rw[hZ R0] at h;exact h
noncomputable def cE (ga:Ev->R (List U×Ev)):Ev->R (U×Ev):=λρ=>(ga ρ).bind λx=>if x.1.length<=R3 then .ok (.tup x.1,x.2) else .stk
noncomputable def fh (ga:Ev->R (List U×Ev)):Ev->R (U×Ev):=λρ=>(ga ρ).bind λx=>if x.1.length<=R3 then .ok (.lst x.1,x.2) else .stk
theorem b_ {p:Sr}(h:H p=none)(o:HO):aJ H (cu H p o):=λb u q=>by rw[aL (br q h)];exact q
theorem l5 {a:Sr}(h:aC K H A us vs)(n:H a=none)(l:us.length<=R3):Rp K (cu H a (.tup vs)) A (.tup us) (.ref a):=by
 unfold Rp;exact⟨a,vs,rfl,bo,l,h.same (b_ n _)⟩
theorem bF {a:Sr}(m:∀b,A b->Mu (H b))(h:aC K H A us vs)(n:H a=none)(l:us.length<=R3):i6 K (cu H a (.lst vs)) (λb=>A b\/b=a) (.lst us) a:=
 ⟨vs,bo,l,h.re m (dQ.same (b_ n _)) λb z=>by
  rcases z with z|z
  ·exact .inl z
  ·subst z;exact .inr n⟩
theorem dH {x1}(h:DA X G es b1 false ga):DE X G (.Tuple es x1 pos) b1 .S (cE ga):=⟨(IW h.un).to λσ H Q h=>by
 obtain⟨Z,A,ρ,q,f⟩:=h;obtain⟨⟨us,ρ1⟩,e1,f⟩:=f.bind;refine⟨Z,A,ρ,q,?_⟩;rw[e1];intro vs H1 q1 x1 s1 nj;dsimp only at f;split at f
 ·rename_i l;refine⟨by rw[←nj.rps.length];exact l,λa n=>?_⟩;exact f _ _ (q1.same (b_ n _)) (x1.trans (dQ.same (b_ n _))) (j6 s1 (b_ n _)) (rk.ofS (l5 nj.rps n l))
 ·exact f.elim⟩
theorem er (h:DA X G es b1 false ga):DE X G (.List es pos) b1 .O (fh ga):=⟨(IX h.un).to λσ H Q h=>by
 obtain⟨Z,A,ρ,q,f⟩:=h;obtain⟨⟨us,ρ1⟩,e1,f⟩:=f.bind;refine⟨Z,A,ρ,q,?_⟩;rw[e1];intro vs H1 q1 x1 s1 nj;dsimp only at f;split at f
 ·rename_i l;refine⟨by rw[←nj.rps.length];exact l,λa n=>?_⟩;exact f _ _ (q1.same (b_ n _)) (x1.trans (dQ.same (b_ n _))) (j6 s1 (b_ n _)) (z5.e q1 (b_ n _) ⟨a,rfl,n,bF q1.mu nj.rps n l⟩)
 ·exact f.elim⟩
noncomputable def jM (p:List U->R U)(ga:Ev->R (List U×Ev)):Ev->R (U×Ev):=λρ=>(ga ρ).bind λx=>(p x.1).bind λz=>.ok (z,x.2)
def l6 (K:R1)(r:List V->Hp->VK->Prop)(m:Md)(p:List U->R U):Prop:=∀A H vs us z Q,wR K H A us vs->(∀a,A a->Mu (H a))->p us=.ok z->(∀v H',aJ H H'->z5 K m A H H' z v->Q v H')->r vs H Q
theorem yh {r:List V->Hp->VK->Prop}{f:List U->R U}(hp:l6 X.K r mr f){Q:VK}(h:tD X.K G b1 mr (jM f ga) σ H Q):Ou r (OA X.K G b1 p ga) σ H Q:=by
 obtain⟨Z,A,ρ,q,f⟩:=h;obtain⟨⟨us,ρ1⟩,e1,f⟩:=f.bind;obtain⟨z,e2,f⟩:=f.bind;refine⟨Z,A,ρ,q,?_⟩;rw[e1];intro vs H1 q1 x1 s1 nj;exact hp A H1 vs us z Q nj.pks q1.mu e2 λv H' sm vm=>f v H' (q1.same sm) (x1.trans (dQ.same sm)) (j6 s1 sm) (vm.e q1 sm)
theorem bB {id:String}{p1:Pos}{r:List V->Hp->VK->Prop}{f:List U->R U}(hc:dW X (.builtin id) r)(hp:l6 X.K r mr f)(hg:Gl X x)(hm:X.mg x=none)(hv:S0 x=some (.builtin id))(ha:DA X G (e::es) b1 true ga)(hn:x≠"__name__":=by decide)(wa:(x==("__debug__":Str))=false:=by decide)
  (he:Sq (e::es) X.env=(false,VP e X.env)::Sq es X.env:=by rfl) (oe:(Ux pos (Sq es X.env)).any (·.1)=false:=by rfl):DE X G (.Call (.Name x p1) (e::es) [] pos) b1 mr (jM f ga):=⟨(ou hc hg hm hv ha.un hn wa he oe).to λ_ _ _=>yh hp⟩
theorem cI {p1:Pos}{r:List V->Hp->VK->Prop}{f:List U->R U}(hc:dW X (.type T) r)(hp:l6 X.K r mr f)(hg:Gl X x)(hm:X.mg x=none)(hv:S0 x=some (.type T))(ha:DA X G (e::es) b1 true ga)(hn:x≠"__name__":=by decide)(wa:(x==("__debug__":Str))=false:=by decide)(he:Sq (e::es) X.env=(false,VP e X.env)::Sq es X.env:=by rfl)(oe:(Ux pos (Sq es X.env)).any (·.1)=false:=by rfl):DE X G (.Call (.Name x p1) (e::es) [] pos) b1 mr (jM f ga):=⟨(gL hc hg hm hv ha.un hn wa he oe).to λ_ _ _=>yh hp⟩
end
end L2
namespace L2
section
variable {A':Sr->Prop}{ρ':Ev}{b p:Bool}{m:Md}{α:Type}
theorem i6.mono (n:∀b,A' b->A b)(h:i6 K H A u a):i6 K H A' u a:=by
 cases u<;>(unfold i6 at h ⊢)
 case lst us=>obtain⟨xs,q,l,z⟩:=h;exact⟨xs,q,l,z.mono n⟩
 case dct ks us=>obtain⟨xs,q,l,z⟩:=h;exact⟨xs,q,l,z.mono n⟩
 all_goals exact h.elim
theorem b9 {α:Type}{l:List (Option α)}{x:Option α}{y:α}(h:(l.set i x)[j]? = some (some y)):(i=j/\x=some y)\/(i≠j/\l[j]? = some (some y)):=by
 by_cases e:i=j
 ·subst e;rw[List.getElem?_set_self'] at h;refine .inl ⟨rfl,?_⟩;cases q:l[i]? with
  |none=>rw[q] at h;cases h
  |some w=>rw[q] at h;exact SH h
 ·rw[SD e] at h;exact .inr ⟨e,h⟩
theorem nQ {α:Type}{l l':List (Option α)}{x:α}{β:Type}{k:List (Option β)}{y:Option β}{z:β}(hl:k.length=l.length)(h:(k.set i y)[i]? = some (some z)):(l.set i (some x))[i]? = some (some x):=by
 have:i<l.length:=by
  have:=(R8.mp h).1;rw[Tu] at this;lia
 rw[UX this]
theorem bW.set (r:bW K G Z A ρ σ H)(c:G.is i=false)(h:Rp K H A u v):bW K G Z A (ρ.set i (some u)) (σ.set i (some v)) H where
 slot:=λj w hj=>by
  rcases b9 hj with⟨rfl,e⟩|⟨ne,e⟩
  ·cases e;refine⟨v,nQ (l':=σ) r.len hj,?_⟩;rw[hZ (by rw[c];exact R0)];exact h
  ·rw[SD ne];exact r.slot j w e
 dis:=λj k w w' a cj ck ne hj hk sj sk=>by
  rcases b9 hj with⟨rfl,_⟩|⟨n1,e1⟩
  ·rw[c] at cj;cases cj
  ·rcases b9 hk with⟨rfl,_⟩|⟨n2,e2⟩
   ·rw[c] at ck;cases ck
   ·rw[SD n1] at sj;rw[SD n2] at sk;exact r.dis j k w w' a cj ck ne e1 e2 sj sk
 mu:=r.mu
 sup:=r.sup
 out:=r.out
 bas:=r.bas
 io0:=λh0=>by
  obtain⟨a,b⟩:=r.io0 h0;refine⟨?_,b⟩;have:i≠0:=λz=>by subst z;rw[b] at c;cases c
  rw[SD this];exact a
 len:=by rw[Tu,Tu];exact r.len
theorem bW.drop (r:bW K G Z A ρ σ H)(i:Nat):bW K G Z A (ρ.set i none) σ H where
 slot:=λj w hj=>by
  rcases b9 hj with⟨rfl,e⟩|⟨ne,e⟩
  ·cases e
  ·exact r.slot j w e
 dis:=λj k w w' a cj ck ne hj hk sj sk=>by
  rcases b9 hj with⟨rfl,e⟩|⟨n1,e1⟩
  ·cases e
  ·rcases b9 hk with⟨rfl,e⟩|⟨n2,e2⟩
   ·cases e
   ·exact r.dis j k w w' a cj ck ne e1 e2 sj sk
 mu:=r.mu
 sup:=r.sup
 out:=r.out
 bas:=r.bas
 io0:=r.io0
 len:=by rw[Tu];exact r.len
theorem bW.setO (r:bW K G Z A ρ σ H)(c:G.is i=true)(hi:G.io=true->i≠0)(na:¬A a)(nb:Z.B a=none)(r':bW K G Z (λb=>A b\/b=a) ρ σ H)(h:i6 K H (λb=>A b\/b=a) u a) :
  bW K G Z (λb=>A b\/b=a) (ρ.set i (some u)) (σ.set i (some (.ref a))) H where
 slot:=λj w hj=>by
  rcases b9 hj with⟨rfl,e⟩|⟨ne,e⟩
  ·cases e;refine⟨.ref a,nQ (l':=σ) r.len hj,?_⟩;rw[h9 c];exact⟨a,rfl,.inr rfl,nb,.inl λz=>na (r.sup a z),h⟩
  ·rw[SD ne];exact r'.slot j w e
 dis:=λj k w w' b cj ck ne hj hk sj sk=>by
  have key:∀k w',G.is k=true->i≠k->ρ[k]? = some (some w')->σ[k]? ≠ some (some (.ref a)):=λk w' ck _ e q=>by
   obtain⟨b,h1,h2,_⟩:=r.own ck e;rw[h1] at q;cases q;exact na h2
  rcases b9 hj with⟨rfl,e1⟩|⟨n1,e1⟩
  ·rcases b9 hk with⟨rfl,_⟩|⟨n2,e2⟩
   ·exact ne rfl
   ·rw[nQ (l':=σ) r.len hj] at sj;cases sj;rw[SD n2] at sk;exact key k w' ck n2 e2 sk
  ·rcases b9 hk with⟨rfl,e2⟩|⟨n2,e2⟩
   ·rw[nQ (l':=σ) r.len hk] at sk;cases sk;rw[SD n1] at sj;exact key j w cj n1 e1 sj
   ·rw[SD n1] at sj;rw[SD n2] at sk;exact r.dis j k w w' b cj ck ne e1 e2 sj sk
 mu:=r'.mu
 sup:=r'.sup
 out:=r'.out
 bas:=r'.bas
 io0:=λh0=>by
  obtain⟨a,b⟩:=r.io0 h0;exact⟨by rw[SD (hi h0)];exact a,b⟩
 len:=by rw[Tu,Tu];exact r.len
theorem bW.free (r:bW K G Z A ρ σ H)(c:G.is i=true)(hi:G.io=true->i≠0)(h:ρ[i]? = some (some u)):∃a A',σ[i]? = some (some (.ref a))/\bW K G Z A' (ρ.set i none) σ H/\Rp K H A' u (.ref a):=by
 obtain⟨a,h1,h2,h3,h4,h5⟩:=r.own c h;have na:¬Z.A0 a:=by
  rcases h4 with h4|⟨h4,h6⟩
  ·exact h4
  ·exact absurd h6 (hi h4)
 have sub:∀b,(A b/\b≠a)->A b:=λb z=>z.1;refine⟨a,λb=>A b/\b≠a,h1,?_,h5.rp sub λz=>z.2 rfl⟩;exact {
  slot:=λj w hj=>by
   rcases b9 hj with⟨rfl,e⟩|⟨ne,e⟩
   ·cases e
   ·obtain⟨v,s1,s2⟩:=r.slot j w e;refine⟨v,s1,?_⟩;by_cases cj:G.is j=true
    ·rw[h9 cj] at s2 ⊢;obtain⟨b,e1,e2,e3,e4,e5⟩:=s2;refine⟨b,e1,⟨e2,λz=>?_⟩,e3,e4,e5.mono sub⟩;subst z e1;exact r.dis i j u w b c cj ne h e h1 s1
    ·rw[hZ cj] at s2 ⊢;exact s2.mono sub
  dis:=(r.drop i).dis
  mu:=λb z=>r.mu b z.1
  sup:=λb z=>⟨r.sup b z,λe=>na (e▸z)⟩
  out:=λb z=>r.out b z.1
  bas:=r.bas
  io0:=r.io0
  len:=by rw[Tu];exact r.len}
theorem bW.put (r:bW K G Z A ρ σ H){w:U}(c:G.is i=true)(h:ρ[i]? = some (some u))(ha:σ[i]? = some (some (.ref a)))(e:∀b o,b≠a->H b=some o->H' b=some o)(t:i6 K H' A w a) :
  bW K G Z A (ρ.set i (some w)) σ H':=by
 obtain⟨a',h1,h2,h3,h4,h5⟩:=r.own c h;rw[ha] at h1;cases h1;have x:dQ A H H':=λb o nb z=>e b o (λq=>nb (q▸h2)) z;exact {
  slot:=λj y hj=>by
   rcases b9 hj with⟨rfl,q⟩|⟨ne,q⟩
   ·cases q;refine⟨.ref a,ha,?_⟩;rw[h9 c];exact⟨a,rfl,h2,h3,h4,t⟩
   ·obtain⟨v,s1,s2⟩:=r.slot j y q;refine⟨v,s1,?_⟩;by_cases cj:G.is j=true
    ·rw[h9 cj] at s2 ⊢;obtain⟨b,e1,e2,e3,e4,e5⟩:=s2;refine⟨b,e1,e2,e3,e4,e5.re r.mu x (λb z=>.inl z) λo z=>e b o (λq'=>?_) z⟩;subst q' e1;exact r.dis i j u y b c cj ne h q ha s1
    ·rw[hZ cj] at s2 ⊢;exact s2.re r.mu x λb z=>.inl z
  dis:=λj k y y' b cj ck ne hj hk sj sk=>by
   have f:∀j y,(ρ.set i (some w))[j]? = some (some y)->∃y',ρ[j]? = some (some y'):=λj y hj=>by
    rcases b9 hj with⟨rfl,q⟩|⟨ne,q⟩
    ·exact⟨u,h⟩
    ·exact⟨y,q⟩
   obtain⟨y1,hj⟩:=f j y hj;obtain⟨y2,hk⟩:=f k y' hk;exact r.dis j k y1 y2 b cj ck ne hj hk sj sk
  mu:=λb z=>by
   by_cases q:b=a
   ·subst q;exact t.mu
   ·have m:=r.mu b z;obtain⟨o,z⟩:=m.ex;rw[e b o q z,←z];exact m
  sup:=r.sup
  out:=r.out
  bas:=λb o z=>e b o (λq=>by subst q;rw[h3] at z;cases z) (r.bas b o z)
  io0:=r.io0
  len:=by rw[Tu];exact r.len}
end
def z6 (K:R1)(m:Md)(A:Sr->Prop)(H:Hp):R U->VK->Prop
 | .ok u,Q=>∀v H',aJ H H'->z5 K m A H H' u v->Q v H'
 |_,_=>False
noncomputable def uG {α:Type}(n:Nat)(g:List U->R α)(us:List U):R α:=if us.length=n then g us else .stk
def fi (K:R1)(n:Nat)(f:List U->R U)(m:Md):Sp:=λvs H Q _=>∃us A,aC K H A us vs/\(∀a,A a->Mu (H a))/\z6 K m A H (uG n f us) Q
def BP (K:R1)(n:Nat)(f:List U->R (U×U)):Sp:=λvs H Q _=>∃u0 us a0 vs' A,vs=.ref a0::vs'/\A a0/\i6 K H A u0 a0/\aC K H A us vs'/\(∀a,A a->Mu (H a))/\match uG n f (u0::us) with
 | .ok (u,w)=>∀v H',(∀b o,b≠a0->H b=some o->H' b=some o)->i6 K H' A w a0->Rp K H' A u v->Q v H'
 |_=>False
section
variable {e a b c:T6}{es rest:List T6}{p1:Pos}{b1 b2 b3:Bool}{m1 m2 m3 mr:Md}{g1 g2 g3:Ev->R (U×Ev)}{h1 h2:Ev->R (Bool×Ev)}{ga:Ev->R (List U×Ev)}
noncomputable def dI (n:Nat)(f:List U->R U)(ga:Ev->R (List U×Ev)):Ev->R (U×Ev):=λρ=>(ga ρ).bind λx=>(uG n f x.1).bind λz=>.ok (z,x.2)
theorem au {f:List U->R U}(F:Fn X.prog X.w X.K X.mg X.base x k ps (fi X.K n f mr))(hr:dE k X.A)(ha:DA X G (e::es) b1 false ga)(hg:Gl X x:=by rfl)(wa:(x==("__debug__":Str))=false:=by decide)(he:Sq (e::es) X.env=(false,VP e X.env)::Sq es X.env:=by rfl)(oe:(Ux pos (Sq es X.env)).any (·.1)=false:=by rfl):DE X G (.Call (.Name x p1) (e::es) [] pos) b1 mr (dI n f ga):=⟨(uE F hr ha.un hg wa he oe).to λσ H Q h=>by
 obtain⟨Z,A,ρ,q,f⟩:=h;obtain⟨⟨us,ρ1⟩,e1,f⟩:=f.bind;obtain⟨z,e2,f⟩:=f.bind;refine⟨Z,A,ρ,q,?_⟩;rw[e1];intro vs H1 q1 x1 s1 nj;show fi _ _ _ _ _ _ _ _;rw[Tg];refine⟨us,A,nj.rps,q1.mu,?_⟩;dsimp only at e2;rw[e2];exact λv H' sm vm=>f v H' (q1.same sm) (x1.trans (dQ.same sm)) (j6 s1 sm) (vm.e q1 sm)⟩
noncomputable def BQ (ρ:Ev)(i:Nat):Bool:=match ρ[i]? with
 |some (some _)=>true
 |_=>false
theorem sN (h:BQ ρ i=true):∃u,ρ[i]? = some (some u):=by
 unfold BQ at h;split at h
 ·rename_i u hu;exact⟨u,hu⟩
 ·cases h
noncomputable def nR (n i:Nat)(f:List U->R (U×U))(ga:Ev->R (List U×Ev)):Ev->R (U×Ev):=λρ=>if BQ ρ i=true then (ga ρ).bind λx=>match x.2[i]? with
 |some (some u0)=>(uG n f (u0::x.1)).bind λz=>.ok (z.1,x.2.set i (some z.2))
 |_=>.stk
 else .stk
theorem cF {y:Str}{f:List U->R (U×U)}(F:Fn X.prog X.w X.K X.mg X.base x k ps (BP X.K n f))(hr:dE k X.A)(ha:DA X G es b1 false ga)(hN:X.N[i]? = some y:=by rfl)(hv:AR X.env.scope y:=by first|exact Or.inl rfl|exact Or.inr (Or.inl rfl)|exact Or.inr (Or.inr rfl))(c:G.is i=true:=by rfl)(hd:(y==("__debug__":Str))=false:=by decide)(kr:(y==("__classdict__":Str))=false:=by decide)(hs:Sq (.Name y p2::es) X.env=(false,VP (.Name y p2) X.env)::Sq es X.env:=by rfl)(hg:Gl X x:=by rfl)(wa:(x==("__debug__":Str))=false:=by decide)(oe:(Ux pos (Sq es X.env)).any (·.1)=false:=by rfl):DE X G (.Call (.Name x p1) (.Name y p2::es) [] pos) true .S (nR n i f ga):=⟨(uE F hr (eK (gz hN hv hd kr) ha.un hs) hg wa hs oe).to λσ H Q h=>by
 obtain⟨Z,A,ρ,q,f⟩:=h;unfold nR at f;split at f
 ·rename_i hl;obtain⟨u00,hu0⟩:=sN hl;obtain⟨a0,h0,_⟩:=q.own c hu0;obtain⟨⟨us,ρ1⟩,e1,f⟩:=f.bind;dsimp only at f;split at f
  ·rename_i u0 hu;obtain⟨⟨z,w⟩,e2,f⟩:=f.bind;refine⟨.ref a0,h0,Z,A,ρ,q,?_⟩;rw[e1];intro vs H1 q1 x1 s1 nj;obtain⟨a0',k1,k2,_,_,k3⟩:=q1.own c hu;rw[h0] at k1;cases k1;show BP _ _ _ _ _ _ _;rw[Tg];refine⟨u0,us,a0,vs,A,rfl,k2,k3,nj.rps,q1.mu,?_⟩;rw[e2];intro v H' em tp rp;exact f v H' (q1.put c hu h0 em tp) (x1.trans λb o nb z=>em b o (λy=>nb (y▸k2)) z) (λz=>nomatch z) rp
  ·exact f.elim
 ·exact f.elim⟩
def Ff (K:R1)(T:String)(r:V->List V->Hp->VK->Prop)(p:U->List U->R (U×U)):Prop:=∀A H a u vs us z w Q,i6 K H A u a->A a->aC K H A us vs->(∀a,A a->Mu (H a))->p u us=.ok (z,w)->
 (∀v H',(∀b o,b≠a->H b=some o->H' b=some o)->i6 K H' A w a->Rp K H' A z v->Q v H')->r (.ref a) vs H Q
noncomputable def z7:U->String->Bool
 | .lst _,T=>T=="list"
 |_,_=>false
theorem Jw {a:Sr}(h:i6 K H A u a)(t:z7 u T=true):Ov K T (.ref a) H:=by
 cases u<;>(unfold z7 at t;unfold i6 at h)
 case lst us=>
  obtain⟨xs,q,_⟩:=h;exact .inl ⟨by simpa using t,xs,.inl (.inl q)⟩
 all_goals cases t
noncomputable def gM (T:String)(i:Nat)(p:U->List U->R (U×U))(ga:Ev->R (List U×Ev)):Ev->R (U×Ev):=λρ=>match ρ[i]? with
 |some (some u1)=>if z7 u1 T=true then (ga ρ).bind λx=>match x.2[i]? with
  |some (some u0)=>(p u0 x.1).bind λz=>.ok (z.1,x.2.set i (some z.2))
  |_=>.stk
  else .stk
 |_=>.stk
theorem BR {r:V->List V->Hp->VK->Prop}{p:U->List U->R (U×U)}(hp:Ff X.K T r p)(c:G.is i=true){Q:VK}(h:tD X.K G true .S (gM T i p ga) σ H Q) :
  Px X.K T r (Ew i) (OA X.K G b1 false ga) σ H Q:=by
 obtain⟨Z,A,ρ,q,f⟩:=h;unfold gM at f;split at f
 ·rename_i u1 og;split at f
  ·rename_i ht;obtain⟨a0,h0,_,_,_,t0⟩:=q.own c og;obtain⟨⟨us,ρ1⟩,e1,f⟩:=f.bind;dsimp only at f;split at f
   ·rename_i u0 hu;obtain⟨⟨z,w⟩,e2,f⟩:=f.bind;refine⟨.ref a0,h0,Jw t0 ht,Z,A,ρ,q,?_⟩;rw[e1];intro vs H1 q1 x1 s1 nj;obtain⟨a0',k1,k2,_,_,k3⟩:=q1.own c hu;rw[h0] at k1;cases k1;exact hp A H1 a0 u0 vs us z w Q k3 k2 nj.rps q1.mu e2 λv H' em tp rp=>f v H' (q1.put c hu h0 em tp) (x1.trans λb o nb z=>em b o (λy=>nb (y▸k2)) z) (λz=>nomatch z) rp
   ·exact f.elim
  ·exact f.elim
 ·exact f.elim
theorem sO {id:String}{y name:Str}{cL:Pos}{r:V->List V->Hp->VK->Prop}{p:U->List U->R (U×U)}(pa:PlainAttrs T)(slot:Slot T name id)(O3:typeOf (.builtin id)=pure (.type "method_descriptor"))(hm:GP X id r)(hp:Ff X.K T r p)(ha:DA X G (e::es) b1 false ga)(hN:X.N[i]? = some y:=by rfl)(hv:AR X.env.scope y:=by first|exact Or.inl rfl|exact Or.inr (Or.inl rfl)|exact Or.inr (Or.inr rfl))(c:G.is i=true:=by rfl)(hd:(y==("__debug__":Str))=false:=by decide)(kr:(y==("__classdict__":Str))=false:=by decide)(Ed:Ww (.Name y p2) name X.env (VP (.Name y p2) X.env)=VP (.Name y p2) X.env:=by rfl)(Kv:((Ux pos (Sq (e::es) X.env)).all (λx=> !x.1)&&(backToKw pos (keywordEach [] X.env)).all (λx=>x.1.isSome)
   && decide ((e::es).length+([]:List Xa).length+(if ([]:List Xa).isEmpty then 0 else 1)<30))=true:=by rfl)(Ee:(cL.endLine==pos.line)=true:=by rfl)(hs:Sq (e::es) X.env=(false,VP e X.env)::Sq es X.env:=by rfl)(xO:(Ux pos (Sq es X.env)).any (·.1)=false:=by rfl) :
  DE X G (.Call (.Attribute (.Name y p2) name cL) (e::es) [] pos) true .S (gM T i p ga):=⟨(Lx pa slot O3 hm (gz hN hv hd kr) ha.un Ed Kv Ee hs xO).to λ_ _ _=>BR hp c⟩
def BS (K:R1)(r:V->Option Int->Option Int->Hp->VK->Prop)(m:Md)(p:U->Option Int->Option Int->R U):Prop:=∀A H x u lo hi z Q,Pk K H A u x->(∀a,A a->Mu (H a))->p u lo hi=.ok z->(∀v H',aJ H H'->z5 K m A H H' z v->Q v H')->r x lo hi H Q
def OB (K:R1)(G:Gm)(Z:Pkg)(A:Sr->Prop)(b:Bool)(ρ:Ev)(σ:St)(H:Hp):R (Option Int×Ev)->(Option Int->Hp->Prop)->Prop
 | .ok (c,ρ'),Q=>∀H',bW K G Z A ρ' σ H'->dQ A H H'->(b=false->ρ'=ρ/\aJ H H')->Q c H'
 |_,_=>False
def Qx (K:R1)(G:Gm)(b:Bool)(g:Ev->R (Option Int×Ev)):TO:=λσ H Q=>∃Z A ρ,bW K G Z A ρ σ H/\OB K G Z A b ρ σ H (g ρ) Q
structure DO (X:Cx)(G:Gm)(e:Option T6)(b:Bool)(g:Ev->R (Option Int×Ev)):Prop where
 un:PO X e (Qx X.K G b g)
noncomputable def c_:Ev->R (Option Int×Ev):=λρ=>.ok (none,ρ)
noncomputable def cG (g:Ev->R (U×Ev)):Ev->R (Option Int×Ev):=λρ=>(g ρ).bind λx=>match x.1 with
 | .int i=>.ok (some i,x.2)
 |_=>.stk
theorem PO.to {e:Option T6}{t t':TO}(h:PO X e t)(i:∀σ H Q,t' σ H Q->t σ H Q):PO X e t':=λpins s σ H Q I q=>h pins s σ H Q I (i _ _ _ q)
theorem iq:DO X G none false c_:=⟨EO.to λσ H Q ⟨Z,A,ρ,q,f⟩=>f H q dQ.refl λ_=>⟨rfl,aJ.refl _⟩⟩
theorem fo (h:DE X G e b1 m1 g1):DO X G (some e) b1 (cG g1):=⟨(ER h.un).to λσ H Q h00=>by
 obtain⟨Z,A,ρ,q,f⟩:=h00;refine⟨Z,A,ρ,q,?_⟩;unfold cG at f;cases e1:g1 ρ with
 |stk=>rw[e1] at f;exact f.elim
 |exc=>rw[e1] at f;exact f.elim
 |ok x=>
  obtain⟨u,ρ1⟩:=x;rw[e1] at f;intro v H1 q1 x1 s1 vm;cases u with
  |int c=>exact⟨c,vm.pk.int,f H1 q1 x1 s1⟩
  |_=>exact f.elim⟩
noncomputable def oN (p:U->Option Int->Option Int->R U)(g:Ev->R (U×Ev))(lo hi:Ev->R (Option Int×Ev)):Ev->R (U×Ev):=λρ=>(g ρ).bind λx=>(lo x.2).bind λl=>(hi l.2).bind λh=>(p x.1 l.1 h.1).bind λz=>.ok (z,h.2)
theorem eQ {r:V->Option Int->Option Int->Hp->VK->Prop}{p:U->Option Int->Option Int->R U}{lo hi:Option T6}{gl gh:Ev->R (Option Int×Ev)}(hr:Bk X r)(hp:BS X.K r mr p)(he:DE X G e b1 m1 g1)(hl:DO X G lo b2 gl)(hu:DO X G hi b3 gh)(hm:m1=.P->(b2||b3)=false:=by first|exact λ_=>rfl|exact λh=>nomatch h):DE X G (.Subscript e (.Slice lo hi none p2) pos) (b1||(b2||b3)) mr (oN p g1 gl gh):=⟨(Bl hr he.un hl.un hu.un).to λσ H Q h=>by
 obtain⟨Z,A,ρ,q,f⟩:=h;obtain⟨⟨u,ρ1⟩,e1,f⟩:=f.bind;obtain⟨⟨l,ρ2⟩,e2,f⟩:=f.bind;obtain⟨⟨h,ρ3⟩,e3,f⟩:=f.bind;obtain⟨z,e4,f⟩:=f.bind;dsimp only at e2 e3 e4 f;refine⟨Z,A,ρ,q,?_⟩;rw[e1];intro v1 H1 q1 x1 s1 nj;refine⟨Z,A,ρ1,q1,?_⟩;rw[e2];intro H2 q2 x2 s2;refine⟨Z,A,ρ2,q2,?_⟩;rw[e3];intro H3 q3 x3 s3;exact hp A H3 v1 u l h z Q (nj.later q1 (x2.trans x3) (two s2 s3) hm) q3.mu e4 λv H' sm vm=>f v H' (q3.same sm) ((x1.trans (x2.trans x3)).trans (dQ.same sm)) (j6 (two s1 (two s2 s3)) sm) (vm.e q3 sm)⟩
end
end L2
namespace L2
def OC (K:R1)(G:Gm)(sg:U->Ev->R Ev):TG:=λv σ H Q=>∃Z A ρ u,bW K G Z A ρ σ H/\Rp K H A u v/\match sg u ρ with
 | .ok ρ'=>∀σ',bW K G Z A ρ' σ' H->(∀i,G.is i=true->σ'[i]? = σ[i]?)->Q σ' H
 |_=>False
structure DG (X:Cx)(G:Gm)(tg:T6)(sg:U->Ev->R Ev):Prop where
 un:PG X tg (OC X.K G sg)
def OD (K:R1)(G:Gm)(sg:List U->Ev->R Ev):A7:=λvs σ H Q=>∃Z A ρ us,bW K G Z A ρ σ H/\aC K H A us vs/\match sg us ρ with
 | .ok ρ'=>∀σ',bW K G Z A ρ' σ' H->(∀i,G.is i=true->σ'[i]? = σ[i]?)->Q σ' H
 |_=>False
structure LO (X:Cx)(G:Gm)(tgs:List T6)(sg:List U->Ev->R Ev):Prop where
 un:EB X tgs (OD X.K G sg)
noncomputable def bH (i:Nat):U->Ev->R Ev:=λu ρ=>.ok (ρ.set i (some u))
noncomputable def cK:List U->Ev->R Ev:=λus ρ=>match us with
 | []=>.ok ρ
 |_=>.stk
noncomputable def aK (s:U->Ev->R Ev)(t:List U->Ev->R Ev):List U->Ev->R Ev:=λus ρ=>match us with
 |u::r=>(s u ρ).bind λρ1=>t r ρ1
 |_=>.stk
noncomputable def du (n:Nat)(t:List U->Ev->R Ev):U->Ev->R Ev:=λu ρ=>match u with
 | .tup us=>if us.length=n then t us ρ else .stk
 |_=>.stk
noncomputable def uH (n:Nat)(t:List U->Ev->R Ev):U->Ev->R Ev:=λu ρ=>match u with
 | .lst us=>if us.length=n then t us ρ else .stk
 |_=>.stk
theorem EB.to {es:List T6}{t t':A7}(h:EB X es t)(i:∀v σ H Q,t' v σ H Q->t v σ H Q):EB X es t':=λpins s σ H v u Q I r q=>h pins s σ H v u Q I r (i _ _ _ _ q)
theorem aI (hN:X.N.Nodup)(hi:X.N[i]? = some x:=by rfl)(hx:GI X.env.scope x:=by first|exact Or.inl rfl|exact Or.inr rfl)(c:G.is i=false:=by rfl)(hf:X.fn x=true\/X.env.scope.names.lookup x=some .local:=by first|exact .inl rfl|exact .inr rfl|assumption):DG X G (.Name x pos) (bH i):=⟨(EC hN hi hx hf).to λv σ H Q ⟨Z,A,ρ,u,q,r,f⟩=>f _ (q.set c r) λj cj=>by
  have:i≠j:=λz=>by subst z;rw[c] at cj;cases cj
  rw[SD this]⟩
theorem eL:LO X G [] cK:=⟨ED.to λvs σ H Q h00=>by
 obtain⟨Z,A,ρ,us,q,r,f⟩:=h00;unfold cK at f;cases us with
 |nil=>unfold aC at r;exact⟨r,f σ q λ_ _=>rfl⟩
 |cons=>exact f.elim⟩
theorem ba {e:T6}{es:List T6}{s:U->Ev->R Ev}{t:List U->Ev->R Ev}(h1:DG X G e s)(h2:LO X G es t)
  (hs:(T4 (e::es) X.env).map (·.2)=assign e X.env::(T4 es X.env).map (·.2):=by rfl):LO X G (e::es) (aK s t):=⟨(A8 h1.un h2.un hs).to λvs σ H Q h00=>by
 obtain⟨Z,A,ρ,us,q,r,f⟩:=h00;unfold aK at f;cases us with
 |nil=>exact f.elim
 |cons u us=>
  unfold aC at r;obtain⟨v,vr,rfl,r1,r2⟩:=r;dsimp only at f;refine⟨v,vr,rfl,Z,A,ρ,u,q,r1,?_⟩;cases e1:s u ρ with
  |ok ρ1=>
   rw[e1] at f;simp only[R.bind] at f;intro σ1 q1 o1;refine⟨Z,A,ρ1,us,q1,r2,?_⟩;cases e2:t us ρ1 with
   |ok ρ2=>rw[e2] at f;exact λσ2 q2 o2=>f σ2 q2 λi c=>(o2 i c).trans (o1 i c)
   |exc=>rw[e2] at f;exact f.elim
   |stk=>rw[e2] at f;exact f.elim
  |exc=>rw[e1] at f;exact f.elim
  |stk=>rw[e1] at f;exact f.elim⟩
theorem ir {es:List T6}{t:List U->Ev->R Ev}(hc:X.calm=true)(h:LO X G es t)(hn:(T4 es X.env).length=n:=by rfl)(zB:(T4 es X.env).findIdx? (·.1)=none:=by rfl):DG X G (.Tuple es k pos) (du n t):=⟨(IJ hc h.un hn zB).to λv σ H Q h00=>by
 obtain⟨Z,A,ρ,u,q,r,f⟩:=h00;unfold du at f;cases u with
 |tup us=>
  unfold Rp at r;obtain⟨a,xs,rfl,sq,l,rs⟩:=r;dsimp only at f;by_cases hl:us.length=n
  ·rw[h9 hl] at f;exact⟨a,xs,rfl,fF.of sq,by rw[←rs.length];exact hl,Z,A,ρ,us,q,rs,f⟩
  ·rw[hZ hl] at f;exact f.elim
 |_=>exact f.elim⟩
theorem Jx {es:List T6}{t:List U->Ev->R Ev}(hc:X.calm=true)(h:LO X G es t)(hn:(T4 es X.env).length=n:=by rfl)(zB:(T4 es X.env).findIdx? (·.1)=none:=by rfl):DG X G (.Tuple es k pos) (uH n t):=⟨(Jo hc h.un hn zB).to λv σ H Q h00=>by
 obtain⟨Z,A,ρ,u,q,r,f⟩:=h00;unfold uH at f;cases u with
 |lst us=>
  unfold Rp at r;obtain⟨a,xs,rfl,na,sq,l,rs⟩:=r;dsimp only at f;by_cases hl:us.length=n
  ·rw[h9 hl] at f;exact⟨a,xs,rfl,eN.of sq,by rw[←rs.length];exact hl,Z,A,ρ,us,q,rs,f⟩
  ·rw[hZ hl] at f;exact f.elim
 |_=>exact f.elim⟩
def Qy (K:R1)(Z:Pkg)(m:Md)(H:Hp)(u:U)(v:V):Prop:=match m with
 | .S=>Rp K H Z.A0 u v
 | .O=>∃a,v=.ref a/\Z.B a=none/\¬Z.A0 a/\i6 K H (λb=>Z.A0 b\/b=a) u a
 | .P=>False
def oO (K:R1)(G:Gm)(Z:Pkg)(m:Md):SR->lR->Prop
 | .nx ρ',D=>∀A' σ' H',bW K G Z A' ρ' σ' H'->D.nx σ' H'
 | .bk ρ',D=>∀A' σ' H',bW K G Z A' ρ' σ' H'->D.bk σ' H'
 | .ct ρ',D=>∀A' σ' H',bW K G Z A' ρ' σ' H'->D.ct σ' H'
 | .rt u ρ',D=>∀A' σ' H' v,bW K G Z A' ρ' σ' H'->Qy K Z m H' u v->D.rt v H'
 | .exc _ _,_=>∀H',(∀a o,Z.B a=some o->H' a=some o)->G.W H'
 | .stk,_=>False
def KQ (K:R1)(G:Gm)(m:Md)(g:Ev->SR):TS:=λD σ H=>∃Z A ρ,bW K G Z A ρ σ H/\oO K G Z m (g ρ) D
structure DS (X:Cx)(G:Gm)(m:Md)(st:Wv)(g:Ev->SR):Prop where
 un:PS X st (KQ X.K G m g)
structure wq (X:Cx)(G:Gm)(m:Md)(st:List Wv)(g:Ev->SR):Prop where
 un:qy X st (KQ X.K G m g)
noncomputable def bZ:Ev->SR:=.nx
noncomputable def aA (g1 g2:Ev->SR):Ev->SR:=λρ=>match g1 ρ with
 | .nx ρ'=>g2 ρ'
 |r=>r
noncomputable def SR.of {α:Type}:R α->(α->SR)->SR
 | .ok a,f=>f a
 |_,_=>.stk
section
variable {m:Md}{α:Type}
theorem oO.of {x:R α}{k:α->SR}{D:lR}(f:oO K G Z m (SR.of x k) D):∃a,x=.ok a/\oO K G Z m (k a) D:=by
 cases x with
 |ok a=>exact⟨a,rfl,f⟩
 |exc=>exact f.elim
 |stk=>exact f.elim
end
section
variable {e a b c:T6}{sts rest:List Wv}{es:List T6}{p1:Pos}{b1 b2 b3:Bool}{m m1 m2 m3 mr:Md}{g1 g2 g3:Ev->R (U×Ev)}{h1 h2:Ev->R (Bool×Ev)}{ga:Ev->R (List U×Ev)}{s1 s2:Ev->SR}
theorem bw:wq X G m [] bZ:=⟨Ez.to λD σ H ⟨Z,A,ρ,q,f⟩=>f A σ H q⟩
theorem ao (h:DS X G m st s1):wq X G m [st] s1:=⟨su h.un⟩
theorem ah (ha:DS X G m st s1)(hb:wq X G m rest s2):wq X G m (st::rest) (aA s1 s2):=⟨(kD ha.un hb.un).to λD σ H h00=>by
 obtain⟨Z,A,ρ,q,f⟩:=h00;refine⟨Z,A,ρ,q,?_⟩;unfold aA at f;cases e:s1 ρ with
 |nx ρ1=>rw[e] at f;exact λA1 σ1 H1 q1=>⟨Z,A1,ρ1,q1,f⟩
 |rt=>rw[e] at f;exact f
 |bk=>rw[e] at f;exact f
 |ct=>rw[e] at f;exact f
 |exc=>rw[e] at f;exact f
 |stk=>rw[e] at f;exact f⟩
noncomputable def Jy:Ev->SR:=.bk
noncomputable def LP:Ev->SR:=.ct
noncomputable def oP (g:Ev->R (U×Ev)):Ev->SR:=λρ=>SR.of (g ρ) λx=>.nx x.2
theorem sP (h:DE X G e b1 m1 g1)(hs:Wc e none pos.line X.env=pure false:=by rfl):DS X G m (.Expr e pos) (oP g1):=⟨(EA h.un hs).to λD σ H h00=>by
 obtain⟨Z,A,ρ,q,f⟩:=h00;obtain⟨⟨u,ρ1⟩,e1,f⟩:=f.of;refine⟨Z,A,ρ,q,?_⟩;rw[e1];exact λv H1 q1 _ _ _=>f A σ H1 q1⟩
noncomputable def bf (g:Ev->R (U×Ev)):Ev->SR:=λρ=>SR.of (g ρ) λx=>.rt x.1 x.2
theorem aY (h:DE X G e b1 m1 g1)(hn:m1≠.P:=by decide):DS X G .S (.Return (some e) pos) (bf g1):=⟨(sv h.un).to λD σ H h00=>by
 obtain⟨Z,A,ρ,q,f⟩:=h00;obtain⟨⟨u,ρ1⟩,e1,f⟩:=f.of;refine⟨Z,A,ρ,q,?_⟩;rw[e1];exact λv H1 q1 _ _ vm=>f A σ H1 v q1 ((vm.rp hn).mono q1.sup)⟩
theorem sQ (h:DE X G e b1 .O g1):DS X G .O (.Return (some e) pos) (bf g1):=⟨(sv h.un).to λD σ H h00=>by
 obtain⟨Z,A,ρ,q,f⟩:=h00;obtain⟨⟨u,ρ1⟩,e1,f⟩:=f.of;refine⟨Z,A,ρ,q,?_⟩;rw[e1];intro v H1 q1 _ _ vm;obtain⟨a,rfl,na,nb,_,t⟩:=vm;exact f A σ H1 _ q1 ⟨a,rfl,nb,λz=>na (q1.sup a z),t.mono λb z=>z.imp (q1.sup b) id⟩⟩
theorem sR (hm:m≠.P:=by decide)(hi:G.io=true->i≠0)(hN:X.N[i]? = some x:=by rfl)(hv:AR X.env.scope x:=by first|exact Or.inl rfl|exact Or.inr (Or.inl rfl)|exact Or.inr (Or.inr rfl))(hd:(x==("__debug__":Str))=false:=by decide)(kr:(x==("__classdict__":Str))=false:=by decide)(c:G.is i=true:=by rfl):DS X G m (.Return (some (.Name x p1)) pos) (bf (af i)):=⟨(sv (gz hN hv hd kr)).to λD σ H h00=>by
 obtain⟨Z,A,ρ,q,f⟩:=h00;obtain⟨⟨u,ρ1⟩,e1,f⟩:=f.of;unfold af at e1;split at e1
 ·rename_i u' hu;cases e1;obtain⟨a,h1,h2,h3,h4,h5⟩:=q.own c hu;have na:¬Z.A0 a:=by
   rcases h4 with h4|⟨h4,h6⟩
   ·exact h4
   ·exact absurd h6 (hi h4)
  refine⟨.ref a,h1,f A σ H _ q ?_⟩;cases m with
  |S=>exact h5.rp q.sup na
  |O=>exact⟨a,rfl,h3,na,h5.mono λb z=>by
    rcases z with z|z
    ·exact q.sup b z
    ·subst z;exact h2⟩
  |P=>exact absurd rfl hm
 ·cases e1⟩
noncomputable def bg (i:Nat)(g:Ev->R (U×Ev)):Ev->SR:=λρ=>SR.of (g ρ) λx=>.nx (x.2.set i (some x.1))
theorem BU (c:G.is i=false)(hn:m1≠.P)(hi:∀σ H Q,tD X.K G b1 m1 g1 σ H Q->te σ H Q){D:lR}(h:KQ X.K G m (bg i g1) D σ H):EE te (xZ i) D σ H:=by
 obtain⟨Z,A,ρ,q,f⟩:=h;obtain⟨⟨u,ρ1⟩,e1,f⟩:=f.of;refine hi _ _ _ ⟨Z,A,ρ,q,?_⟩;rw[e1];exact λv H1 q1 _ _ vm=>f A _ H1 (q1.set c (vm.rp hn))
theorem z8 (c:G.is i=true)(h0:G.io=true->i≠0)(hi:∀σ H Q,tD X.K G b1 .O g1 σ H Q->te σ H Q){D:lR}(h:KQ X.K G m (bg i g1) D σ H):EE te (xZ i) D σ H:=by
 obtain⟨Z,A,ρ,q,f⟩:=h;obtain⟨⟨u,ρ1⟩,e1,f⟩:=f.of;refine hi _ _ _ ⟨Z,A,ρ,q,?_⟩;rw[e1];intro v H1 q1 _ _ vm;obtain⟨a,rfl,na,nb,r,t⟩:=vm;exact f _ _ H1 (q1.setO c h0 na nb r t)
theorem aW (hN:X.N.Nodup)(h:DE X G e b1 m1 g1)(hi:X.N[i]? = some x:=by rfl)(hx:GI X.env.scope x:=by first|exact Or.inl rfl|exact Or.inr rfl)(c:G.is i=false:=by rfl)(hn:m1≠.P:=by decide)(hs:Wc e (some (.Name x p1)) pos.line X.env=pure false:=by rfl)(hf:X.fn x=true\/X.env.scope.names.lookup x=some .local:=by first|exact .inl rfl|exact .inr rfl|assumption):DS X G m (.Assign [.Name x p1] e pos) (bg i g1):=⟨(oj hN hi hx h.un hs hf).to λ_ _ _=>BU c hn λ_ _ _ h=>h⟩
theorem dX (hN:X.N.Nodup)(h:DE X G e b1 .O g1)(h0:G.io=true->i≠0:=by decide)(hi:X.N[i]? = some x:=by rfl)(hx:GI X.env.scope x:=by first|exact Or.inl rfl|exact Or.inr rfl)(c:G.is i=true:=by rfl)(hs:Wc e (some (.Name x p1)) pos.line X.env=pure false:=by rfl)(hf:X.fn x=true\/X.env.scope.names.lookup x=some .local:=by first|exact .inl rfl|exact .inr rfl|assumption):DS X G m (.Assign [.Name x p1] e pos) (bg i g1):=⟨(oj hN hi hx h.un hs hf).to λ_ _ _=>z8 c h0 λ_ _ _ h=>h⟩
noncomputable def uI (i j:Nat):Ev->SR:=λρ=>match ρ[j]? with
 |some (some u)=>.nx ((ρ.set j none).set i (some u))
 |_=>.stk
theorem Fg {y:Str}(hN:X.N.Nodup)(h0:G.io=true->j≠0:=by decide)(hj:X.N[j]? = some y:=by rfl)(hv:AR X.env.scope y:=by first|exact Or.inl rfl|exact Or.inr (Or.inl rfl)|exact Or.inr (Or.inr rfl))(hd:(y==("__debug__":Str))=false:=by decide)(kr:(y==("__classdict__":Str))=false:=by decide)(cj:G.is j=true:=by rfl)(hi:X.N[i]? = some x:=by rfl)(hx:GI X.env.scope x:=by first|exact Or.inl rfl|exact Or.inr rfl)(c:G.is i=false:=by rfl)(hs:Wc (.Name y p2) (some (.Name x p1)) pos.line X.env=pure false:=by rfl)(hf:X.fn x=true\/X.env.scope.names.lookup x=some .local:=by first|exact .inl rfl|exact .inr rfl|assumption):DS X G m (.Assign [.Name x p1] (.Name y p2) pos) (uI i j):=⟨(oj hN hi hx (gz hj hv hd kr) hs hf).to λD σ H h00=>by
 obtain⟨Z,A,ρ,q,f⟩:=h00;unfold uI at f;split at f
 ·rename_i u hu;obtain⟨a,A',h1,r,p⟩:=q.free cj h0 hu;exact⟨.ref a,h1,f A' _ H (r.set c p)⟩
 ·exact f.elim⟩
noncomputable def Fh (sg:U->Ev->R Ev)(g:Ev->R (U×Ev)):Ev->SR:=λρ=>SR.of (g ρ) λx=>SR.of (sg x.1 x.2) .nx
theorem Jz (h:DE X G e b1 m1 g1)(hg:DG X G tg sg)(hn:m1≠.P:=by decide)(hs:swapsWithSole [tg] e pos.line X.env=pure false:=by rfl)(hw:swappedStores [tg] e X.env=pure none:=by rfl)(h1:(T4 [tg] X.env).map (·.2)=[assign tg X.env]:=by rfl):DS X G m (.Assign [tg] e pos) (Fh sg g1):=⟨(A9 h.un hg.un hs hw h1).to λD σ H h00=>by
 obtain⟨Z,A,ρ,q,f⟩:=h00;obtain⟨⟨u,ρ1⟩,e1,f⟩:=f.of;obtain⟨ρ2,e2,f⟩:=f.of;refine⟨Z,A,ρ,q,?_⟩;rw[e1];intro v H1 q1 _ _ vm;refine⟨Z,A,ρ1,u,q1,vm.rp hn,?_⟩;dsimp only at e2;rw[e2];exact λσ' q' _=>f A σ' H1 q'⟩
noncomputable def OE (i j:Nat)(ga:Ev->R (List U×Ev)):Ev->SR:=λρ=>SR.of (ga ρ) λx=>match x.1 with
 | [u,w]=>.nx ((x.2.set i (some u)).set j (some w))
 |_=>.stk
noncomputable def lQ (h:Ev->R (Bool×Ev))(s1 s2:Ev->SR):Ev->SR:=λρ=>SR.of (h ρ) λx=>if x.1=true then s1 x.2 else s2 x.2
theorem dz {c:T6}{a b:List Wv}(hc:DT X G c b1 h1)(ha:wq X G m a s1)(hb:wq X G m b s2):DS X G m (.If c a b pos) (lQ h1 s1 s2):=⟨(K_ hc.un ha.un hb.un).to λD σ H h00=>by
 obtain⟨Z,A,ρ,q,f⟩:=h00;obtain⟨⟨k,ρ1⟩,e1,f⟩:=f.of;refine⟨Z,A,ρ,q,?_⟩;rw[e1];intro H1 q1 _ _;cases k with
 |true=>rw[h9 rfl] at f ⊢;exact⟨Z,A,ρ1,q1,f⟩
 |false=>rw[hZ R0] at f ⊢;exact⟨Z,A,ρ1,q1,f⟩⟩
noncomputable def gE (h:Ev->R (Bool×Ev))(s:Ev->SR):Nat->Ev->SR
 |0,_=>.stk
 |n+1,ρ=>SR.of (h ρ) λx=>if x.1=true then match s x.2 with
   | .nx ρ2=>gE h s n ρ2
   | .ct ρ2=>gE h s n ρ2
   | .bk ρ2=>.nx ρ2
   |r=>r
  else .nx x.2
theorem BV (hp:Xw (SN X.prog X.w) X.A X.env X.xe)(hc:DT X G c b1 h1)(hb:wq X G m body s1):DS X G m (.While c body [] pos) (gE h1 s1 n):=⟨(A_ hp hc.un hb.un).to λD σ H h00=>by
 obtain⟨Z,A,ρ,q,f⟩:=h00;refine⟨λk σ H=>∃A ρ,bW X.K G Z A ρ σ H/\oO X.K G Z m (gE h1 s1 k ρ) D,⟨n,A,ρ,q,f⟩,?_⟩;rintro k σ H ⟨A,ρ,q,f⟩;cases k with
 |zero=>exact f.elim
 |succ k=>
  unfold gE at f;obtain⟨⟨t,ρ1⟩,e1,f⟩:=f.of;refine⟨Z,A,ρ,q,?_⟩;rw[e1];intro H1 q1 _ _;cases t with
  |false=>rw[hZ R0] at f ⊢;exact f A σ H1 q1
  |true=>
   rw[h9 rfl] at f ⊢;refine⟨λσ H=>∃A ρ,bW X.K G Z A ρ σ H/\oO X.K G Z m (gE h1 s1 k ρ) D,λσ' H' z=>⟨k,Nat.lt_succ_self k,z⟩,Z,A,ρ1,q1,?_⟩;dsimp only at f;cases e2:s1 ρ1 with
   |nx ρ2=>rw[e2] at f;exact λA2 σ2 H2 q2=>⟨A2,ρ2,q2,f⟩
   |ct ρ2=>rw[e2] at f;exact λA2 σ2 H2 q2=>⟨A2,ρ2,q2,f⟩
   |bk ρ2=>rw[e2] at f;exact f
   |rt=>rw[e2] at f;exact f
   |exc=>rw[e2] at f;exact f
   |stk=>rw[e2] at f;exact f⟩
end
end L2
namespace L2
def Wk (K:R1)(p:Bool)(A:Sr->Prop)(us:List U)(J:It)(H1:Hp):Prop:=us.length<=R3/\
 ∀H A',(if p=true then aJ H1 H else dQ A H1 H)->(∀b,A' b->A b\/H1 b=none)->(∀(i:Nat) (u:U),us[i]? = some u->J.go i H/\∀x H',J.yld i H x H'->aJ H H'/\Rp K H' A' u x)/\J.stop us.length H
def NM (K:R1)(G:Gm)(b p:Bool)(gi:Ev->R (List U×Ev)):TI:=λσ H R=>∃Z A ρ,bW K G Z A ρ σ H/\match gi ρ with
 | .ok (us,ρ')=>∀J H1,bW K G Z A ρ' σ H1->dQ A H H1->(b=false->ρ'=ρ/\aJ H H1)->Wk K p A us J H1->R J H1
 |_=>False
structure DI (X:Cx)(G:Gm)(tg iter:T6)(b p:Bool)(gi:Ev->R (List U×Ev)):Prop where
 un:PI X tg iter (NM X.K G b p gi)
section
variable {e a b c:T6}{es:List T6}{p1:Pos}{b1 b2 b3:Bool}{m m1 m2 m3 mr:Md}{g1 g2 g3:Ev->R (U×Ev)}{h1 h2:Ev->R (Bool×Ev)}{ga:Ev->R (List U×Ev)}{s1 s2:Ev->SR}
theorem PI.to {t t':TI}(h:PI X tg e t)(i:∀σ H Q,t' σ H Q->t σ H Q):PI X tg e t':=λpins s σ H Q I q=>h pins s σ H Q I (i _ _ _ q)
theorem PI.or {t t':TI}(h:PI X tg e t)(h':PI X tg e t'):PI X tg e (λσ H R=>t σ H R\/t' σ H R):=λpins s σ H Q I q=>by
 rcases q with q|q
 ·exact h pins s σ H Q I q
 ·exact h' pins s σ H Q I q
noncomputable def LQ:Md->Bool
 | .P=>true
 |_=>false
noncomputable def j8 (g:Ev->R (U×Ev)):Ev->R (List U×Ev):=λρ=>(g ρ).bind λx=>match x.1 with
 | .lst us=>.ok (us,x.2)
 | .tup us=>.ok (us,x.2)
 | .scr us=>.ok (us,x.2)
 |_=>.stk
theorem Fi (q:bW K G Z A ρ σ H1)(h:rk K G Z m1 A ρ σ H1 (.lst us) v):∃a,v=.ref a/\(∃xs,eN K H1 a xs)/\Wk K (LQ m1) A us (NF K a) H1:=by
 have hp:=h.pk;unfold Pk at hp;obtain⟨a,xs,rfl,rd,l,rs⟩:=hp;refine⟨a,rfl,⟨xs,eN.of rd⟩,l,λH A' hs ha=>?_⟩;have st:H a=some (.lst xs)/\∀(i:Nat) (u:U),us[i]? = some u->∃x,xs[i]? = some x/\Rp K H A' u x:=by
  cases hm:LQ m1 with
  |true=>
   rw[hm,h9 rfl] at hs;refine⟨hs a _ rd,λi u hu=>?_⟩;obtain⟨x,h1,h2⟩:=rs.get hu;exact⟨x,h1,h2.re q.mu (dQ.same hs) ha⟩
  |false=>
   rw[hm,hZ R0] at hs;have hn:m1≠.P:=λz=>by subst z;cases hm
   have hr:=h.rp hn;unfold Rp at hr;obtain⟨a',xs',e,na,rd',_,rs'⟩:=hr;cases e;refine⟨hs a _ na rd,λi u hu=>?_⟩;obtain⟨x,h1,h2⟩:=rs.get hu;exact⟨x,h1,h2.re q.mu hs ha⟩
 obtain⟨rd2,get⟩:=st;refine⟨λi u hu=>?_,⟨xs,eN.of rd2,by rw[←rs.length];exact Sb _⟩⟩;obtain⟨x,h1,h2⟩:=get i u hu;refine⟨⟨xs,x,eN.of rd2,h1⟩,λy H' yl=>?_⟩;obtain⟨e,yl⟩:=yl;have e2:=yl xs (eN.of rd2);rw[h1] at e2;cases e2;subst e;exact⟨aJ.refl _,h2⟩
theorem JA {p:Bool}(q:bW K G Z A ρ σ H1)(h:Pk K H1 A (.tup us) v):∃a,v=.ref a/\(∃xs,fF K H1 a xs)/\Wk K p A us (Oi K a) H1:=by
 unfold Pk at h;obtain⟨a,xs,rfl,sq,l,rs⟩:=h;refine⟨a,rfl,⟨xs,fF.of sq⟩,l,λH A' hs ha=>?_⟩;have ex:dQ A H1 H:=by
  cases p with
  |true=>rw[h9 rfl] at hs;exact dQ.same hs
  |false=>rw[hZ R0] at hs;exact hs
 have KL:fF K H a xs:=fF.of (ex a _ (λz=>by have:=q.mu a z;rw[sq] at this;exact this) sq);refine⟨λi u hu=>?_,⟨xs,KL,by rw[←rs.length];exact Sb _⟩⟩;obtain⟨x,h1,h2⟩:=rs.get hu;refine⟨⟨xs,x,KL,h1⟩,λy H' yl=>?_⟩;obtain⟨e,yl⟩:=yl;have e2:=yl xs KL;rw[h1] at e2;cases e2;subst e;exact⟨aJ.refl _,h2.re q.mu ex ha⟩
theorem JB {p:Bool}(q:bW K G Z A ρ σ H1)(h:Pk K H1 A (.scr us) v):∃a,v=.ref a/\(∃xs,eN K H1 a xs)/\Wk K p A us (NF K a) H1:=by
 unfold Pk at h;obtain⟨a,xs,rfl,sq,l,rs⟩:=h;refine⟨a,rfl,⟨xs,sq.sq⟩,l,λH A' hs ha=>?_⟩;have ex:dQ A H1 H:=by
  cases p with
  |true=>rw[h9 rfl] at hs;exact dQ.same hs
  |false=>rw[hZ R0] at hs;exact hs
 have KL:eN K H a xs:=(sq.to λo y w=>ex a _ (λz=>by have:=q.mu a z;rw[w] at this;exact this) w).sq;refine⟨λi u hu=>?_,⟨xs,KL,by rw[←rs.length];exact Sb _⟩⟩;obtain⟨x,h1,h2⟩:=rs.get hu;refine⟨⟨xs,x,KL,h1⟩,λy H' yl=>?_⟩;obtain⟨e,yl⟩:=yl;have e2:=yl xs KL;rw[h1] at e2;cases e2;subst e;exact⟨aJ.refl _,h2.re q.mu ex ha⟩
theorem eZ (h:DE X G e b1 m1 g1):DI X G tg e b1 (LQ m1) (j8 g1):=⟨((EF h.un).or (IM h.un)).to λσ H RR h00=>by
 obtain⟨Z,A,ρ,q,f⟩:=h00;unfold j8 at f;cases e1:g1 ρ with
 |stk=>rw[e1] at f;exact f.elim
 |exc=>rw[e1] at f;exact f.elim
 |ok y=>
  obtain⟨u,ρ1⟩:=y;rw[e1] at f;cases u with
  |lst us=>
   refine .inl ⟨Z,A,ρ,q,?_⟩;rw[e1];intro v H1 q1 x1 s1 vm;obtain⟨a,e,l,wk⟩:=Fi q1 vm;exact⟨a,e,l,f _ H1 q1 x1 s1 wk⟩
  |tup us=>
   refine .inr ⟨Z,A,ρ,q,?_⟩;rw[e1];intro v H1 q1 x1 s1 vm;obtain⟨a,e,l,wk⟩:=JA (p:=LQ m1) q1 vm.pk;exact⟨a,e,l,f _ H1 q1 x1 s1 wk⟩
  |scr us=>
   refine .inl ⟨Z,A,ρ,q,?_⟩;rw[e1];intro v H1 q1 x1 s1 vm;obtain⟨a,e,l,wk⟩:=JB (p:=LQ m1) q1 vm.pk;exact⟨a,e,l,f _ H1 q1 x1 s1 wk⟩
  |_=>exact f.elim⟩
noncomputable def aG (lo:Int)(n:Nat):List U:=(SX n).map λi=>.int (lo+(i:Nat))
theorem BW {lo:Int}{p:Bool}(h:n<=R3):Wk K p A (aG lo n) (NG lo n) H1:=by
 have hl:(aG lo n).length=n:=by unfold aG;rw[RX,Ti]
 refine⟨by rw[hl];exact h,λH A' _ _=>⟨λi u hu=>?_,by rw[hl];exact Sb _⟩⟩;unfold aG at hu;rw[R_] at hu;cases e:(SX n)[i]? with
 |none=>rw[e] at hu;cases hu
 |some j=>
  rw[e] at hu;obtain⟨l1,l2⟩:=R8.mp e;rw[Ti] at l1;rw[List.getElem_range] at l2;subst l2;cases hu;refine⟨l1,λx H' y=>?_⟩;obtain⟨rfl,rfl⟩:=y;exact⟨aJ.refl _,dG⟩
noncomputable def fj (ga:Ev->R (List U×Ev)):Ev->R (List U×Ev):=λρ=>(ga ρ).bind λx=>match x.1 with
 | [.int j]=>if -1000000<=j/\j<=1000000 then .ok (aG 0 j.toNat,x.2) else .stk
 |_=>.stk
theorem cW {a:T6}(ha:DA X G [a] b1 false ga)(hm:X.mg "range"=none)(hg:Gl X "range":=by rfl)(hs:Sq [a] X.env=[(false,VP a X.env)]:=by rfl):DI X G tg (.Call (.Name "range" p1) [a] [] pos) b1 false (fj ga):=⟨(zM hg hm ha.un hs).to λσ H RR h00=>by
 obtain⟨Z,A,ρ,q,f⟩:=h00;unfold fj at f;cases e1:ga ρ with
 |stk=>rw[e1] at f;exact f.elim
 |exc=>rw[e1] at f;exact f.elim
 |ok y=>
  obtain⟨us,ρ1⟩:=y;rw[e1] at f;dsimp only[L2.R.bind] at f;refine⟨Z,A,ρ,q,?_⟩;rw[e1];intro vs H1 q1 x1 s1 vm;split at f
  ·rename_i QZ ρ' e2;split at e2
   ·rename_i j;split at e2
    ·rename_i hl;cases e2;have r:=vm.rps;unfold aC at r;obtain⟨v,vr,rfl,r1,r2⟩:=r;unfold aC at r2;subst r2;unfold Rp at r1;subst r1;exact⟨j,rfl,by lia,by lia,f _ H1 q1 x1 s1 (BW (by have:R3=16777216:=rfl;lia))⟩
    ·cases e2
   ·cases e2
  ·exact f.elim⟩
noncomputable def eR (sg:U->Ev->R Ev)(s:Ev->SR):List U->Ev->SR
 | [],ρ=>.nx ρ
 |u::us,ρ=>SR.of (sg u ρ) λρ1=>match s ρ1 with
   | .nx ρ2=>eR sg s us ρ2
   | .ct ρ2=>eR sg s us ρ2
   | .bk ρ2=>.nx ρ2
   |r=>r
noncomputable def i7 (gi:Ev->R (List U×Ev))(sg:U->Ev->R Ev)(s:Ev->SR):Ev->SR:=λρ=>SR.of (gi ρ) λx=>eR sg s x.1 x.2
open Classical in
noncomputable def Pkg.lp (Z:Pkg)(A:Sr->Prop)(H:Hp):Pkg:={Z with B:=λb=>if A b/\Z.B b=none then none else H b}
theorem sS {b:Sr}(h1:A b)(h2:Z.B b=none):(Z.lp A H).B b=none:=by
 unfold Pkg.lp;dsimp only;exact h9 ⟨h1,h2⟩
theorem kP {b:Sr}(h:¬(A b/\Z.B b=none)):(Z.lp A H).B b=H b:=by
 unfold Pkg.lp;dsimp only;exact hZ h
theorem wW {b:Sr}(h:(Z.lp A H).B b=none):(A b/\Z.B b=none)\/H b=none:=by
 by_cases c:A b/\Z.B b=none
 ·exact .inl c
 ·rw[kP c] at h;exact .inr h
theorem bW.lp (q:bW K G Z A ρ σ H):bW K G (Z.lp A H) A ρ σ H where
 slot:=λi u h=>by
  obtain⟨v,h1,h2⟩:=q.slot i u h;refine⟨v,h1,?_⟩;by_cases c:G.is i=true
  ·rw[h9 c] at h2 ⊢;obtain⟨a,e1,e2,e3,e4,e5⟩:=h2;exact⟨a,e1,e2,sS e2 e3,e4,e5⟩
  ·rw[hZ c] at h2 ⊢;exact h2
 dis:=q.dis
 mu:=q.mu
 sup:=q.sup
 out:=λa h=>(q.out a h).imp id λz=>sS h z
 bas:=λa o h=>by
  by_cases c:A a/\Z.B a=none
  ·rw[sS c.1 c.2] at h;cases h
  ·rw[kP c] at h;exact h
 io0:=q.io0
 len:=q.len
theorem bW.unlp {A':Sr->Prop}{ρ':Ev}{σ':St}(q:bW K G Z A ρ σ H)(q':bW K G (Z.lp A H) A' ρ' σ' H'):bW K G Z A' ρ' σ' H':=by
 have sub:∀a,(Z.lp A H).B a=none->Z.B a=none:=λa h=>by
  rcases wW h with z|h
  ·exact z.2
  ·cases e:Z.B a with
   |none=>rfl
   |some o=>rw[q.bas a o e] at h;cases h
 exact {
  slot:=λi u h=>by
   obtain⟨v,h1,h2⟩:=q'.slot i u h;refine⟨v,h1,?_⟩;by_cases c:G.is i=true
   ·rw[h9 c] at h2 ⊢;obtain⟨a,e1,e2,e3,e4,e5⟩:=h2;exact⟨a,e1,e2,sub a e3,e4,e5⟩
   ·rw[hZ c] at h2 ⊢;exact h2
  dis:=q'.dis
  mu:=q'.mu
  sup:=q'.sup
  out:=λa h=>(q'.out a h).imp id (sub a)
  bas:=λa o h=>q'.bas a o (by
   rw[kP (λz=>by rw[h] at z;exact nomatch z.2)];exact q.bas a o h)
  io0:=q'.io0
  len:=q'.len}
theorem oO.lp {r:SR}{D:lR}(q:bW K G Z A ρ σ H)(f:oO K G Z m r D):oO K G (Z.lp A H) m r D:=by
 cases r with
 |nx=>exact λA' σ' H' q'=>f A' σ' H' (q.unlp q')
 |bk=>exact λA' σ' H' q'=>f A' σ' H' (q.unlp q')
 |ct=>exact λA' σ' H' q'=>f A' σ' H' (q.unlp q')
 |rt u ρ'=>
  intro A' σ' H' v q' vm;refine f A' σ' H' v (q.unlp q') ?_;cases m with
  |S=>exact vm
  |P=>exact vm
  |O=>
   obtain⟨a,e,nb,na,t⟩:=vm;refine⟨a,e,?_,na,t⟩;rcases wW nb with z|h
   ·exact z.2
   ·cases e:Z.B a with
    |none=>rfl
    |some o=>rw[q.bas a o e] at h;cases h
 |exc=>exact λH' hb=>f H' λa o h=>hb a o (by
   rw[kP (λz=>by rw[h] at z;exact nomatch z.2)];exact q.bas a o h)
 |stk=>exact f.elim
theorem dg {gi:Ev->R (List U×Ev)}(hp:Xw (SN X.prog X.w) X.A X.env X.xe)(hc:X.calm=true)(hi:DI X G tg iter b1 false gi)(hg:DG X G tg sg)(hb:wq X G m body s1)(hs:∀x,UD iter X.env x=pure x:=by intro _;rfl):DS X G m (.For tg iter body [] pos) (i7 gi sg s1):=⟨(E1 hp hc hi.un hg.un hb.un hs).to λD σ H h00=>by
 obtain⟨Z,A,ρ,q,f⟩:=h00;obtain⟨⟨us,ρ1⟩,e1,f⟩:=f.of;refine⟨Z,A,ρ,q,?_⟩;rw[e1];intro J H1 q1 x1 Ei wk;dsimp only at f;obtain⟨hz,wk⟩:=wk;refine⟨λi k σ H=>i+k=us.length/\∃A' ρ',bW X.K G (Z.lp A H1) A' ρ' σ H/\oO X.K G (Z.lp A H1) m (eR sg s1 (us.drop i) ρ') D,⟨us.length,by lia,A,ρ1,q1.lp,by rw[Vh];exact f.lp q1⟩,?_⟩;rintro i k σ H ⟨hk,A',ρ',q',f'⟩;have ex:dQ A H1 H:=λb o nb z=>q'.bas b o (by
  rw[kP (λy=>nb y.1)];exact z)
 have nw:∀b,A' b->A b\/H1 b=none:=λb z=>by
  rcases q'.out b z with y|y
  ·exact .inl (q1.sup b y)
  ·rcases wW y with w|h
   ·exact .inl w.1
   ·exact .inr h
 obtain⟨w1,w2⟩:=wk H A' (by rw[hZ R0];exact ex) nw;by_cases qQ:i<us.length
 ·have eu:us[i]? = some us[i]:=R5 qQ;obtain⟨go,yl⟩:=w1 i _ eu;rw[Tj qQ] at f';unfold eR at f';obtain⟨ρ2,e2,f2⟩:=f'.of;refine .inr ⟨go,λσ H=>∃A' ρ',bW X.K G (Z.lp A H1) A' ρ' σ H/\oO X.K G (Z.lp A H1) m (eR sg s1 (us.drop (i+1)) ρ') D,λσ' H' z=>⟨k-1,by lia,by lia,z⟩,λx H' y=>?_⟩;obtain⟨sm,rp⟩:=yl x H' y;refine⟨Z.lp A H1,A',ρ',us[i],q'.same sm,rp,?_⟩;rw[e2];intro σ2 q2 _;refine⟨Z.lp A H1,A',ρ2,q2,?_⟩;cases e3:s1 ρ2 with
  |nx ρ3=>rw[e3] at f2;exact λA3 σ3 H3 q3=>⟨A3,ρ3,q3,f2⟩
  |ct ρ3=>rw[e3] at f2;exact λA3 σ3 H3 q3=>⟨A3,ρ3,q3,f2⟩
  |bk ρ3=>rw[e3] at f2;exact f2
  |rt=>rw[e3] at f2;exact f2
  |exc=>rw[e3] at f2;exact f2
  |stk=>rw[e3] at f2;exact f2
 ·have e:i=us.length:=by lia
  subst e;rw[US] at f';exact .inl ⟨w2,f' A' σ H q'⟩⟩
end
end L2
namespace L2
noncomputable def gF (js:List (Option Nat))(ρ:Ev):Ev:=js.map λo=>match o with
 |none=>none
 |some j=>match ρ[j]? with
  |some v=>v
  |none=>none
noncomputable def sT (G:Gm)(js:List (Option Nat)):Gm:=⟨js.map λo=>match o with
 |none=>false
 |some j=>G.is j,false,λ_=>False⟩
noncomputable def nz:List (Option Nat)->Bool
 | []=>true
 |none::r=>nz r
 |some j::r=> !(r.contains (some j))&&nz r
theorem oQ:∀{js:List (Option Nat)} {i k j:Nat},nz js=true->js[i]? = some (some j)->js[k]? = some (some j)->i=k
 | [],_,_,_,_,h,_=>by simp at h
 |none::r,i,k,j,ok,h1,h2=>by
  unfold nz at ok;cases i with
  |zero=>simp at h1
  |succ i=>
   cases k with
   |zero=>simp at h2
   |succ k=>exact congrArg (·+1) (oQ (j:=j) ok (by simpa using h1) (by simpa using h2))
 |some j'::r,i,k,j,ok,h1,h2=>by
  unfold nz at ok;rw[Sa] at ok;have nm:∀n:Nat,r[n]? ≠ some (some j'):=λn h=>by
   have:=Uo h;simp at ok;exact ok.1 this
  cases i with
  |zero=>
   cases k with
   |zero=>rfl
   |succ k=>simp at h1 h2;subst h1;exact absurd h2 (nm k)
  |succ i=>
   cases k with
   |zero=>simp at h1 h2;subst h2;exact absurd h1 (nm i)
   |succ k=>exact congrArg (·+1) (oQ (j:=j) ok.2 (by simpa using h1) (by simpa using h2))
theorem kQ (h:(gF js ρ)[i]? = some (some u)):∃j,js[i]? = some (some j)/\ρ[j]? = some (some u):=by
 unfold gF at h;rw[R_] at h;cases e:js[i]? with
 |none=>rw[e] at h;cases h
 |some o=>
  rw[e] at h;cases o with
  |none=>cases h
  |some j=>
   refine⟨j,rfl,?_⟩;have h:=SH h;dsimp only at h;split at h
   ·rename_i v hv;rw[hv,h]
   ·cases h
theorem kR (h:js[i]? = some (some j))(hv:σ[j]? = some (some v)):(qZ js σ)[i]? = some (some v):=by
 unfold qZ;rw[R_,h];dsimp only[Option.map];rw[hv]
theorem oR (h:js[i]? = some (some j)):(sT G js).is i=G.is j:=by
 unfold sT Gm.is;dsimp only;rw[List.getD,R_,h];rfl
theorem yi (js:List (Option Nat))(ρ:Ev)(σ:St):(gF js ρ).length=(qZ js σ).length:=by
 unfold gF qZ;rw[RX,RX]
section
variable {ρi:Ev}
theorem yj (q:bW K G Z A ρ σ H)(ok:nz js=true):bW K (sT G js) ⟨λ_=>False,λ_=>none,0⟩ A (gF js ρ) (qZ js σ) H where
 slot:=λi u h=>by
  obtain⟨j,h1,h2⟩:=kQ h;obtain⟨v,h3,h4⟩:=q.slot j u h2;refine⟨v,kR h1 h3,?_⟩;rw[oR h1];by_cases c:G.is j=true
  ·rw[h9 c] at h4 ⊢;obtain⟨a,e1,e2,_,_,e5⟩:=h4;exact⟨a,e1,e2,rfl,.inl id,e5⟩
  ·rw[hZ c] at h4 ⊢;exact h4
 dis:=λi k u w a ci ck ne hi hk si sk=>by
  obtain⟨j,h1,h2⟩:=kQ hi;obtain⟨j',Io,N4⟩:=kQ hk;rw[oR h1] at ci;rw[oR Io] at ck;obtain⟨b,e1,_⟩:=q.own ci h2;obtain⟨b',e1',_⟩:=q.own ck N4;rw[kR h1 e1] at si;rw[kR Io e1'] at sk;cases si;cases sk;exact q.dis j j' u w a ci ck (λz=>ne (by subst z;exact oQ ok h1 Io)) h2 N4 e1 e1'
 mu:=q.mu
 sup:=λ_ h=>h.elim
 out:=λ_ _=>.inr rfl
 bas:=λ_ _ h=>by cases h
 io0:=λh=>by cases h
 len:=yi js ρ σ
def Fj (G:Gm)(js:List (Option Nat))(ρ:Ev)(σ:St)(a:Sr):Prop:=∃(i j:Nat) (u:U),js[i]? = some (some j)/\G.is j=true/\ρ[j]? = some (some u)/\σ[j]? = some (some (.ref a))
open Classical in
noncomputable def JC (G:Gm)(js:List (Option Nat))(A:Sr->Prop)(ρ:Ev)(σ:St)(H:Hp):Pkg:=⟨λa=>A a/\¬Fj G js ρ σ a,λa=>if Fj G js ρ σ a then none else H a,0⟩
theorem oS (h:Fj G js ρ σ a):(JC G js A ρ σ H).B a=none:=by
 unfold JC;dsimp only;exact h9 h
theorem kS (h:¬Fj G js ρ σ a):(JC G js A ρ σ H).B a=H a:=by
 unfold JC;dsimp only;exact hZ h
theorem JD (q:bW K G Z A ρ σ H)(ok:nz js=true):bW K (sT G js) (JC G js A ρ σ H) A (gF js ρ) (qZ js σ) H where
 slot:=λi u h=>by
  obtain⟨j,h1,h2⟩:=kQ h;obtain⟨v,h3,h4⟩:=q.slot j u h2;refine⟨v,kR h1 h3,?_⟩;rw[oR h1];by_cases c:G.is j=true
  ·rw[h9 c] at h4 ⊢;obtain⟨a,e1,e2,_,_,e5⟩:=h4;subst e1;have cp:Fj G js ρ σ a:=⟨i,j,u,h1,c,h2,h3⟩;exact⟨a,rfl,e2,oS cp,.inl λz=>z.2 cp,e5⟩
  ·rw[hZ c] at h4 ⊢;exact h4
 dis:=(yj q ok).dis
 mu:=q.mu
 sup:=λ_ h=>h.1
 out:=λa h=>by
  by_cases c:Fj G js ρ σ a
  ·exact .inr (oS c)
  ·exact .inl ⟨h,c⟩
 bas:=λa o h=>by
  by_cases c:Fj G js ρ σ a
  ·rw[oS c] at h;cases h
  ·rw[kS c] at h;exact h
 io0:=λh=>by cases h
 len:=yi js ρ σ
noncomputable def i8:List (Option Nat)->Nat->Option Nat
 | [],_=>none
 |o::r,j=>if o=some j then some 0 else (i8 r j).map (·+1)
theorem rq:∀{js:List (Option Nat)} {i j:Nat},i8 js j=some i->js[i]? = some (some j)
 | [],_,_,h=>by cases h
 |o::r,i,j,h=>by
  unfold i8 at h;split at h
  ·rename_i e;cases h;rw[e];rfl
  ·cases e:i8 r j with
   |none=>rw[e] at h;cases h
   |some k=>
    rw[e] at h;cases h;rw[T2];exact rq e
theorem oT:∀{js:List (Option Nat)} {i j:Nat},i8 js j=none->js[i]? ≠ some (some j)
 | [],_,_,_=>by simp
 |o::r,i,j,h=>by
  unfold i8 at h;split at h
  ·cases h
  ·rename_i ne;cases e:i8 r j with
   |some k=>rw[e] at h;cases h
   |none=>
    cases i with
    |zero=>intro z;exact ne (SH z)
    |succ i=>rw[T2];exact oT e
noncomputable def wb (G:Gm)(js:List (Option Nat))(ρi ρ:Ev):Ev:=ρ.mapIdx λj x=>if (G.is j&&x.isSome)=true then (match i8 js j with
 |some i=>(ρi[i]?).getD none
 |none=>x) else x
theorem wX (h:(wb G js ρi ρ)[j]? = some (some u)):∃u0,ρ[j]? = some (some u0)/\((G.is j=true/\∃i,i8 js j=some i/\ρi[i]? = some (some u))\/(u0=u/\(G.is j=false\/i8 js j=none))):=by
 unfold wb at h;rw[List.getElem?_mapIdx] at h;cases e:ρ[j]? with
 |none=>rw[e] at h;cases h
 |some x=>
  rw[e] at h;have h:=SH h;cases x with
  |none=>simp at h
  |some u0=>
   refine⟨u0,rfl,?_⟩;dsimp only at h;by_cases c:G.is j=true
   ·rw[h9 (by rw[c];rfl)] at h;split at h
    ·rename_i i hi;refine .inl ⟨c,i,hi,?_⟩;cases e2:ρi[i]? with
     |none=>rw[e2] at h;cases h
     |some y=>rw[e2] at h;simp at h;rw[h]
    ·rename_i hi;exact .inr ⟨SH h,.inr hi⟩
   ·have c:G.is j=false:=Xm.mpr c;rw[hZ (by rw[c];exact R0)] at h;exact .inr ⟨SH h,.inl c⟩
theorem bW.wb {σ4:St}(q:bW K G Z A ρ σ H)(ok:nz js=true)(q':bW K (sT G js) (JC G js A ρ σ H) A ρi σ4 H')(ho:∀i,(sT G js).is i=true->σ4[i]? = (qZ js σ)[i]?):bW K G Z A (L2.wb G js ρi ρ) σ H'/\dQ A H H':=by
 have Nv:∀a,Fj G js ρ σ a->A a/\Z.B a=none:=λa h00=>by
  obtain⟨i,j,u,h1,h2,h3,h4⟩:=h00;obtain⟨b,e1,e2,e3,_⟩:=q.own h2 h3;rw[h4] at e1;cases e1;exact⟨e2,e3⟩
 have ex:dQ A H H':=λb o nb z=>q'.bas b o (by rw[kS λc=>nb (Nv b c).1];exact z);refine⟨{
  slot:=λj u h=>?_
  dis:=λi k u w a ci ck ne hi hk si sk=>by
   obtain⟨u1,h1,_⟩:=wX hi;obtain⟨u2,h2,_⟩:=wX hk;exact q.dis i k u1 u2 a ci ck ne h1 h2 si sk
  mu:=q'.mu
  sup:=q.sup
  out:=q.out
  bas:=λa o h=>q'.bas a o (by
   rw[kS λc=>by rw[(Nv a c).2] at h;cases h];exact q.bas a o h)
  io0:=q.io0
  len:=by unfold L2.wb;rw[List.length_mapIdx];exact q.len},ex⟩
 obtain⟨u0,h0,hh⟩:=wX h;rcases hh with⟨c,i,hi,hu⟩|⟨rfl,hc⟩
 ·have hj:=rq hi;obtain⟨a,e1,e2,e3,e4,_⟩:=q.own c h0;have ci:(sT G js).is i=true:=by rw[oR hj];exact c
  obtain⟨a',k1,k2,_,_,k5⟩:=q'.own ci hu;rw[ho i ci,kR hj e1] at k1;cases k1;refine⟨.ref a,e1,?_⟩;rw[h9 c];exact⟨a,rfl,e2,e3,e4,k5⟩
 ·obtain⟨v,h1,h2⟩:=q.slot j u0 h0;refine⟨v,h1,?_⟩;by_cases c:G.is j=true
  ·rw[h9 c] at h2 ⊢;obtain⟨a,rfl,e2,e3,e4,e5⟩:=h2;have hc:i8 js j=none:=by
    rcases hc with hc|hc
    ·rw[c] at hc;cases hc
    ·exact hc
   have nc:¬Fj G js ρ σ a:=λh00=>by
    obtain⟨i,j',u,z1,z2,z3,z4⟩:=h00;have ne:j≠j':=λz=>by subst z;exact oT hc z1
    exact q.dis j j' u0 u a c z2 ne h0 z3 h1 z4
   exact⟨a,rfl,e2,e3,e4,e5.re q.mu ex (λb z=>.inl z) λo z=>q'.bas a o (by rw[kS nc];exact z)⟩
  ·rw[hZ c] at h2 ⊢;exact h2.re q.mu ex λb z=>.inl z
end
noncomputable def yk (f:U->R (Option U)):List U->R (List U)
 | []=>.ok []
 |u::us=>(f u).bind λo=>(yk f us).bind λr=>.ok (match o with
  |some y=>y::r
  |none=>r)
noncomputable def wu (js:List (Option Nat))(sg:U->Ev->R Ev)(gt:Ev->R (Bool×Ev))(ge:Ev->R (U×Ev))(ρ:Ev)(u:U):R (Option U):=
 (sg u (gF js ρ)).bind λρi=>(gt ρi).bind λc=>if c.1=true then (ge ρi).bind λy=>.ok (some y.1) else .ok none
noncomputable def kT (gi:Ev->R (List U×Ev))(js:List (Option Nat))(sg:U->Ev->R Ev)(gt:Ev->R (Bool×Ev))(ge:Ev->R (U×Ev)):Ev->R (U×Ev):=λρ=>
 (gi ρ).bind λx=>(yk (wu js sg gt ge x.2) x.1).bind λys=>.ok (.lst ys,x.2)
noncomputable def l7 (G:Gm)(js:List (Option Nat))(sg:U->Ev->R Ev)(gt:Ev->R (Bool×Ev))(ge:Ev->R (U×Ev)):List U->Ev->R (List U×Ev)
 | [],ρ=>.ok ([],ρ)
 |u::us,ρ=>(sg u (gF js ρ)).bind λρi=>(gt ρi).bind λc=>if c.1=true then (ge c.2).bind λy=>(l7 G js sg gt ge us (wb G js y.2 ρ)).bind λr=>.ok (y.1::r.1,r.2) else l7 G js sg gt ge us (wb G js c.2 ρ)
noncomputable def sU (G:Gm)(gi:Ev->R (List U×Ev))(js:List (Option Nat))(sg:U->Ev->R Ev)(gt:Ev->R (Bool×Ev))(ge:Ev->R (U×Ev)):Ev->R (U×Ev):=λρ=>
 (gi ρ).bind λx=>(l7 G js sg gt ge x.1 x.2).bind λy=>.ok (.lst y.1,y.2)
theorem R.bind_ok {α β:Type}{x:R α}{k:α->R β}{b:β}(h:x.bind k=.ok b):∃a,x=.ok a/\k a=.ok b:=by
 cases x with
 |ok a=>exact⟨a,rfl,h⟩
 |exc=>cases h
 |stk=>cases h
section
variable {e xP:T6}{b1 b2 b3 p:Bool}{m me:Md}{gi:Ev->R (List U×Ev)}{gt:Ev->R (Bool×Ev)}{ge:Ev->R (U×Ev)}
theorem BX (ok:nz js=true)(hn:me≠.P){Q:VK}(h:tD X.K G b1 .O (kT gi js sg gt ge) σ H Q) :
  Ox (NM X.K G b1 p gi) js (λ_=>OC X.K (sT G js) sg) (λ_=>AU X.K (sT G js) false gt) (λ_=>tD X.K (sT G js) false me ge) σ H Q:=by
 obtain⟨Z,A,ρ,q,f⟩:=h;obtain⟨⟨us,ρ1⟩,e1,f⟩:=f.bind;obtain⟨all,e2,f⟩:=f.bind;refine⟨Z,A,ρ,q,?_⟩;rw[e1];intro J H1 q1 x1 s1 ⟨hz,wk⟩ Y;dsimp only at e2 f;refine⟨λi k ys H2=>i+k=us.length/\aJ H1 H2/\∃done rest,yk (wu js sg gt ge ρ1) (us.drop i)=.ok rest/\done++rest=all/\aC X.K H2 A done ys/\done.length<=i,
  ⟨us.length,by lia,aJ.refl _,[],all,by rw[Vh];exact e2,rfl,aC.nil,Sb _⟩,?_⟩
 rintro i k ys H2 ⟨hk,sm,done,rest,e3,e4,rs,hd⟩;have q2:=q1.same sm;obtain⟨w1,w2⟩:=wk H2 A (by split;exact sm;exact dQ.same sm) λb z=>.inl z;by_cases qQ:i<us.length
 ·have eu:us[i]? = some us[i]:=R5 qQ;obtain⟨go,yl⟩:=w1 i _ eu;rw[Tj qQ] at e3;unfold yk at e3;obtain⟨o,e5,e3⟩:=R.bind_ok e3;obtain⟨r,e6,e3⟩:=R.bind_ok e3;unfold wu at e5;obtain⟨ρi,e7,e5⟩:=R.bind_ok e5;obtain⟨⟨c,ρc⟩,e8,e5⟩:=R.bind_ok e5;refine .inr ⟨go,by rw[←rs.length];lia,λIr H'=>aJ H1 H'/\∃done,done++r=all/\aC X.K H' A done Ir/\done.length<=i+1,λIr H' ⟨z1,dn,z2,z3,z4⟩=>⟨k-1,by lia,by lia,z1,dn,r,e6,z2,z3,z4⟩,λx H3 y=>?_⟩;obtain⟨sm3,rp⟩:=yl x H3 y;refine⟨_,A,gF js ρ1,us[i],(yj (q2.same sm3) ok),rp,?_⟩;rw[e7];intro σ4 q4 _;refine⟨_,A,ρi,q4,?_⟩;rw[e8];intro H5 q5 x5 s5;obtain⟨rfl,Iq⟩:=s5 rfl;cases c with
  |false=>
   rw[hZ R0] at e5 ⊢;cases e5;cases e3;exact⟨(sm.trans sm3).trans Iq,done,e4,(rs.same sm3).same Iq,by lia⟩
  |true=>
   rw[h9 rfl] at e5 ⊢;obtain⟨⟨y1,ρy⟩,e9,e5⟩:=R.bind_ok e5;cases e5;cases e3;refine⟨_,A,ρc,q5,?_⟩;rw[e9];intro v H6 q6 x6 s6 vm;obtain⟨rfl,sm6⟩:=s6 rfl;have Qb:=sm3.trans (Iq.trans sm6);exact⟨sm.trans Qb,done++[y1],by rw[TX];exact e4,(rs.same Qb).append (aC.cons (vm.rp hn) aC.nil),by rw[Se];simp;lia⟩
 ·have e:i=us.length:=by lia
  subst e;rw[US] at e3;cases e3;rw[Tg] at e4;subst e4;refine .inl ⟨w2,λa na=>?_⟩;have sn:=b_ na (.lst ys);exact f _ _ (q2.same sn) ((x1.trans (dQ.same sm)).trans (dQ.same sn)) (j6 (j6 s1 sm) sn) (z5.e q2 sn ⟨a,rfl,na,bF q2.mu rs na (by lia)⟩)
theorem BY (ok:nz js=true)(hn:me≠.P){Q:VK}(h:tD X.K G true .O (sU G gi js sg gt ge) σ H Q) :
  Ox (NM X.K G b1 false gi) js (λ_=>OC X.K (sT G js) sg) (λ_=>AU X.K (sT G js) b2 gt) (λ_=>tD X.K (sT G js) b3 me ge) σ H Q:=by
 obtain⟨Z,A,ρ,q,f⟩:=h;obtain⟨⟨us,ρ1⟩,e1,f⟩:=f.bind;obtain⟨⟨all,ρe⟩,e2,f⟩:=f.bind;refine⟨Z,A,ρ,q,?_⟩;rw[e1];intro J H1 q1 x1 s1 ⟨hz,wk⟩ Y;dsimp only at e2 f;refine⟨λi k ys H2=>i+k=us.length/\dQ A H1 H2/\∃ρ2 done rest,bW X.K G Z A ρ2 σ H2/\l7 G js sg gt ge (us.drop i) ρ2=.ok (rest,ρe)/\done++rest=all/\aC X.K H2 A done ys/\done.length<=i,
  ⟨us.length,by lia,dQ.refl,ρ1,[],all,q1,by rw[Vh];exact e2,rfl,aC.nil,Sb _⟩,?_⟩
 rintro i k ys H2 ⟨hk,ex,ρ2,done,rest,q2,e3,e4,rs,hd⟩;obtain⟨w1,w2⟩:=wk H2 A (by rw[hZ R0];exact ex) λb z=>.inl z;by_cases qQ:i<us.length
 ·have eu:us[i]? = some us[i]:=R5 qQ;obtain⟨go,yl⟩:=w1 i _ eu;rw[Tj qQ] at e3;unfold l7 at e3;obtain⟨ρi,e7,e3⟩:=R.bind_ok e3;obtain⟨⟨c,ρc⟩,e8,e3⟩:=R.bind_ok e3;refine .inr ⟨go,by rw[←rs.length];lia,λIr H'=>dQ A H1 H'/\∃ρ2 done rest,bW X.K G Z A ρ2 σ H'/\l7 G js sg gt ge (us.drop (i+1)) ρ2=.ok (rest,ρe)/\done++rest=all/\aC X.K H' A done Ir/\done.length<=i+1,λIr H' z=>⟨k-1,by lia,by lia,z⟩,λx H3 y=>?_⟩;obtain⟨sm3,rp⟩:=yl x H3 y;have q3:=q2.same sm3;refine⟨JC G js A ρ2 σ H3,A,gF js ρ2,us[i],JD q3 ok,rp,?_⟩;rw[e7];intro σ4 q4 o4;refine⟨_,A,ρi,q4,?_⟩;rw[e8];intro H5 q5 x5 s5;dsimp only at e3;cases c with
  |false=>
   rw[hZ R0] at e3 ⊢;obtain⟨q6,x6⟩:=q3.wb ok q5 o4;exact⟨ex.trans ((dQ.same sm3).trans x6),_,done,rest,q6,e3,e4,(rs.same sm3).re q3.mu x6 (λb z=>.inl z),by lia⟩
  |true=>
   rw[h9 rfl] at e3 ⊢;obtain⟨⟨y1,ρy⟩,e9,e3⟩:=R.bind_ok e3;obtain⟨⟨r,ρr⟩,e10,e3⟩:=R.bind_ok e3;cases e3;refine⟨_,A,ρc,q5,?_⟩;rw[e9];intro v H6 q6 x6 s6 vm;obtain⟨q7,x7⟩:=q3.wb ok q6 o4;exact⟨ex.trans ((dQ.same sm3).trans x7),_,done++[y1],r,q7,e10,by rw[TX];exact e4,((rs.same sm3).re q3.mu x7 (λb z=>.inl z)).append (aC.cons (vm.rp hn) aC.nil),by rw[Se];simp;lia⟩
 ·have e:i=us.length:=by lia
  subst e;rw[US] at e3;cases e3;rw[Tg] at e4;subst e4;refine .inl ⟨w2,λa na=>?_⟩;have sn:=b_ na (.lst ys);exact f _ _ (q2.same sn) ((x1.trans ex).trans (dQ.same sn)) (λz=>nomatch z) (z5.e q2 sn ⟨a,rfl,na,bF q2.mu rs na (by lia)⟩)
structure JE (X:Cx)(G:Gm)(wx:List T6)(b:Bool)(h:Ev->R (Bool×Ev)):Prop where
 un:EZ X wx (AU X.K G b h)
noncomputable def dA:Ev->R (Bool×Ev):=λρ=>.ok (true,ρ)
theorem cf:JE X G [] false dA:=⟨λpins s σ H Q I ⟨Z,A,ρ,q,f⟩=>Bt pins s σ H Q I (f H q dQ.refl λ_=>⟨rfl,aJ.refl _⟩)⟩
theorem i9 (ni:Scope)(NX N:List Str)(js:List (Option Nat))(hc:X.calm=true)(hi:DI X G tg iter b1 p gi)(AN:∀Y:sF,DG (eO X scope N Y) (sT G js) tg sg/\JE (eO X scope N Y) (sT G js) wx false gt/\DE (eO X scope N Y) (sT G js) xP false me ge)(hn:me≠.P:=by decide)(ok:nz js=true:=by rfl)(qp:X.env.scope=ni:=by rfl)(Nq:X.N=NX:=by rfl)(hS:wJ ni NX scope N js=true:=by decide+kernel)(hs:∀x,UD iter X.env x=pure x:=by intro _;rfl):DE X G (.ListComp xP [⟨tg,iter,wx,0⟩] scope pos) b1 .O (kT gi js sg gt ge):=⟨(GR ni NX N js hc hi.un (λY=>⟨(AN Y).1.un,(AN Y).2.1.un,(AN Y).2.2.un⟩) qp Nq hS hs).to λ_ _ _=>BX ok hn⟩
theorem oU (ni:Scope)(NX N:List Str)(js:List (Option Nat))(hc:X.calm=true)(hi:DI X G tg iter b1 false gi)(AN:∀Y:sF,DG (eO X scope N Y) (sT G js) tg sg/\JE (eO X scope N Y) (sT G js) wx b2 gt/\DE (eO X scope N Y) (sT G js) xP b3 me ge)(hn:me≠.P:=by decide)(ok:nz js=true:=by rfl)(qp:X.env.scope=ni:=by rfl)(Nq:X.N=NX:=by rfl)(hS:wJ ni NX scope N js=true:=by decide+kernel)(hs:∀x,UD iter X.env x=pure x:=by intro _;rfl):DE X G (.ListComp xP [⟨tg,iter,wx,0⟩] scope pos) true .O (sU G gi js sg gt ge):=⟨(GR ni NX N js hc hi.un (λY=>⟨(AN Y).1.un,(AN Y).2.1.un,(AN Y).2.2.un⟩) qp Nq hS hs).to λ_ _ _=>BY ok hn⟩
variable {uc pos2:Pos}
end
end L2
namespace L2
noncomputable def b7 (n:Nat)(us:List U):Ev:=us.map some++SE (n-us.length) none
noncomputable def dh (m:Md)(n:Nat)(s:Ev->SR):List U->R U:=λus=>match s (b7 n us) with
 | .rt u _=>.ok u
 | .nx _=>if m=.S then .ok .non else .stk
 | .exc c u=>.exc c u
 |_=>.stk
noncomputable def wY (n:Nat)(s:Ev->SR):List U->R (U×U):=λus=>match s (b7 n us) with
 | .rt u ρ=>match ρ[0]? with
  |some (some w)=>.ok (u,w)
  |_=>.stk
 | .nx ρ=>match ρ[0]? with
  |some (some w)=>.ok (.non,w)
  |_=>.stk
 | .exc c u=>.exc c u
 |_=>.stk
theorem iu (h:(b7 n us)[i]? = some (some u)):us[i]? = some u:=by
 unfold b7 at h;by_cases c:i<(us.map some).length
 ·rw[Vf c,R_] at h;cases e:us[i]? with
  |none=>rw[e] at h;cases h
  |some w=>rw[e] at h;simp at h;rw[h]
 ·rw[WQ (by lia),List.getElem?_replicate] at h;split at h
  ·cases h
  ·cases h
theorem gQ (h:vs[i]? = some v):(fg N vs)[i]? = some (some v):=by
 unfold fg;have c:i<(vs.map some).length:=by rw[RX];exact (R8.mp h).1
 rw[Vf c,R_,h];rfl
theorem sV (h:us.length=vs.length):(b7 N.length us).length=(fg N vs).length:=by
 unfold b7 fg;rw[Se,Se,RX,RX,Ua,Ua,h]
section
variable {w:Tq}{base:UU}
theorem oV (G:Gm)(m:Md)(s:Ev->SR)(zG:G.io=false)(jt:∀i,i<ps.length->G.is i=false)(eX:∀(f:Sr) (bx:R6) (A:S2) (outer:List Env) (s0:Sk) (H:Hp) (E:XK),dE k (A.deeper (UM x (aj st) s0.heap.objs.size f bx))->
   wq (gb uu P w K mg base N x (aj st) f bx A outer s0 H E).nox G m (bC st) s) :
  (∀vs H Q E,fi K ps.length (dh m N.length s) m vs H Q E->vs.length=ps.length)/\∀(f:Sr) (bx:R6) (A:S2) (outer:List Env) (s0:Sk) (H:Hp) (vs:List V) (Q:VK) (E:XK),dE k (A.deeper (UM x (aj st) s0.heap.objs.size f bx))->fi K ps.length (dh m N.length s) m vs H Q E->
   ∃t,qy (gb uu P w K mg base N x (aj st) f bx A outer s0 H E).nox (bC st) t/\t {nx:=λ_ H'=>Q .non H',rt:=Q} (fg N vs) H:=by
 have hl:∀(us:List U) (A:Sr->Prop) (H:Hp) (Q:VK),z6 K m A H (uG ps.length (dh m N.length s) us) Q->us.length=ps.length:=λus A H Q h=>by
  unfold uG at h;split at h
  ·assumption
  ·exact h.elim
 refine⟨λvs H Q E ⟨us,A,r,_,h⟩=>by rw[←r.length];exact hl us A H Q h,λf bx A outer s0 H vs Q E hr ⟨us,A0,r,mu,h⟩=>⟨_,(eX f bx A outer s0 H E hr).un,?_⟩⟩;have l:=hl us A0 H Q h;unfold uG at h;rw[h9 l] at h;refine⟨⟨A0,H,0⟩,A0,b7 N.length us,?_,?_⟩
 ·exact {
   slot:=λi u hu=>by
    have hu:=iu hu;obtain⟨v,h1,h2⟩:=r.get hu;refine⟨v,gQ h1,?_⟩;rw[hZ (by rw[jt i (by rw[←l];exact (R8.mp hu).1)];exact R0)];exact h2
   dis:=λi j u w a ci cj ne hi hj si sj=>by
    rw[jt i (by rw[←l];exact (R8.mp (iu hi)).1)] at ci;cases ci
   mu:=mu
   sup:=λa h=>h
   out:=λa h=>.inl h
   bas:=λa o h=>h
   io0:=λh=>by rw[zG] at h;cases h
   len:=sV r.length}
 ·unfold dh at h;cases e:s (b7 N.length us) with
  |nx ρ'=>
   rw[e] at h;dsimp only at h;intro A' σ' H' q;split at h
   ·rename_i hm;subst hm;exact h _ H' q.bas (show Rp K H' A0 .non .non from sL)
   ·exact h.elim
  |rt u ρ'=>
   rw[e] at h;intro A' σ' H' v q vm;refine h v H' q.bas ?_;cases m with
   |S=>exact vm
   |P=>exact vm.elim
   |O=>
    obtain⟨a,e1,e2,e3,e4⟩:=vm;exact⟨a,e1,e2,e4⟩
  |bk=>rw[e] at h;exact h.elim
  |ct=>rw[e] at h;exact h.elim
  |exc=>rw[e] at h;exact h.elim
  |stk=>rw[e] at h;exact h.elim
theorem Df.fnD (G:Gm)(m:Md)(s:Ev->SR)(d:Df K mg x st)(S:aQ N ps (aj st))(hb:∀(kV ku pm:R6) (an:Option Sr) (bx ct:R6) (us:List R6),us.length=ps.length->bindArgs (TU x x (dD st) (bC st) (aj st) .none kV ku pm an bx ct) ⟨us,[]⟩=pure (ps.zip us))(zG:G.io=false)(jt:∀i,i<ps.length->G.is i=false)(eX:∀(f:Sr) (bx:R6) (A:S2) (outer:List Env) (s0:Sk) (H:Hp) (E:XK),dE k (A.deeper (UM x (aj st) s0.heap.objs.size f bx))->
   wq (gb uu P w K mg base N x (aj st) f bx A outer s0 H E).nox G m (bC st) s):Fn P w K mg base x (k+1) ps (fi K ps.length (dh m N.length s) m):=
 d.fn S hb (oV G m s zG jt eX).1 (oV G m s zG jt eX).2
theorem En.okD (G:Gm)(m:Md)(s:Ev->SR)(F:En K x x st f fd)(S:aQ N ps (aj st))(zG:G.io=false)(jt:∀i,i<ps.length->G.is i=false)(eX:∀(f:Sr) (bx:R6) (A:S2) (outer:List Env) (s0:Sk) (H:Hp) (E:XK),dE k (A.deeper (UM x (aj st) s0.heap.objs.size f bx))->
   wq (gb uu P w K mg base N x (aj st) f bx A outer s0 H E).nox G m (bC st) s):il P w K mg base uu (k+1) f fd ps (fi K ps.length (dh m N.length s) m):=
 F.ok S (oV G m s zG jt eX).1 ((oV G m s zG jt eX).2 f)
def uJ (K:R1):Sp:=λvs H Q _=>∃(a:Sr) (ns:List Int),vs=[.ref a]/\E5 K H a (ns.map V.int)/\ns.length<=63/\∀H',Q (.bl true) H'
theorem JF (hO:EW H)(h:eN K H a xs):E5 K H a xs:=by
 rcases h with (h|h)|h
 ·rcases hO a with z|⟨o,ys,z⟩
  ·rw[h] at z;cases z
  ·rw[h] at z;cases z
 ·exact .inl h
 ·exact .inr h
theorem uK {H:Hp}{A:Sr->Prop}:∀(ns:List Int),aC K H A (ns.map .int) (ns.map V.int)
 | []=>aC.nil
 |n::ns=>aC.cons dG (uK ns)
theorem JG {f:List U->R U}{fa:Sr}(F:il P w K mg base uu k fa fd ["script"] (fi K 1 f .S))(h:∀ns:List Int,ns.length<=63->f [.scr (ns.map .int)]=.ok (.bl true)):il P w K mg base uu k fa fd ["script"] (uJ K):=by
 refine F.imp λvs H Q E ⟨a,ns,e,sc,l,q⟩=>?_;subst e;have hl:(ns.map U.int).length<=R3:=by rw[RX];have:R3=16777216:=rfl;lia
 refine⟨[.scr (ns.map .int)],λ_=>False,aC.cons ?_ aC.nil,λ_ h=>h.elim,?_⟩
 ·unfold Rp;exact⟨a,_,rfl,sc,hl,uK ns⟩
 ·have e:uG 1 f [.scr (ns.map .int)]=.ok (.bl true):=(h9 rfl).trans (h ns l);rw[e];intro v H' sm vm;have vm:Rp K H' (λ_=>False) (.bl true) v:=vm;unfold Rp at vm;subst vm;exact q H'
theorem Df.fnI (G:Gm)(s:Ev->SR)(d:Df K mg x st)(S:aQ N ps (aj st))(hb:∀(kV ku pm:R6) (an:Option Sr) (bx ct:R6) (us:List R6),us.length=ps.length->bindArgs (TU x x (dD st) (bC st) (aj st) .none kV ku pm an bx ct) ⟨us,[]⟩=pure (ps.zip us))(zG:G.io=true)(h0:G.is 0=true)(jt:∀i,i<ps.length->i≠0->G.is i=false)(eX:∀(f:Sr) (bx:R6) (A:S2) (outer:List Env) (s0:Sk) (H:Hp) (E:XK),dE k (A.deeper (UM x (aj st) s0.heap.objs.size f bx))->
   wq (gb uu P w K mg base N x (aj st) f bx A outer s0 H E).nox G .S (bC st) s):Fn P w K mg base x (k+1) ps (BP K ps.length (wY N.length s)):=by
 refine d.fn S hb ?_ ?_
 ·rintro vs H Q E ⟨u0,us,a0,vs',A,rfl,_,_,r,_,h⟩;unfold uG at h;split at h
  ·rename_i e;split at e
   ·rename_i l;rw[Sj,←r.length,←l];rfl
   ·cases e
  ·exact h.elim
 ·rintro f bx A outer s0 H vs Q E hr ⟨u0,us,a0,vs',A0,rfl,ha,t0,r,mu,h⟩;refine⟨_,(eX f bx A outer s0 H E hr).un,?_⟩;have l:(u0::us).length=ps.length:=by
   unfold uG at h;by_cases c:(u0::us).length=ps.length
   ·exact c
   ·rw[hZ c] at h;exact h.elim
  unfold uG at h;rw[h9 l] at h
  let Z:Pkg:=⟨A0,λb=>if b=a0 then none else H b,a0⟩
  have zb:∀b o,b≠a0->H b=some o->Z.B b=some o:=λb o nb z=>by
   show (if b=a0 then none else H b)=some o;rw[hZ nb];exact z
  have rel:bW K G Z A0 (b7 N.length (u0::us)) (fg N (.ref a0::vs')) H:={
   slot:=λi u hu=>by
    have hu:=iu hu;cases i with
    |zero=>
     simp at hu;subst hu;refine⟨.ref a0,gQ (by simp),?_⟩;rw[h9 h0];exact⟨a0,rfl,ha,by show (if a0=a0 then none else H a0)=none;rw[h9 rfl],.inr ⟨zG,rfl⟩,t0⟩
    |succ i=>
     have hl:=(R8.mp hu).1;rw[T2] at hu;obtain⟨v,h1,h2⟩:=r.get hu;refine⟨v,gQ (by rw[T2];exact h1),?_⟩;rw[hZ (by rw[jt (i+1) (by rw[←l];exact hl) (by lia)];exact R0)];exact h2
   dis:=λi j u w a ci cj ne hi hj si sj=>by
    have hi:=(R8.mp (iu hi)).1;have hj:=(R8.mp (iu hj)).1;by_cases e:i=0
    ·rw[jt j (by rw[←l];exact hj) (by lia)] at cj;cases cj
    ·rw[jt i (by rw[←l];exact hi) e] at ci;cases ci
   mu:=mu
   sup:=λa h=>h
   out:=λa h=>.inl h
   bas:=λa o h=>by
    by_cases c:a=a0
    ·have h:(if a=a0 then none else H a)=some o:=h;rw[h9 c] at h;cases h
    ·have h:(if a=a0 then none else H a)=some o:=h;rw[hZ c] at h;exact h
   io0:=λ_=>⟨gQ (vs:=.ref a0::vs') (i:=0) (v:=.ref a0) rfl,h0⟩
   len:=sV (by rw[Sj,Sj,r.length])}
  have fin:∀(A':Sr->Prop) (ρ':Ev) (σ':St) (H':Hp) (w:U),bW K G Z A' ρ' σ' H'->ρ'[0]? = some (some w)->(∀b o,b≠a0->H b=some o->H' b=some o)/\i6 K H' A0 w a0:=λA' ρ' σ' H' w q hw=>by
   obtain⟨a,e1,e2,e3,e4,e5⟩:=q.own h0 hw;rw[(q.io0 zG).1] at e1;cases e1;exact⟨λb o nb z=>q.bas b o (zb b o nb z),e5.mono q.sup⟩
  refine⟨Z,A0,_,rel,?_⟩;unfold wY at h;cases e:s (b7 N.length (u0::us)) with
  |nx ρ'=>
   rw[e] at h;dsimp only at h;intro A' σ' H' q;split at h
   ·rename_i hm;split at hm
    ·rename_i w hw;cases hm;obtain⟨z1,z2⟩:=fin A' ρ' σ' H' _ q hw;exact h _ H' z1 z2 sL
    ·cases hm
   ·exact h.elim
  |rt u ρ'=>
   rw[e] at h;dsimp only at h;intro A' σ' H' v q vm;split at h
   ·rename_i hm;split at hm
    ·rename_i w hw;cases hm;obtain⟨z1,z2⟩:=fin A' ρ' σ' H' _ q hw;exact h _ H' z1 z2 vm
    ·cases hm
   ·exact h.elim
  |bk=>rw[e] at h;exact h.elim
  |ct=>rw[e] at h;exact h.elim
  |exc=>rw[e] at h;exact h.elim
  |stk=>rw[e] at h;exact h.elim
end
section
variable {e e2:T6}{p1:Pos}{y:Str}{b1 b2:Bool}{m m1 m2:Md}{g1 g2:Ev->R (U×Ev)}
noncomputable def ym (i:Nat)(gv gk:Ev->R (U×Ev)):Ev->SR:=λρ=>SR.of (gv ρ) λx=>if BQ x.2 i=true then SR.of (gk x.2) λy=>match y.1 with
 | .int k=>match y.2[i]? with
  |some (some (.lst us))=>match AS us.length k with
   |some j=>.nx (y.2.set i (some (.lst (us.set j x.1))))
   |none=>.stk
  |_=>.stk
 |_=>.stk
 else .stk
theorem yn (he:DE X G e b1 m1 g1)(hk:DE X G e2 b2 m2 g2)(hn:m1≠.P:=by decide)(hN:X.N[i]? = some y:=by rfl)(hv:AR X.env.scope y:=by first|exact Or.inl rfl|exact Or.inr (Or.inl rfl)|exact Or.inr (Or.inr rfl))(c:G.is i=true:=by rfl)(hd:(y==("__debug__":Str))=false:=by decide)(kr:(y==("__classdict__":Str))=false:=by decide)(ha:∀v,assign (.Subscript (.Name y p1) e2 p2) X.env v=(do
   let ov ←holding [v] (VP (.Name y p1) X.env)
   let iv ←holding [v,ov] (VP e2 X.env)
   standAt p2
   holding [v,ov,iv] (setItem ov iv v)
   release [v,ov,iv] []):=by intro _;rfl)(hs:swapsWithSole [.Subscript (.Name y p1) e2 p2] e pos.line X.env=pure false:=by rfl)(hw:swappedStores [.Subscript (.Name y p1) e2 p2] e X.env=pure none:=by rfl)(h1:(T4 [.Subscript (.Name y p1) e2 p2] X.env).map (·.2)=[assign (.Subscript (.Name y p1) e2 p2) X.env]:=by rfl):DS X G m (.Assign [.Subscript (.Name y p1) e2 p2] e pos) (ym i g1 g2):=⟨(A9 he.un (IK (gz hN hv hd kr) hk.un Bm ha) hs hw h1).to λD σ H h00=>by
 obtain⟨Z,A,ρ,q,f⟩:=h00;obtain⟨⟨u,ρ1⟩,e1,f⟩:=f.of;refine⟨Z,A,ρ,q,?_⟩;rw[e1];intro v H1 q1 x1 s1 vm;dsimp only at f;split at f
 ·rename_i hl;obtain⟨u00,hu0⟩:=sN hl;obtain⟨a0,h0,_⟩:=q1.own c hu0;obtain⟨⟨k,ρ2⟩,e2,f⟩:=f.of;refine⟨.ref a0,h0,Z,A,ρ1,q1,?_⟩;rw[e2];intro v2 H2 q2 x2 s2 se;dsimp only at f;cases k with
  |int kk=>
   dsimp only at f;split at f
   ·rename_i us hu;split at f
    ·rename_i j hj;obtain⟨a0',k1,k2,_,_,k5⟩:=q2.own c hu;rw[h0] at k1;cases k1;obtain⟨xs,t1,t2,t3⟩:=k5;refine⟨a0,xs,kk,j,rfl,se.pk.int,t1,by rw[←t3.length];exact hj,?_⟩;have em:∀b o,b≠a0->H2 b=some o->cu H2 a0 (.lst (xs.set j v)) b=some o:=λb o nb z=>by rw[aL nb];exact z
     have ex:dQ A H2 (cu H2 a0 (.lst (xs.set j v))):=λb o nb z=>em b o (λy=>nb (y▸k2)) z;refine f A σ _ (q2.put c hu h0 em ⟨xs.set j v,bo,by rw[Tu];exact t2,?_⟩);exact (t3.re q2.mu ex λb z=>.inl z).set j (((vm.rp hn).re q1.mu x2 λb z=>.inl z).re q2.mu ex λb z=>.inl z)
    ·exact f.elim
   ·exact f.elim
  |_=>exact f.elim
 ·exact f.elim⟩
noncomputable def OF (i:Nat)(p:U->U->R U)(g:Ev->R (U×Ev)):Ev->SR:=λρ=>match ρ[i]? with
 |some (some u)=>SR.of (g ρ) λy=>SR.of (p u y.1) λz=>.nx (y.2.set i (some z))
 |_=>.stk
end
end L2
namespace L2
def BZ:R2:=λx y H Q=>∃l b xs zs,x=.ref l/\y=.ref b/\H l=some (.lst xs)/\H b=some (.lst zs)/\xs.length+zs.length<=R3/\∀p,H p=none->Q (.ref p) (cu H p (.lst (xs++zs)))
theorem Fm:ig X (U7 .Add) BZ:=by
 intro pins s σ H x y v u Q I rx ry h;obtain⟨l,b,xs,zs,rfl,rfl,hH,hB,hz,q⟩:=h;cases rx;cases ry;obtain⟨z,ax,n,r,hl,e⟩:=I.lstM hH;obtain⟨z2,its2,n2,r2,A5,e2⟩:=I.lstM hB;refine PySem.P.add_list e e2 ?_ (by rw[R7,R7];lia);have ea:ax.toArray++its2.toArray=(ax++its2).toArray:=by simp
 rw[ea];exact⟨.ref _,_,I.lnew (t':=s.toks) (r.append r2) (by rw[Se];lia),rfl,q _ I.fresh⟩
noncomputable def cv:U->U->R U:=λu w=>match u,w with
 | .int i,.int j=>.ok (.int (i+j))
 | .tup a,.tup b=>if a.length+b.length<=R3 then .ok (.tup (a++b)) else .stk
 | .lst a,.lst b=>if a.length+b.length<=R3 then .ok (.lst (a++b)) else .stk
 |_,_=>.stk
noncomputable def JH:U->U->R U:=λu w=>match u,w with
 | .lst a,.lst b=>if a.length+b.length<=R3 then .ok (.lst (a++b)) else .stk
 |_,_=>.stk
def GW:R2:=λx y H Q=>(wC λi j=>.int (i+j)) x y H Q\/BG x y H Q\/BZ x y H Q
theorem bP:ig X (U7 .Add) GW:=IS.or (BH.or Fm)
theorem Fo:dq K BZ .O JH:=λA H x y u w z Q hx hy mu e q=>by
 unfold JH at e;split at e
 ·split at e
  ·rename_i hl;cases e;unfold Pk at hx hy;obtain⟨a,xs,rfl,h1,l1,r1⟩:=hx;obtain⟨b,ys,rfl,h2,l2,r2⟩:=hy;exact⟨a,b,xs,ys,rfl,rfl,h1,h2,by rw[←r1.length,←r2.length];exact hl,λp hp=>q _ _ (b_ hp _) ⟨p,rfl,hp,bF mu (r1.append r2) hp (by rw[Se];exact hl)⟩⟩
  ·cases e
 ·cases e
theorem bQ:dq K GW .S cv:=λA H x y u w z Q hx hy mu e q=>by
 unfold cv at e;split at e
 ·cases e;exact .inl ⟨_,_,hx.int,hy.int,q _ H (aJ.refl _) (show Rp K H A _ _ from dG)⟩
 ·split at e
  ·rename_i hl;cases e;unfold Pk at hx hy;obtain⟨a,xs,rfl,h1,l1,r1⟩:=hx;obtain⟨b,ys,rfl,h2,l2,r2⟩:=hy;refine .inr (.inl ⟨a,b,xs,ys,rfl,rfl,h1,h2,by rw[←r1.length,←r2.length];exact hl,λr H' sm hr=>q _ H' sm (show Rp K H' A _ _ from ?_)⟩);unfold Rp;exact⟨r,_,rfl,hr,by rw[Se];exact hl,(r1.append r2).same sm⟩
  ·cases e
 ·refine .inr (.inr (Fo A H x y _ _ z Q hx hy mu (show JH (.lst _) (.lst _)=_ from e) λv H' sm vm=>q v H' sm ?_));obtain⟨a,rfl,na,t⟩:=vm;exact t.rp (λb h=>.inl h) λh=>by have:=mu a h;rw[na] at this;exact this
 ·cases e
noncomputable def pI (c:Int->Int->Bool)(f:Int->Int->Int):U->U->R U:=λu w=>match u,w with
 | .int i,.int j=>if c i j=true then .ok (.int (f i j)) else .stk
 |_,_=>.stk
theorem yo {C:Int->Int->Prop}{c:Int->Int->Bool}{f:Int->Int->Int}(h:∀i j,c i j=true->C i j):dq K (rI C λi j=>.int (f i j)) .S (pI c f):=λA H x y u w z Q hx hy mu e q=>by
 unfold pI at e;split at e
 ·rename_i i j;split at e
  ·rename_i hc;cases e;exact⟨i,j,hx.int,hy.int,h i j hc,q _ H (aJ.refl _) (show Rp K H A _ _ from dG)⟩
  ·cases e
 ·cases e
noncomputable def z9:U->U->R U:=λu w=>match u,w with
 | .int i,.int j=>.ok (.int (i-j))
 |_,_=>.stk
theorem yp:dq K (wC λi j=>.int (i-j)) .S z9:=λA H x y u w z Q hx hy mu e q=>by
 unfold z9 at e;split at e
 ·cases e;exact⟨_,_,hx.int,hy.int,q _ H (aJ.refl _) (show Rp K H A _ _ from dG)⟩
 ·cases e
noncomputable def iW (i j:Int):Bool:=(decide (-(2 ^ 64)<i)&&decide (i<2 ^ 64))||(decide (-(2 ^ 64)<j)&&decide (j<2 ^ 64))
noncomputable def fm:U->U->R U:=pI iW (·*·)
theorem cY:dq K (rI EH λi j=>.int (i*j)) .S fm:=yo λi j h=>by
 unfold iW at h;simp only[UG,Sa,decide_eq_true_eq] at h;exact h
noncomputable def sW (_ j:Int):Bool:=decide (0<j)&&decide (j<18446744073709551616)
noncomputable def gq:U->U->R U:=pI sW (· / ·)
theorem eS:dq K (rI BB λi j=>.int (i / j)) .S gq:=yo λi j h=>by
 unfold sW at h;simp only[Sa,decide_eq_true_eq] at h;exact h
noncomputable def qE:U->U->R U:=pI (λ_ j=>decide (0<j)) (· % ·)
theorem iw:dq K (rI (λ_ j=>0<j) λi j=>.int (i % j)) .S qE:=yo λi j h=>of_decide_eq_true h
noncomputable def Fp (i j:Int):Bool:=decide (0<=j)&&decide (j<=1000000)&&decide (i.natAbs<2 ^ 64)
noncomputable def Fq:U->U->R U:=pI Fp λi j=>i ^ j.toNat
theorem yq:dq K (rI Li λi j=>.int (i ^ j.toNat)) .S Fq:=yo λi j h=>by
 unfold Fp at h;simp only[Sa,decide_eq_true_eq] at h;exact⟨h.1.1,h.1.2,h.2⟩
noncomputable def Fs:U->R U:=λu=>match u with
 | .int i=>.ok (.int (-i))
 |_=>.stk
theorem Ft:Jv K (rU λi=>.int (-i)) .S Fs:=λA H x u z Q hx mu e q=>by
 unfold Fs at e;split at e
 ·cases e;exact⟨_,hx.int,q _ H (aJ.refl _) (show Rp K H A _ _ from dG)⟩
 ·cases e
noncomputable def pC (f:Int->Int->Bool):U->U->R U:=λu w=>match u,w with
 | .int i,.int j=>.ok (.bl (f i j))
 |_,_=>.stk
theorem yr {f:Int->Int->Bool}:dq K (wC λi j=>.bl (f i j)) .S (pC f):=λA H x y u w z Q hx hy mu e q=>by
 unfold pC at e;split at e
 ·cases e;exact⟨_,_,hx.int,hy.int,q _ H (aJ.refl _) (show Rp K H A _ _ from eh)⟩
 ·cases e
noncomputable def LS:U->U->R U:=pC λi j=>decide (i<j)
noncomputable def NO:U->U->R U:=pC λi j=>decide (i<=j)
noncomputable def OG:U->U->R U:=pC λi j=>decide (j<i)
noncomputable def OH:U->U->R U:=pC λi j=>decide (j<=i)
mutual
noncomputable def jT:U->Option D
 | .non=>some .non
 | .bl b=>some (.bl b)
 | .int i=>some (.int i)
 | .str x=>some (.str x)
 | .tup us=>(i_ us).map .tup
 | .lst us=>(i_ us).map .lst
 | .dct _ _=>none
 | .scr _=>none
 | .obj _ _=>none
noncomputable def i_:List U->Option (List D)
 | []=>some []
 |u::us=>(jT u).bind λd=>(i_ us).map λds=>d::ds
end
mutual
theorem wZ {H:Hp}{A:Sr->Prop}:∀{u:U} {v:V} {d:D},Rp K H A u v->jT u=some d->eg K H d v
 | .non,v,d,h,e=>by unfold jT at e;cases e;unfold Rp at h;unfold eg;exact h
 | .bl b,v,d,h,e=>by unfold jT at e;cases e;unfold Rp at h;unfold eg;exact h
 | .int b,v,d,h,e=>by unfold jT at e;cases e;unfold Rp at h;unfold eg;exact h
 | .str b,v,d,h,e=>by unfold jT at e;cases e;unfold Rp at h;unfold eg;exact h
 | .tup us,v,d,h,e=>by
  unfold jT at e;cases e2:i_ us with
  |none=>rw[e2] at e;cases e
  |some ds=>
   rw[e2] at e;cases e;unfold Rp at h;unfold eg;obtain⟨a,xs,r,q,l,z⟩:=h;exact⟨a,xs,r,fF.of q,nS z e2⟩
 | .lst us,v,d,h,e=>by
  unfold jT at e;cases e2:i_ us with
  |none=>rw[e2] at e;cases e
  |some ds=>
   rw[e2] at e;cases e;unfold Rp at h;unfold eg;obtain⟨a,xs,r,_,q,l,z⟩:=h;exact⟨a,xs,r,eN.of q,nS z e2⟩
 | .dct _ _,v,d,h,e=>by unfold jT at e;cases e
 | .scr _,v,d,h,e=>by unfold jT at e;cases e
 | .obj _ _,v,d,h,e=>by unfold jT at e;cases e
theorem nS {H:Hp}{A:Sr->Prop}:∀{us:List U} {vs:List V} {ds:List D},aC K H A us vs->i_ us=some ds->dj K H ds vs
 | [],vs,ds,h,e=>by unfold i_ at e;cases e;unfold aC at h;unfold dj;exact h
 |u::us,vs,ds,h,e=>by
  unfold i_ at e;cases e1:jT u with
  |none=>rw[e1] at e;cases e
  |some d=>
   cases e2:i_ us with
   |none=>rw[e1,e2] at e;cases e
   |some ds'=>
    rw[e1,e2] at e;cases e;unfold aC at h;unfold dj;obtain⟨x,r,q,p,z⟩:=h;exact⟨x,r,q,wZ p e1,nS z e2⟩
end
theorem B0 {d:D}(h:Pk K H A u v)(e:jT u=some d):eg K H d v:=by
 cases u with
 |lst us=>
  unfold jT at e;cases e2:i_ us with
  |none=>rw[e2] at e;cases e
  |some ds=>
   rw[e2] at e;cases e;unfold Pk at h;unfold eg;obtain⟨a,xs,r,q,l,z⟩:=h;exact⟨a,xs,r,eN.of q,nS z e2⟩
 |dct=>unfold jT at e;cases e
 |scr=>unfold jT at e;cases e
 |tup us=>exact wZ (A:=A) (by unfold Pk at h;unfold Rp;exact h) e
 |_=>exact wZ (A:=A) (by unfold Pk at h;unfold Rp;exact h) e
noncomputable def nA (u w:U):R Bool:=match jT u,jT w with
 |some d,some d'=>if dU d<=30 then .ok (jJ d d') else .stk
 |_,_=>.stk
noncomputable def B1 (f:Bool->Bool):U->U->R U:=λu w=>(nA u w).bind λb=>.ok (.bl (f b))
theorem oW {f:Bool->Bool}:dq K (Jk K f) .S (B1 f):=λA H x y u w z Q hx hy mu e q=>by
 unfold B1 nA at e;obtain⟨b,e1,e2⟩:=R.bind_ok e;split at e1
 ·rename_i d d' h1 h2;split at e1
  ·rename_i hd;cases e1;cases e2;exact⟨d,d',B0 hx h1,B0 hy h2,hd,q _ H (aJ.refl _) (show Rp K H A _ _ from eh)⟩
  ·cases e1
 ·cases e1
noncomputable def cO:U->Bool
 | .non=>true
 |_=>false
theorem uL (h:Pk K H A u v):decide (v=.non)=cO u:=by
 cases u<;>unfold Pk at h
 case non=>subst h;rfl
 case tup=>obtain⟨a,xs,rfl,_⟩:=h;rfl
 case lst=>obtain⟨a,xs,rfl,_⟩:=h;rfl
 case dct=>obtain⟨a,xs,rfl,_⟩:=h;rfl
 case scr=>obtain⟨a,xs,rfl,_⟩:=h;rfl
 case obj=>obtain⟨a,C,dx,xs,rfl,_⟩:=h;rfl
 all_goals (subst h;rfl)
noncomputable def nB (f:Bool->Bool):U->U->R U:=λu w=>match w with
 | .non=>.ok (.bl (f (cO u)))
 |_=>.stk
theorem jy:dq K (λx y H Q=>y=.non/\Q (.bl (decide (x=.non))) H) .S (nB id):=λA H x y u w z Q hx hy mu e q=>by
 unfold nB at e;split at e
 ·cases e;refine⟨by unfold Pk at hy;exact hy,q _ H (aJ.refl _) ?_⟩;rw[uL hx];exact (show Rp K H A _ _ from eh)
 ·cases e
theorem B2:dq K (λx y H Q=>y=.non/\Q (.bl (!decide (x=.non))) H) .S (nB not):=λA H x y u w z Q hx hy mu e q=>by
 unfold nB at e;split at e
 ·cases e;refine⟨by unfold Pk at hy;exact hy,q _ H (aJ.refl _) ?_⟩;rw[uL hx];exact (show Rp K H A _ _ from eh)
 ·cases e
noncomputable def w5 (f:Bool->Bool):U->U->R U:=λu w=>match u,w with
 | .bl a,.bl b=>.ok (.bl (f (decide (a=b))))
 |_,_=>.stk
theorem oX:ig X (TB .IsNot) (λx y H Q=>∃a b,x=.bl a/\y=.bl b/\Q (.bl (!decide (a=b))) H):=by
 intro pins s σ H x y v u Q I rx ry h;obtain⟨a,b,rfl,rfl,q⟩:=h;cases rx;cases ry;have e:TB .IsNot (.bool a) (.bool b)=pure (.bool (!decide (a=b))):=by cases a<;>cases b<;>rfl
 rw[e];exact RZ ⟨.bl _,H,I,rfl,q⟩
theorem oY:dq K (λx y H Q=>∃a b,x=.bl a/\y=.bl b/\Q (.bl (!decide (a=b))) H) .S (w5 not):=λA H x y u w z Q hx hy mu e q=>by
 unfold w5 at e;split at e
 ·cases e;exact⟨_,_,hx.bl,hy.bl,q _ H (aJ.refl _) (show Rp K H A _ _ from eh)⟩
 ·cases e
theorem w6 {i:Int}{z:U}(r:aC K H A us xs)(e:kF us i=some z):∃v,kF xs i=some v/\Rp K H A z v:=by
 unfold kF at e ⊢;rw[←r.length];cases h:AS us.length i with
 |none=>rw[h] at e;cases e
 |some j=>
  rw[h] at e;obtain⟨v,h1,h2⟩:=r.get (show us[j]? = some z from e);exact⟨v,h1,h2⟩
noncomputable def nC:U->U->R U:=λu w=>match u,w with
 | .lst us,.int i=>match kF us i with
  |some z=>.ok z
  |none=>.stk
 | .tup us,.int i=>match kF us i with
  |some z=>.ok z
  |none=>.stk
 | .scr us,.int i=>match kF us i with
  |some z=>.ok z
  |none=>.stk
 | .str x,.int i=>match kF x.cps.toList i with
  |some c=>if x.length<=R3 then .ok (.str ⟨#[c]⟩) else .stk
  |none=>.stk
 |_,_=>.stk
theorem dJ:dq K (Pw K) .S nC:=λA H x y u w z Q hx hy mu e q=>by
 unfold nC at e;split at e
 ·split at e
  ·rename_i z' hz;cases e;unfold Pk at hx;obtain⟨a,xs,rfl,h1,l1,r1⟩:=hx;obtain⟨v,h2,h3⟩:=w6 r1 hz;exact .inl ⟨a,xs,_,v,rfl,hy.int,eN.of h1,h2,q _ H (aJ.refl _) h3⟩
  ·cases e
 ·split at e
  ·rename_i z' hz;cases e;unfold Pk at hx;obtain⟨a,xs,rfl,h1,l1,r1⟩:=hx;obtain⟨v,h2,h3⟩:=w6 r1 hz;exact .inr (.inl ⟨a,xs,_,v,rfl,hy.int,fF.of h1,h2,q _ H (aJ.refl _) h3⟩)
  ·cases e
 ·split at e
  ·rename_i z' hz;cases e;unfold Pk at hx;obtain⟨a,xs,rfl,h1,l1,r1⟩:=hx;obtain⟨v,h2,h3⟩:=w6 r1 hz;exact .inl ⟨a,xs,_,v,rfl,hy.int,h1.sq,h2,q _ H (aJ.refl _) h3⟩
  ·cases e
 ·split at e
  ·rename_i z' hz;split at e
   ·rename_i hl;cases e;exact .inr (.inr ⟨_,_,z',hx.str,hy.int,hl,hz,q _ H (aJ.refl _) (show Rp K H A _ _ from Jr)⟩)
   ·cases e
  ·cases e
 ·cases e
noncomputable def iy {α:Type}(xs:List α)(lo hi:Option Int):List α:=(xs.drop (HT.sIx xs.length 0 lo)).take (HT.sIx xs.length xs.length hi-HT.sIx xs.length 0 lo)
theorem ja {α:Type}(xs:List α)(lo hi:Option Int):(iy xs lo hi).length<=xs.length:=by
 unfold iy;rw[SF,TN];lia
theorem sX (r:aC K H A us xs)(lo hi:Option Int):aC K H A (iy us lo hi) (oy xs lo hi):=by
 unfold iy oy;rw[←r.length];exact (r.drop _).take _
theorem eT:Bk X (λx lo hi H Q=>EU X.K x lo hi H Q\/BF X.K x lo hi H Q):=EV.or E3
noncomputable def mL:U->Option Int->Option Int->R U:=λu lo hi=>match u with
 | .lst us=>.ok (.lst (iy us lo hi))
 | .scr us=>.ok (.lst (iy us lo hi))
 | .tup us=>.ok (.tup (iy us lo hi))
 |_=>.stk
noncomputable def LU:U->Option Int->Option Int->R U:=λu lo hi=>match u with
 | .lst us=>.ok (.lst (iy us lo hi))
 | .scr us=>.ok (.lst (iy us lo hi))
 |_=>.stk
theorem yt:BS K (EU K) .O LU:=λA H x u lo hi z Q hx mu e q=>by
 unfold LU at e;split at e
 ·cases e;unfold Pk at hx;obtain⟨a,xs,rfl,h1,l1,r1⟩:=hx;exact⟨a,xs,rfl,eN.of h1,λp hp=>q _ _ (b_ hp _) ⟨p,rfl,hp,bF mu (sX r1 lo hi) hp (Sz (ja _ _ _) l1)⟩⟩
 ·cases e;unfold Pk at hx;obtain⟨a,xs,rfl,h1,l1,r1⟩:=hx;exact⟨a,xs,rfl,h1.sq,λp hp=>q _ _ (b_ hp _) ⟨p,rfl,hp,bF mu (sX r1 lo hi) hp (Sz (ja _ _ _) l1)⟩⟩
 ·cases e
theorem GX (mu:∀a,A a->Mu (H a))(vm:z5 K .O A H H' u v):Rp K H' A u v:=by
 obtain⟨a,rfl,na,t⟩:=vm;exact t.rp (λb h=>.inl h) λh=>by have:=mu a h;rw[na] at this;exact this
theorem jb:BS K (λx lo hi H Q=>EU K x lo hi H Q\/BF K x lo hi H Q) .S mL:=λA H x u lo hi z Q hx mu e q=>by
 unfold mL at e;split at e
 ·cases e;exact .inl (yt A H x _ lo hi _ Q hx mu rfl λv H' sm vm=>q v H' sm (GX mu vm))
 ·cases e;exact .inl (yt A H x _ lo hi _ Q hx mu rfl λv H' sm vm=>q v H' sm (GX mu vm))
 ·cases e;unfold Pk at hx;obtain⟨a,xs,rfl,h1,l1,r1⟩:=hx;refine .inr ⟨a,xs,rfl,h1,λr H' sm hr=>q _ H' sm (show Rp K H' A _ _ from ?_)⟩;unfold Rp;exact⟨r,_,rfl,hr,Sz (ja _ _ _) l1,(sX r1 lo hi).same sm⟩
 ·cases e
end L2
namespace L2
section
theorem wR.one (h:wR K H A [u] vs):∃v,vs=[v]/\Pk K H A u v:=by
 unfold wR at h;obtain⟨x,r,rfl,p,q⟩:=h;unfold wR at q;subst q;exact⟨x,rfl,p⟩
theorem wR.two {w:U}(h:wR K H A [u,w] vs):∃v v',vs=[v,v']/\Pk K H A u v/\Pk K H A w v':=by
 unfold wR at h;obtain⟨x,r,rfl,p,q⟩:=h;obtain⟨v,rfl,q'⟩:=wR.one q;exact⟨x,v,rfl,p,q'⟩
noncomputable def l8:List U->R U:=λus=>match us with
 | [.lst xs]=>.ok (.int xs.length)
 | [.tup xs]=>.ok (.int xs.length)
 | [.scr xs]=>.ok (.int xs.length)
 | [.str x]=>if x.length<=R3 then .ok (.int x.length) else .stk
 |_=>.stk
theorem kW:l6 K (λxs H Q=>∃x n,xs=[x]/\Lm K x H n/\Q (.int n) H) .S l8:=λA H vs us z Q h mu e q=>by
 unfold l8 at e;split at e
 ·rename_i xs;cases e;obtain⟨v,rfl,p⟩:=h.one;unfold Pk at p;obtain⟨a,ys,rfl,h1,l1,r1⟩:=p;exact⟨_,xs.length,rfl,.inl ⟨ys,eN.of h1,r1.length⟩,q _ H (aJ.refl _) (show Rp K H A _ _ from dG)⟩
 ·rename_i xs;cases e;obtain⟨v,rfl,p⟩:=h.one;unfold Pk at p;obtain⟨a,ys,rfl,h1,l1,r1⟩:=p;exact⟨_,xs.length,rfl,.inr ⟨ys,fF.of h1,r1.length⟩,q _ H (aJ.refl _) (show Rp K H A _ _ from dG)⟩
 ·rename_i xs;cases e;obtain⟨v,rfl,p⟩:=h.one;unfold Pk at p;obtain⟨a,ys,rfl,h1,l1,r1⟩:=p;exact⟨_,xs.length,rfl,.inl ⟨ys,h1.sq,r1.length⟩,q _ H (aJ.refl _) (show Rp K H A _ _ from dG)⟩
 ·rename_i x;split at e
  ·rename_i hl;cases e;obtain⟨v,rfl,p⟩:=h.one;have:=p.str;subst this;exact⟨_,x.length,rfl,⟨hl,rfl⟩,q _ H (aJ.refl _) (show Rp K H A _ _ from dG)⟩
  ·cases e
 ·cases e
noncomputable def oZ:List U->R U:=λus=>match us with
 | [.lst xs]=>.ok (.lst xs)
 | [.tup xs]=>.ok (.lst xs)
 |_=>.stk
theorem B3:l6 K (λxs H Q=>∃p ys,xs=[.ref p]/\(eN K H p ys\/fF K H p ys)/\∀l,H l=none->Q (.ref l) (cu H l (.lst ys))) .O oZ:=λA H vs us z Q h mu e q=>by
 unfold oZ at e;split at e
 ·rename_i xs;cases e;obtain⟨v,rfl,p⟩:=h.one;unfold Pk at p;obtain⟨a,ys,rfl,h1,l1,r1⟩:=p;exact⟨a,ys,rfl,.inl (eN.of h1),λl hl=>q _ _ (b_ hl _) ⟨l,rfl,hl,bF mu r1 hl l1⟩⟩
 ·rename_i xs;cases e;obtain⟨v,rfl,p⟩:=h.one;unfold Pk at p;obtain⟨a,ys,rfl,h1,l1,r1⟩:=p;exact⟨a,ys,rfl,.inr (fF.of h1),λl hl=>q _ _ (b_ hl _) ⟨l,rfl,hl,bF mu r1 hl l1⟩⟩
 ·cases e
noncomputable def e_:List U->R U:=λus=>match us with
 | [.lst xs]=>.ok (.tup xs)
 | [.tup xs]=>.ok (.tup xs)
 |_=>.stk
theorem cZ:l6 K (λxs H Q=>∃p ys,xs=[.ref p]/\((eN K H p ys/\∀l,H l=none->Q (.ref l) (cu H l (.tup ys)))\/(fF K H p ys/\Q (.ref p) H))) .S e_:=λA H vs us z Q h mu e q=>by
 unfold e_ at e;split at e
 ·rename_i xs;cases e;obtain⟨v,rfl,p⟩:=h.one;unfold Pk at p;obtain⟨a,ys,rfl,h1,l1,r1⟩:=p;exact⟨a,ys,rfl,.inl ⟨eN.of h1,λl hl=>q _ _ (b_ hl _) (l5 r1 hl l1)⟩⟩
 ·rename_i xs;cases e;obtain⟨v,rfl,p⟩:=h.one;have p':=p;unfold Pk at p;obtain⟨a,ys,rfl,h1,l1,r1⟩:=p;refine⟨a,ys,rfl,.inr ⟨fF.of h1,q _ H (aJ.refl _) (show Rp K H A _ _ from ?_)⟩⟩;unfold Rp;unfold Pk at p';exact p'
 ·cases e
noncomputable def z_:List U->R U:=λus=>match us with
 | [.int i]=>.ok (.int (if i<0 then -i else i))
 |_=>.stk
theorem yu:l6 K (λxs H Q=>∃i,xs=[.int i]/\Q (.int (if i<0 then -i else i)) H) .S z_:=λA H vs us z Q h mu e q=>by
 unfold z_ at e;split at e
 ·cases e;obtain⟨v,rfl,p⟩:=h.one;exact⟨_,by rw[p.int],q _ H (aJ.refl _) (show Rp K H A _ _ from dG)⟩
 ·cases e
noncomputable def yv:List U->R U:=λus=>match us with
 | [.int i,.int j]=>.ok (.int (if j>i then j else i))
 |_=>.stk
theorem B4:l6 K (λxs H Q=>∃i j,xs=[.int i,.int j]/\Q (.int (if j>i then j else i)) H) .S yv:=λA H vs us z Q h mu e q=>by
 unfold yv at e;split at e
 ·cases e;obtain⟨v,w,rfl,p,p'⟩:=h.two;exact⟨_,_,by rw[p.int,p'.int],q _ H (aJ.refl _) (show Rp K H A _ _ from dG)⟩
 ·cases e
noncomputable def uM:List U->R U:=λus=>match us with
 | [.int i,.int j]=>.ok (.int (if j<i then j else i))
 |_=>.stk
theorem uN:l6 K (λxs H Q=>∃i j,xs=[.int i,.int j]/\Q (.int (if j<i then j else i)) H) .S uM:=λA H vs us z Q h mu e q=>by
 unfold uM at e;split at e
 ·cases e;obtain⟨v,w,rfl,p,p'⟩:=h.two;exact⟨_,_,by rw[p.int,p'.int],q _ H (aJ.refl _) (show Rp K H A _ _ from dG)⟩
 ·cases e
noncomputable def cP:List U->Option (List Int)
 | []=>some []
 | .int i::us=>(cP us).map (i::·)
 |_::_=>none
noncomputable def jc:List U->Option (List Bool)
 | []=>some []
 | .bl i::us=>(jc us).map (i::·)
 |_::_=>none
theorem iz:∀{us:List U} {ns:List Int},cP us=some ns->us=ns.map .int
 | [],ns,h=>by unfold cP at h;cases h;rfl
 |u::us,ns,h=>by
  cases u<;>unfold cP at h<;>try cases h
  rename_i i;cases e:cP us with
  |none=>rw[e] at h;cases h
  |some ms=>rw[e] at h;cases h;rw[iz e];rfl
theorem B5 (ns:List Int):cP (ns.map .int)=some ns:=by
 induction ns with
 |nil=>rfl
 |cons n ns ih=>rw[RY];unfold cP;rw[ih];rfl
theorem uO:∀{us:List U} {ns:List Bool},jc us=some ns->us=ns.map .bl
 | [],ns,h=>by unfold jc at h;cases h;rfl
 |u::us,ns,h=>by
  cases u<;>unfold jc at h<;>try cases h
  rename_i i;cases e:jc us with
  |none=>rw[e] at h;cases h
  |some ms=>rw[e] at h;cases h;rw[uO e];rfl
theorem Aa (ns:List Bool):jc (ns.map .bl)=some ns:=by
 induction ns with
 |nil=>rfl
 |cons n ns ih=>rw[RY];unfold jc;rw[ih];rfl
theorem aC.toI {H:Hp}{A:Sr->Prop}:∀{ns:List Int} {vs:List V},aC K H A (ns.map .int) vs->vs=ns.map V.int
 | [],vs,h=>by rw[Tb] at h;unfold aC at h;exact h
 |n::ns,vs,h=>by
  rw[RY] at h;unfold aC at h;obtain⟨x,r,rfl,p,q⟩:=h;unfold Rp at p;rw[p,aC.toI q];rfl
theorem aC.toB {H:Hp}{A:Sr->Prop}:∀{ns:List Bool} {vs:List V},aC K H A (ns.map .bl) vs->vs=ns.map V.bl
 | [],vs,h=>by rw[Tb] at h;unfold aC at h;exact h
 |n::ns,vs,h=>by
  rw[RY] at h;unfold aC at h;obtain⟨x,r,rfl,p,q⟩:=h;unfold Rp at p;rw[p,aC.toB q];rfl
theorem kX {H:Hp}{A:Sr->Prop}:∀(ns:List Int),aC K H A (ns.map .int) (ns.map V.int)
 | []=>aC.nil
 |n::ns=>aC.cons dG (kX ns)
noncomputable def uP:List U->R U:=λus=>match us with
 | [.lst xs]=>match jc xs with
  |some bs=>.ok (.bl (bs.all id))
  |none=>.stk
 |_=>.stk
theorem yw:l6 K (λxs H Q=>∃(p:Sr) (bs:List Bool),xs=[.ref p]/\eN K H p (bs.map V.bl)/\Q (.bl (bs.all id)) H) .S uP:=λA H vs us z Q h mu e q=>by
 unfold uP at e;split at e
 ·rename_i xs;split at e
  ·rename_i bs hb;cases e;obtain⟨v,rfl,p⟩:=h.one;unfold Pk at p;obtain⟨a,ys,rfl,h1,l1,r1⟩:=p;rw[uO hb] at r1;rw[r1.toB] at h1;exact⟨a,bs,rfl,eN.of h1,q _ H (aJ.refl _) (show Rp K H A _ _ from eh)⟩
  ·cases e
 ·cases e
noncomputable def Ab (x:Int):List Int->List Int
 | []=>[x]
 |y::r=>if y<x then y::Ab x r else x::y::r
noncomputable def mM (ns:List Int):List Int:=ns.foldr Ab []
theorem l9 (x:Int):∀l,(Ab x l).Perm (x::l)
 | []=>.refl _
 |y::r=>by
  unfold Ab;split
  ·exact ((l9 x r).cons y).trans (.swap x y r)
  ·exact .refl _
theorem iA:∀ns:List Int,(mM ns).Perm ns
 | []=>.refl _
 |x::l=>(l9 x _).trans ((iA l).cons x)
theorem yx (x:Int):∀{l:List Int},l.Pairwise (·<=·)->(Ab x l).Pairwise (·<=·)
 | [],_=>VJ _ _
 |y::r,h=>by
  obtain⟨h1,h2⟩:=T3.mp h;unfold Ab;split
  ·refine T3.mpr ⟨λz hz=>?_,yx x h2⟩;rcases Ss.mp ((l9 x r).mem_iff.mp hz) with rfl|hz
   ·lia
   ·exact h1 z hz
  ·refine T3.mpr ⟨λz hz=>?_,h⟩;rcases Ss.mp hz with rfl|hz
   ·lia
   ·have:=h1 z hz;lia
theorem o8:∀ns:List Int,(mM ns).Pairwise (·<=·)
 | []=>List.Pairwise.nil
 |x::l=>yx x (o8 l)
noncomputable def o9:List U->R U:=λus=>match us with
 | [.lst xs]=>match cP xs with
  |some ns=>if ns.length<64 then .ok (.lst ((mM ns).map .int)) else .stk
  |none=>.stk
 | [.tup xs]=>match cP xs with
  |some ns=>if ns.length<64 then .ok (.lst ((mM ns).map .int)) else .stk
  |none=>.stk
 |_=>.stk
theorem Ac:l6 K (λxs H Q=>∃(p:Sr) (ns:List Int),xs=[.ref p]/\(eN K H p (ns.map V.int)\/fF K H p (ns.map V.int))/\ns.length<64/\
  ∀(l:Sr) (r_:List Int),H l=none->r_.Perm ns->r_.Pairwise (·<=·)->Q (.ref l) (cu H l (.lst (r_.map V.int)))) .O o9:=λA H vs us z Q h mu e q=>by
 have fin:∀(ns:List Int),ns.length<64->z=.lst ((mM ns).map .int)->∀(l:Sr) (r_:List Int),H l=none->r_.Perm ns->r_.Pairwise (·<=·)->Q (.ref l) (cu H l (.lst (r_.map V.int))):=λns hl hz l r_ hn hp hw=>by
  have e:r_=mM ns:=PySem.W.ksm_same (hp.trans (iA ns).symm) hw (o8 ns);subst e hz;refine q _ _ (b_ hn _) ⟨l,rfl,hn,bF mu (kX _) hn ?_⟩;have:R3=16777216:=rfl;rw[RX,(iA ns).length_eq];lia
 unfold o9 at e;split at e
 ·rename_i xs;split at e
  ·rename_i ns hb;split at e
   ·rename_i hl;cases e;obtain⟨v,rfl,p⟩:=h.one;unfold Pk at p;obtain⟨a,ys,rfl,h1,l1,r1⟩:=p;rw[iz hb] at r1;rw[r1.toI] at h1;exact⟨a,ns,rfl,.inl (eN.of h1),hl,fin ns hl rfl⟩
   ·cases e
  ·cases e
 ·rename_i xs;split at e
  ·rename_i ns hb;split at e
   ·rename_i hl;cases e;obtain⟨v,rfl,p⟩:=h.one;unfold Pk at p;obtain⟨a,ys,rfl,h1,l1,r1⟩:=p;rw[iz hb] at r1;rw[r1.toI] at h1;exact⟨a,ns,rfl,.inr (fF.of h1),hl,fin ns hl rfl⟩
   ·cases e
  ·cases e
 ·cases e
noncomputable def OI (ks:List U):String:=match ks with
 | .tup _::_=>"script"
 |_=>"dict"
noncomputable def KR:U->String
 | .non=>"NoneType"
 | .bl _=>"bool"
 | .int _=>"int"
 | .str _=>"str"
 | .tup _=>"tuple"
 | .lst _=>"list"
 | .dct ks _=>OI ks
 | .scr _=>"script"
 | .obj _ _=>"script"
theorem LV (h:Pk K H A u v)(hs:KR u≠"script"):wj K H v (KR u):=by
 cases u<;>unfold Pk at h
 case scr=>exact absurd rfl hs
 case obj=>exact absurd rfl hs
 case non=>subst h;exact .non
 case bl=>subst h;exact .bl _
 case int=>subst h;exact .int _
 case str=>subst h;exact .str _
 case tup=>obtain⟨a,xs,rfl,h1,_⟩:=h;exact .tup h1
 case lst=>
  obtain⟨a,xs,rfl,h1,_⟩:=h;exact .lst h1
 case dct=>
  obtain⟨a,xs,rfl,h1,_⟩:=h;rcases h1 with⟨k,h1,e,_⟩|⟨k,n,h1,e,_⟩
  ·have:OI (k.map λp=>kU p.1)="dict":=by
    cases k with
    |nil=>rfl
    |cons p k=>
     obtain⟨p1,p2⟩:=p;cases p1<;>rfl
   show wj K H _ (OI _);rw[e,this];exact .dK h1
  ·refine absurd e λe=>?_;cases k with
   |nil=>exact n rfl
   |cons p k=>rw[e] at hs;exact hs rfl
variable {e:T6}{p1:Pos}{b1:Bool}{m1:Md}{g1:Ev->R (U×Ev)}
noncomputable def rA (T:String)(g:Ev->R (U×Ev)):Ev->R (U×Ev):=λρ=>(g ρ).bind λx=>if KR x.1="script" then .stk else .ok (.bl (f9 (KR x.1) T),x.2)
theorem nU (hT:T∈["bool","int","str","list","tuple","dict"])(he:DE X G e b1 m1 g1)(zi:X.mg "isinstance"=none)(zt:X.mg x=none)(bt:S0 x=some (.type T))(hg:Gl X "isinstance":=by rfl)(ht:Gl X x:=by rfl)(hn:x≠"__name__":=by decide)(hd:(x==("__debug__":Str))=false:=by decide)(hs:Sq [e,.Name x p2] X.env=(false,VP e X.env)::Sq [.Name x p2] X.env:=by rfl)(xQ:Sq [.Name x p2] X.env=(false,VP (.Name x p2) X.env)::Sq [] X.env:=by rfl)(oe:(Ux pos (Sq [.Name x p2] X.env)).any (·.1)=false:=by rfl) :
  DE X G (.Call (.Name "isinstance" p1) [e,.Name x p2] [] pos) b1 .S (rA T g1):=⟨(ou (uB (m:=T) hT) hg zi qB (eK he.un (eK (Ex (v:=.ty T) ht zt bt rfl hn hd) j3 xQ) hs) (by decide) (by decide) hs oe).to λσ H Q h=>by
 obtain⟨Z,A,ρ,q,f⟩:=h;obtain⟨⟨u,ρ1⟩,e1,f⟩:=f.bind;refine⟨Z,A,ρ,q,?_⟩;rw[e1];intro v H1 q1 x1 s1 vm;dsimp only at f;split at f
 ·exact f.elim
 ·rename_i hn;exact⟨v,_,rfl,LV vm.pk hn,f _ H1 q1 x1 s1 (rk.ofS eh)⟩⟩
noncomputable def uQ (i j:Int):Bool:=decide (-1000000<=i)&&decide (i<=1000000)&&decide (-1000000<=j)&&decide (j<=1000000)
noncomputable def yy (g:Ev->R (List U×Ev)):Ev->R (U×Ev):=λρ=>(g ρ).bind λx=>match x.1 with
 | [.int j]=>if uQ 0 j=true then .ok (.lst (aG 0 (j-0).toNat),x.2) else .stk
 |_=>.stk
noncomputable def uR (g:Ev->R (List U×Ev)):Ev->R (U×Ev):=λρ=>(g ρ).bind λx=>match x.1 with
 | [.int j]=>if uQ 0 j=true then .ok (.tup (aG 0 (j-0).toNat),x.2) else .stk
 |_=>.stk
theorem rB (lo:Int)(n:Nat):aC K H A (aG lo n) ((SX n).map λi=>V.int (lo+(i:Nat))):=by
 unfold aG;have e1:(SX n).map (λi=>U.int (lo+(i:Nat)))=((SX n).map λi=>lo+(i:Nat)).map U.int:=by rw[Sg];rfl
 have e2:(SX n).map (λi=>V.int (lo+(i:Nat)))=((SX n).map λi=>lo+(i:Nat)).map V.int:=by rw[Sg];rfl
 rw[e1,e2];exact kX _
theorem a7 (lo:Int)(n:Nat):(aG lo n).length=n:=by unfold aG;rw[RX,Ti]
variable {ga:Ev->R (List U×Ev)}{a:T6}{p3 p4:Pos}
theorem yz (hc:X.calm=true)(ha:DA X G [a] b1 false ga)(zl:X.mg "list"=none)(zr:X.mg "range"=none)(hg:Gl X "list":=by rfl)(Ph:Gl X "range":=by rfl)
  (hs:Sq [.Call (.Name "range" p3) [a] [] p4] X.env=(false,VP (.Call (.Name "range" p3) [a] [] p4) X.env)::Sq [] X.env:=by rfl) (xQ:Sq [a] X.env=(false,VP a X.env)::Sq [] X.env:=by rfl)
  (oe:(Ux pos (Sq [] X.env)).any (·.1)=false:=by rfl) (Ej:(Ux p4 (Sq [] X.env)).any (·.1)=false:=by rfl):DE X G (.Call (.Name "list" p1) [.Call (.Name "range" p3) [a] [] p4] [] pos) b1 .O (yy ga):=⟨(gL (qA hc) hg zl yg (eK (gL mJ Ph zr uC ha.un (by decide) (by decide) xQ Ej) j3 hs) (by decide) (by decide) hs oe).to λσ H Q h=>by
 obtain⟨Z,A,ρ,q,f⟩:=h;obtain⟨⟨us,ρ1⟩,e1,f⟩:=f.bind;refine⟨Z,A,ρ,q,?_⟩;rw[e1];intro vs H1 q1 x1 s1 vm;dsimp only at f;split at f
 ·rename_i j;split at f
  ·rename_i hj;have r:=vm.rps;unfold aC at r;obtain⟨v,vr,rfl,r1,r2⟩:=r;unfold aC at r2;subst r2;unfold Rp at r1;subst r1;unfold uQ at hj;simp only[Sa,decide_eq_true_eq] at hj;refine⟨j,rfl,λp hp=>⟨p,0,j,rfl,bo,by lia,by lia,λl hl=>?_⟩⟩;have sp:=b_ hp (.rng 0 j);have sl:=b_ hl (.lst ((SX (j-0).toNat).map λi=>V.int (0+(i:Nat))));exact f _ _ ((q1.same sp).same sl) (x1.trans (dQ.same (sp.trans sl))) (j6 s1 (sp.trans sl)) (z5.e (q1.same sp) sl ⟨l,rfl,hl,bF (q1.same sp).mu (rB 0 _) hl (by rw[a7];have:R3=16777216:=rfl;lia)⟩)
  ·exact f.elim
 ·exact f.elim⟩
theorem yA (hc:X.calm=true)(ha:DA X G [a] b1 false ga)(zl:X.mg "tuple"=none)(zr:X.mg "range"=none)(hg:Gl X "tuple":=by rfl)(Ph:Gl X "range":=by rfl)
  (hs:Sq [.Call (.Name "range" p3) [a] [] p4] X.env=(false,VP (.Call (.Name "range" p3) [a] [] p4) X.env)::Sq [] X.env:=by rfl) (xQ:Sq [a] X.env=(false,VP a X.env)::Sq [] X.env:=by rfl)
  (oe:(Ux pos (Sq [] X.env)).any (·.1)=false:=by rfl) (Ej:(Ux p4 (Sq [] X.env)).any (·.1)=false:=by rfl):DE X G (.Call (.Name "tuple" p1) [.Call (.Name "range" p3) [a] [] p4] [] pos) b1 .S (uR ga):=⟨(gL (oD hc) hg zl cD (eK (gL mJ Ph zr uC ha.un (by decide) (by decide) xQ Ej) j3 hs) (by decide) (by decide) hs oe).to λσ H Q h=>by
 obtain⟨Z,A,ρ,q,f⟩:=h;obtain⟨⟨us,ρ1⟩,e1,f⟩:=f.bind;refine⟨Z,A,ρ,q,?_⟩;rw[e1];intro vs H1 q1 x1 s1 vm;dsimp only at f;split at f
 ·rename_i j;split at f
  ·rename_i hj;have r:=vm.rps;unfold aC at r;obtain⟨v,vr,rfl,r1,r2⟩:=r;unfold aC at r2;subst r2;unfold Rp at r1;subst r1;unfold uQ at hj;simp only[Sa,decide_eq_true_eq] at hj;refine⟨j,rfl,λp hp=>⟨p,0,j,rfl,bo,by lia,by lia,λl hl=>?_⟩⟩;have sp:=b_ hp (.rng 0 j);have sl:=b_ hl (.tup ((SX (j-0).toNat).map λi=>V.int (0+(i:Nat))));exact f _ _ ((q1.same sp).same sl) (x1.trans (dQ.same (sp.trans sl))) (j6 s1 (sp.trans sl)) (rk.ofS (l5 (rB 0 _) hl (by rw[a7];have:R3=16777216:=rfl;lia)))
  ·exact f.elim
 ·exact f.elim⟩
theorem jd {a:Sr}(o:HO):∀b u,b≠a->H b=some u->cu H a o b=some u:=λb u nb z=>by rw[aL nb];exact z
theorem sY {a:Sr}(mu:∀a,A a->Mu (H a))(ha:A a)(r:aC K H A us xs)(l:us.length<=R3):i6 K (cu H a (.lst xs)) A (.lst us) a:=
 ⟨xs,bo,l,r.re mu (λb o nb z=>jd _ b o (λy=>nb (y▸ha)) z) λb z=>.inl z⟩
def uS:V->List V->Hp->VK->Prop:=λx vs H Q=>∃l b xs zs,x=.ref l/\vs=[.ref b]/\H l=some (.lst xs)/\H b=some (.lst zs)/\xs.length+zs.length<=R3/\Q .non (cu H l (.lst (xs++zs)))
theorem w9:GP X "list.extend" uS:=by
 intro pins s σ H x vs v us Q I rx rv h;obtain⟨l,b,xs,zs,rfl,rfl,hH,hB,hz,q⟩:=h;cases rx;obtain⟨u,rfl,ru⟩:=rv.one;cases ru;obtain⟨z,ax,n,r,hl,e⟩:=I.lstM hH;obtain⟨z2,its2,n2,r2,A5,e2⟩:=I.lstM hB;have hsz:ax.toArray.size+its2.toArray.size<=R3:=by rw[R7,R7];lia
 have Eh:¬(!ax.toArray.isEmpty&&UE (ax.toArray.size+its2.toArray.size))=true:=by
  rw[oz hsz,Bool.and_false];exact R0
 refine call_meets F.slot_list_extend ⟨_,e,rfl⟩ F.entry_list_extend (F.args_list_extend_2 _ _)
  (PySem.AutoSeq1.list_extend_list_list_0 l ax.toArray n b its2.toArray n2 Eh (by rw[R7];lia) (by lia)) ⟨e,e2,?_⟩
 refine⟨.non,_,I.lset (its':=ax++its2) hH e (by simp) (r.append r2) ?_,rfl,q⟩;rw[Se];lia
def GY:V->List V->Hp->VK->Prop:=λx vs H Q=>uS x vs H Q\/uD x vs H Q
theorem sZ:GP X "list.extend" GY:=w9.or wO
noncomputable def fq:U->List U->R (U×U):=λu us=>match u,us with
 | .lst xs,[.lst ys]=>if xs.length+ys.length<=R3 then .ok (.non,.lst (xs++ys)) else .stk
 | .lst xs,[.tup ys]=>if xs.length+ys.length<=R3 then .ok (.non,.lst (xs++ys)) else .stk
 |_,_=>.stk
theorem j9:Ff K "list" GY fq:=λA H a u vs us z w Q t ha r mu e q=>by
 unfold fq at e;split at e
 ·rename_i xs ys;split at e
  ·rename_i hl;cases e;obtain⟨zs,h1,l1,r1⟩:=t;unfold aC at r;obtain⟨v,vr,rfl,p,r2⟩:=r;unfold aC at r2;subst r2;unfold Rp at p;obtain⟨b,ws,rfl,nb,h2,l2,r3⟩:=p;exact .inl ⟨a,b,zs,ws,rfl,rfl,h1,h2,by rw[←r1.length,←r3.length];exact hl,q _ _ (jd _) (sY mu ha (r1.append r3) (by rw[Se];exact hl)) sL⟩
  ·cases e
 ·rename_i xs ys;split at e
  ·rename_i hl;cases e;obtain⟨zs,h1,l1,r1⟩:=t;unfold aC at r;obtain⟨v,vr,rfl,p,r2⟩:=r;unfold aC at r2;subst r2;unfold Rp at p;obtain⟨b,ws,rfl,h2,l2,r3⟩:=p;exact .inr ⟨a,b,zs,ws,rfl,rfl,h1,h2,by rw[←r1.length,←r3.length];exact hl,q _ _ (jd _) (sY mu ha (r1.append r3) (by rw[Se];exact hl)) sL⟩
  ·cases e
 ·cases e
noncomputable def l_:U->List U->R (U×U):=λu us=>match u,us with
 | .lst xs,[.int i]=>if -9223372036854775808<=i/\i<9223372036854775808 then (match Xl i xs.length with
  |some k=>match xs[k]? with
   |some y=>.ok (y,.lst (xs.eraseIdx k))
   |none=>.stk
  |none=>.stk) else .stk
 |_,_=>.stk
theorem aC.erase {H:Hp}{A:Sr->Prop}:∀{us:List U} {vs:List V} (n:Nat),aC K H A us vs->aC K H A (us.eraseIdx n) (vs.eraseIdx n)
 | [],vs,n,h=>by unfold aC at h;subst h;exact aC.nil
 |u::us,vs,0,h=>by
  unfold aC at h;obtain⟨x,r,rfl,p,q⟩:=h;exact q
 |u::us,vs,n+1,h=>by
  unfold aC at h;obtain⟨x,r,rfl,p,q⟩:=h;exact aC.cons p (aC.erase n q)
theorem Ad:Ff K "list" Bn l_:=λA H a u vs us z w Q t ha r mu e q=>by
 unfold l_ at e;split at e
 ·rename_i xs i;split at e
  ·rename_i hi;split at e
   ·rename_i k hk;split at e
    ·rename_i y hy;cases e;obtain⟨zs,h1,l1,r1⟩:=t;unfold aC at r;obtain⟨v,vr,rfl,p,r2⟩:=r;unfold aC at r2;subst r2;unfold Rp at p;subst p;obtain⟨v,h2,h3⟩:=r1.get hy;exact⟨a,zs,i,k,v,rfl,rfl,h1,by have:=hi.1;lia,by have:=hi.2;lia,by rw[←r1.length];exact hk,h2,q _ _ (jd _) (sY mu ha (r1.erase k) (Sz (List.length_eraseIdx_le _ _) l1)) (h3.re mu (λb o nb z=>jd _ b o (λy=>nb (y▸ha)) z) λb z=>.inl z)⟩
    ·cases e
   ·cases e
  ·cases e
 ·cases e
end
end L2
namespace L2
section
variable {m:Md}
theorem w_:dq K (wC λi j=>.bl (decide (i<j))) .S LS:=yr
theorem B6:dq K (wC λi j=>.bl (decide (i<=j))) .S NO:=yr
theorem B7:dq K (wC λi j=>.bl (decide (j<i))) .S OG:=yr
theorem JI:dq K (wC λi j=>.bl (decide (j<=i))) .S OH:=yr
noncomputable def JJ:Ev->R (U×Ev):=λρ=>.ok (.dct [] [],ρ)
theorem gR:DE X G (.Dict [] [] pos) false .O JJ:=⟨Bs.to λσ H Q h=>by
 obtain⟨Z,A,ρ,q,f⟩:=h;intro a na;have sn:=b_ na (.dK []);exact f _ _ (q.same sn) (dQ.same sn) (λ_=>⟨rfl,sn⟩) (z5.e q sn ⟨a,rfl,na,[],.inl ⟨[],bo,rfl,rfl⟩,WG _,aC.nil⟩)⟩
end
end L2
namespace L2
def JK (H:Hp)(a:Sr)(y:V)(o:Option V):Prop:=EX H a y o\/∃es k b,fG H a es/\y=.ref b/\ui H k b/\o=iV es k
def NP (H:Hp)(a:Sr)(y v:V)(C:Hp->Prop):Prop:=(∃H',LB H a y v H'/\C H')\/∃es k b,fG H a es/\y=.ref b/\ui H k b/\es.length<=R3/\∀ep,C (cu H a (DN a ep (jL es k b v)))
def JL (H:Hp)(a:Sr):Prop:=Pz H a\/∃es,fG H a es
section
variable {d:V}{u r:R6}{o:Option V}{A:S2}
theorem B8 (I:ay X pins σ H s)(g:JK H a y o):s.TypeIs (.ref a) "dict":=by
 rcases g with g|⟨es,k,b,g,_⟩
 ·exact uy I g
 ·exact g.typeIs I
theorem LW (I:ay X pins σ H s)(d:JL H a):s.TypeIs (.ref a) "dict"/\(∀b,Value.ref a=.ref b->∃ob,s.heap.get? b=some ob/\ob.dict=none):=by
 rcases d with d|⟨es,d⟩
 ·obtain⟨x,y,_⟩:=Jg I d;exact⟨x,y⟩
 ·exact⟨d.typeIs I,d.noDict I⟩
theorem Ae (hu:A.units+64<Uu)(I:ay X pins σ H s)(g:JK H a y (some v))(ry:aM y u)(h:∀w' s',ay X pins σ H s'->aM v w'->Q w' s') :
  Sv (SN X.prog X.w) A (WD (.ref a) u) Q E s:=by
 rcases g with g|⟨es,k,b,g,rfl,kb,e⟩
 ·exact zU (by lia) I g ry h
 ·cases ry;exact zY hu I g kb e.symm h
theorem JM (hu:A.units+64<Uu)(I:ay X pins σ H s)(g:JK H a y o)(ry:aM y u)(rd:aM d r)(h:∀w' s',ay X pins σ H s'->aM (o.getD d) w'->Q w' s') :
  Sv (SN X.prog X.w) A (call (.builtin "dict.get") [.ref a,u,r]) Q E s:=by
 rcases g with g|⟨es,k,b,g,rfl,kb,e⟩
 ·exact Jh (by lia) I g ry rd h
 ·cases ry;subst e;exact Jq hu I g kb rd h
theorem Af {C:Hp->Prop}{Q:Unit->Sk->Prop}(hu:A.units+64<Uu)(I:ay X pins σ H s)(g:NP H a y v C)(ry:aM y u)(rv:aM v r)(h:∀H' s',C H'->ay X pins σ H' s'->Q () s') :
  Sv (SN X.prog X.w) A (setItem (.ref a) u r) Q E s:=by
 rcases g with⟨H',g,c⟩|⟨es,k,b,g,rfl,kb,hz,e⟩
 ·exact zV (by lia) I g ry rv λs'=>h H' s' c
 ·cases ry;exact zZ hu I g kb hz rv λep s'=>h _ s' (e ep)
end
def LX (td ty:TE):TE:=λσ H Q=>td σ H λx H1=>ty σ H1 λy H2=>∃a v,x=.ref a/\JK H2 a y (some v)/\Q v H2
def JN (td ty tx:TE):TE:=λσ H Q=>td σ H λx H1=>∃a,x=.ref a/\JL H1 a/\ty σ H1 λy H2=>tx σ H2 λz H3=>∃o,JK H3 a y o/\Q (o.getD z) H3
def LY (td ty tv:TE):TS:=λD σ H=>tv σ H λv H1=>td σ H1 λx H2=>ty σ H2 λy H3=>∃a,x=.ref a/\NP H3 a y v λH4=>D.nx σ H4
section
variable {o i e f value:T6}{uc cL cpos:Pos}{td ty tv tx:TE}
theorem Fu (hu:X.A.units+64<Uu)(ho:PE X o td)(hi:PE X i ty)(hs:Je i):PE X (.Subscript o i pos) (LX td ty):=by
 intro pins s σ H Q I h;refine EY PySem.F.slot_dict_getitem.lookup hs (cM (ho pins s σ H _ I h) λu s1 ⟨x,H1,I1,rx,q1⟩=>cM (hi pins s1 σ H1 _ I1 q1) λiv s2 ⟨y,H2,I2,ry,a,v,ex,g,q2⟩=>?_);subst ex;obtain rfl:u=Value.ref a:=rx;exact⟨B8 I2 g,Ae hu I2 g ry λw' s3 I3 xS=>⟨v,H2,I3,xS,q2⟩⟩
theorem B9 (hu:X.A.units+64<Uu)(ho:PE X o td)(he:PE X e ty)(hf:PE X f tx)(m:M2 X o "get" cL e f cpos):PE X (.Call (.Attribute o "get" cL) [e,f] [] cpos) (JN td ty tx):=by
 intro pins s σ H Q I h;refine V1 m.base m.few m.line UO U2 PySem.F.type_dict_get (cM (ho pins s σ H _ I h) λu s1 ⟨x,H1,I1,rx,a,ex,d,q1⟩=>?_);subst ex;obtain rfl:u=Value.ref a:=rx;obtain⟨t1,t2⟩:=LW I1 d;refine⟨t1,t2,?_⟩;rw[m.trees];refine Uw rfl (Wt (W0 (cM (he pins s1 σ H1 _ I1 q1) λiv s2 ⟨y,H2,I2,ry,q2⟩=>
  W0 (cM (hf pins s2 σ H2 _ I2 q2) λfv s3 ⟨z,H3,I3,rz,ov,g,q3⟩=>Calls.spliced_nil ?_))))
 exact JM hu I3 g ry rz λw' s4 I4 xS=>⟨_,H3,I4,xS,q3⟩
theorem Fv (hu:X.A.units+64<Uu)(ho:PE X o td)(hi:PE X i ty)(hv:PE X value tv)(hs:Wc value (some (.Subscript o i uc)) pos.line X.env=pure false) :
  PS X (.Assign [.Subscript o i uc] value pos) (LY td ty tv):=by
 intro pins s σ H D I h;refine wpAny_Assign_Subscript (cM (hv pins s σ H _ I h) λr s1 ⟨v,H1,I1,rv,q1⟩=>cM (ho pins s1 σ H1 _ I1 q1) λu s2 ⟨x,H2,I2,rx,q2⟩=>cM (hi pins s2 σ H2 _ I2 q2) λiv s3 ⟨y,H3,I3,ry,a,ex,g⟩=>?_) hs;subst ex;obtain rfl:u=Value.ref a:=rx;exact Af hu I3 g ry rv λH4 s4 q3 I4=>⟨σ,H4,I4,q3⟩
end
noncomputable def B_:U->Bool
 | .int _=>true
 | .str _=>true
 |_=>false
mutual
noncomputable def qF:U->Bool
 | .int _=>true
 | .tup us=>uT us
 |_=>false
noncomputable def uT:List U->Bool
 | []=>true
 |u::us=>qF u&&uT us
end
noncomputable def Fw:U->Bool
 | .tup us=>uT us&&decide (qD us<=6)
 |_=>false
noncomputable def Fx:U->Bool
 | .tup _=>true
 |_=>false
noncomputable def kY (ks:List U)(k:U):Bool:=(B_ k&&ks.all B_)||(Fw k&&ks.all Fx)
noncomputable def gc:List U->List U->U->Option U
 |k'::ks,u::us,k=>if k'=k then some u else gc ks us k
 |_,_,_=>none
noncomputable def fI (ks us:List U)(k v:U):List U:=if k∈ks then Vw (λk' u=>if k'=k then v else u) ks us else us++[v]
noncomputable def iS (ks:List U)(k:U):List U:=if k∈ks then ks else ks++[k]
mutual
theorem LZ:∀{u:U} {v:V},qF u=true->Rp K H A u v->KH H u v
 | .int i,v,_,h=>by unfold Rp at h;unfold KH;exact h
 | .tup us,v,k,h=>by
  unfold qF at k;unfold Rp at h;unfold KH;obtain⟨a,xs,r,q,l,z⟩:=h;exact⟨a,xs,r,q,l,xa k z⟩
 | .non,v,k,h=>by unfold qF at k;cases k
 | .bl _,v,k,h=>by unfold qF at k;cases k
 | .str _,v,k,h=>by unfold qF at k;cases k
 | .lst _,v,k,h=>by unfold qF at k;cases k
 | .dct _ _,v,k,h=>by unfold qF at k;cases k
 | .scr _,v,k,h=>by unfold qF at k;cases k
 | .obj _ _,v,k,h=>by unfold qF at k;cases k
theorem xa:∀{us:List U} {vs:List V},uT us=true->aC K H A us vs->oG H us vs
 | [],vs,_,h=>by unfold aC at h;unfold oG;exact h
 |u::us,vs,k,h=>by
  unfold uT at k;rw[Sa] at k;unfold aC at h;unfold oG;obtain⟨x,r,q,p,z⟩:=h;exact⟨x,r,q,LZ k.1 p,xa k.2 z⟩
end
theorem yB (k:Fw (.tup us)=true)(h:Rp K H A (.tup us) v):∃b,v=.ref b/\ui H us b:=by
 unfold Fw at k;rw[Sa] at k;unfold Rp at h;obtain⟨a,xs,r,q,l,z⟩:=h;exact⟨a,r,of_decide_eq_true k.2,xs,q,l,xa k.1 z⟩
theorem GZ (k:B_ u=true)(h:Rp K H A u v):∃q:Key,u=kU q/\v=kV q:=by
 cases u<;>first|(cases k;done)|skip
 ·unfold Rp at h;exact⟨.inl _,rfl,h⟩
 ·unfold Rp at h;exact⟨.inr _,rfl,h⟩
theorem xb {a b:Key}(h:kU a=kU b):a=b:=by
 cases a<;>cases b<;>unfold kU at h<;>first|(cases h;rfl)|cases h
theorem xc {k:Key}:∀{aP:List (Key×V)} {us:List U},aC K H A us (aP.map (·.2))->(∀u,gc (aP.map λp=>kU p.1) us (kU k)=some u->∃v,nv aP k=some v/\Rp K H A u v)/\(gc (aP.map λp=>kU p.1) us (kU k)=none->nv aP k=none)
 | [],us,r=>⟨(λu h=>by unfold gc at h;cases h),λ_=>rfl⟩
 |p::aP,us,r=>by
  cases us with
  |nil=>unfold aC at r;cases r
  |cons u us=>
   unfold aC at r;obtain⟨x,rr,e,h1,h2⟩:=r;cases e;rw[RY];unfold gc;by_cases c:p.1=k
   ·rw[h9 (by rw[c]),kH c];exact⟨λw h=>by cases h;exact⟨_,rfl,h1⟩,λh=>by cases h⟩
   ·rw[hZ (λz=>c (xb z)),kI c];exact xc h2
theorem s_ {k:List U}:∀{es:List (List U×Sr×V)} {us:List U},aC K H A us (es.map (·.2.2))->(∀u,gc (es.map λp=>.tup p.1) us (.tup k)=some u->∃v,iV es k=some v/\Rp K H A u v)/\(gc (es.map λp=>.tup p.1) us (.tup k)=none->iV es k=none)
 | [],us,r=>⟨(λu h=>by unfold gc at h;cases h),λ_=>rfl⟩
 |p::es,us,r=>by
  cases us with
  |nil=>unfold aC at r;cases r
  |cons u us=>
   unfold aC at r;obtain⟨x,rr,e,h1,h2⟩:=r;cases e;rw[RY];unfold gc iV;rw[TF];by_cases c:p.1=k
   ·rw[h9 (by rw[c]),hJ c];exact⟨λw h=>by cases h;exact⟨_,rfl,h1⟩,λh=>by cases h⟩
   ·rw[hZ (λz=>c (kN.mp z)),hV c];exact s_ h2
theorem Ca {k:U}(d:sJ H a ks xs)(r:aC K H A us xs)(f:kY ks k=true)(hk:Rp K H A k y) :
  ∃o,JK H a y o/\(∀u,gc ks us k=some u->∃v,o=some v/\Rp K H A u v)/\(gc ks us k=none->o=none):=by
 unfold kY at f;rw[UG,Sa,Sa] at f;rcases d with⟨aP,h,e1,e2⟩|⟨es,n,h,e1,e2⟩
 ·rcases f with⟨f1,f2⟩|⟨f1,f2⟩
  ·obtain⟨q,rfl,rfl⟩:=GZ f1 hk;subst e1 e2;exact⟨_,.inl (.inl ⟨aP,q,.inl h,rfl,rfl⟩),(xc r).1,(xc r).2⟩
  ·cases aP with
   |nil=>
    subst e1 e2;cases k<;>first|(cases f1;done)|skip
    rename_i kk;obtain⟨b,rfl,kt⟩:=yB f1 hk;exact⟨none,.inr ⟨[],kk,b,⟨.inr ⟨rfl,h⟩,V8,(λe he=>by cases he)⟩,rfl,kt,rfl⟩,(λu z=>by unfold gc at z;cases z),λ_=>rfl⟩
   |cons p aP=>
    exfalso;subst e1;rw[RY,Tx,Sa] at f2;obtain⟨p1,p2⟩:=p;cases p1<;>cases f2.1
 ·rcases f with⟨f1,f2⟩|⟨f1,f2⟩
  ·exfalso;subst e1;cases es with
   |nil=>exact n rfl
   |cons p es=>rw[RY,Tx,Sa] at f2;cases f2.1
  ·subst e1 e2;cases k<;>first|(cases f1;done)|skip
   rename_i kk;obtain⟨b,rfl,kt⟩:=yB f1 hk;exact⟨_,.inr ⟨es,kk,b,h,rfl,kt,rfl⟩,(s_ r).1,(s_ r).2⟩
end L2
namespace L2
theorem aC.snoc (h:aC K H A us vs)(p:Rp K H A u v):aC K H A (us++[u]) (vs++[v]):=h.append (aC.cons p aC.nil)
theorem L0 {k:Key}(aP:List (Key×V)):(aP.any λkv=>decide (kv.1=k))=decide (kU k∈aP.map λp=>kU p.1):=by
 rw[Tt,List.any_eq_true,decide_eq_true_eq,So];constructor
 ·rintro⟨p,h1,h2⟩;exact⟨p,h1,by rw[of_decide_eq_true h2]⟩
 ·rintro⟨p,h1,h2⟩;exact⟨p,h1,hJ (xb h2)⟩
theorem yC {k:Key}(aP:List (Key×V))(v:V):kG aP k v=if (aP.any λkv=>decide (kv.1=k))=true then aP.map (λkv=>if kv.1=k then (kv.1,v) else kv) else aP++[(k,v)]:=by
 unfold kG;rfl
theorem Ag {k:Key}(aP:List (Key×V))(v:V):(kG aP k v).map (λp=>kU p.1)=iS (aP.map λp=>kU p.1) (kU k):=by
 rw[yC,L0];unfold iS;by_cases c:kU k∈aP.map λp=>kU p.1
 ·rw[hJ c,h9 rfl,h9 c,Sg];refine Si λp _=>?_;show kU (if p.1=k then (p.1,v) else p).1=kU p.1;split<;>rfl
 ·rw[hV c,hZ R0,hZ c,Su];rfl
theorem Ah {k:Key}(p:Rp K H A u v){aP:List (Key×V)}(r:aC K H A us (aP.map (·.2))):aC K H A (fI (aP.map λp=>kU p.1) us (kU k) u) ((kG aP k v).map (·.2)):=by
 rw[yC,L0];unfold fI;by_cases c:kU k∈aP.map λp=>kU p.1
 ·rw[hJ c,h9 rfl,h9 c];clear c
  induction aP generalizing us with
  |nil=>
   rw[Tb] at r;unfold aC at r;cases us with
   |nil=>exact aC.nil
   |cons=>obtain⟨_,_,e,_⟩:=r;cases e
  |cons q aP ih=>
   cases us with
   |nil=>unfold aC at r;cases r
   |cons w us=>
    unfold aC at r;obtain⟨x,rr,e,h1,h2⟩:=r;cases e;rw[RY,RY,RY,UY];refine aC.cons ?_ (ih h2);by_cases c:q.1=k
    ·rw[h9 (by rw[c]),h9 c];exact p
    ·rw[hZ (λz=>c (xb z)),hZ c];exact h1
 ·rw[hV c,hZ R0,hZ c,Su];exact r.snoc p
theorem kZ {k:List U}:∀(es:List (List U×Sr×V)),(iV es k).isSome=decide (U.tup k∈es.map λp=>U.tup p.1)
 | []=>by simp[iV]
 |e::es=>by
  have ih:=kZ (k:=k) es;unfold iV at ih ⊢;rw[TF,RY];by_cases c:e.1=k
  ·rw[hJ c,hJ (by rw[c];exact Sd)];rfl
  ·rw[hV c];dsimp only;rw[ih,Tt,decide_eq_true_eq,decide_eq_true_eq,Ss];constructor
   ·exact .inr
   ·rintro (z|z)
    ·exact absurd (kN.mp z).symm c
    ·exact z
theorem Ai {k:List U}(es:List (List U×Sr×V))(v:V):(jL es k b v).map (λp=>U.tup p.1)=iS (es.map λp=>.tup p.1) (.tup k):=by
 unfold jL iS;rw[kZ];by_cases c:U.tup k∈es.map λp=>U.tup p.1
 ·rw[hJ c,h9 rfl,h9 c,Sg];refine Si λp _=>?_;show U.tup (if p.1=k then (p.1,p.2.1,v) else p).1=.tup p.1;split<;>rfl
 ·rw[hV c,hZ R0,hZ c,Su];rfl
theorem Aj {k:List U}(p:Rp K H A u v)(r:aC K H A us (es.map (·.2.2))):aC K H A (fI (es.map λp=>.tup p.1) us (.tup k) u) ((jL es k b v).map (·.2.2)):=by
 unfold jL fI;rw[kZ];by_cases c:U.tup k∈es.map λp=>U.tup p.1
 ·rw[hJ c,h9 rfl,h9 c];clear c
  induction es generalizing us with
  |nil=>
   rw[Tb] at r;unfold aC at r;cases us with
   |nil=>exact aC.nil
   |cons=>obtain⟨_,_,e,_⟩:=r;cases e
  |cons q es ih=>
   cases us with
   |nil=>unfold aC at r;cases r
   |cons w us=>
    unfold aC at r;obtain⟨x,rr,e,h1,h2⟩:=r;cases e;rw[RY,RY,RY,UY];refine aC.cons ?_ (ih h2);by_cases c:q.1=k
    ·rw[h9 (by rw[c]),h9 c];exact p
    ·rw[hZ (λz=>c (kN.mp z)),hZ c];exact h1
 ·rw[hV c,hZ R0,hZ c,Su];exact r.snoc p
theorem Fy {k:List U}(h:(es.map (·.1)).Nodup):((jL es k b v).map (·.1)).Nodup:=by
 unfold jL;split
 ·rw[Sg];have:es.map ((λx=>x.1)∘λe=>if e.1=k then (e.1,e.2.1,v) else e)=es.map (·.1):=Si λe _=>by
   show (if e.1=k then (e.1,e.2.1,v) else e).1=e.1;split<;>rfl
  rw[this];exact h
 ·rename_i c;rw[Su,RY,Tb];refine Xo.mpr ⟨h,by simp,?_⟩;intro x hx y hy e;rw[Ta.mp hy] at e;subst e;rw[kZ] at c;apply c;rw[decide_eq_true_eq];obtain⟨e,he,rfl⟩:=So.mp hx;exact So.mpr ⟨e,he,rfl⟩
theorem Cb {k:List U}(h:∀e∈es,ui H e.1 e.2.1)(kb:ui H k b):∀e∈jL es k b v,ui H e.1 e.2.1:=by
 unfold jL;split
 ·intro e he;obtain⟨e',h1,rfl⟩:=So.mp he;split
  ·exact h e' h1
  ·exact h e' h1
 ·intro e he;rcases Tz.mp he with z|z
  ·exact h e z
  ·rw[Ta.mp z];exact kb
theorem Fz {k:List U}:jL es k b v≠[]:=by
 unfold jL;split
 ·rename_i c;intro z;cases es with
  |nil=>cases c
  |cons e es=>cases z
 ·simp
theorem Cc {k v:U}(h:ks.length=us.length):(fI ks us k v).length<=us.length+1:=by
 unfold fI;split
 ·rw[WK];lia
 ·rw[Se,Ub];exact Sb _
theorem sJ.len (d:sJ H a ks xs)(r:aC K H A us xs):ks.length=us.length:=by
 rcases d with⟨aP,_,rfl,rfl⟩|⟨es,_,_,rfl,rfl⟩
 ·rw[r.length,RX,RX]
 ·rw[r.length,RX,RX]
theorem JO {k w:U}(mu:∀a,A a->Mu (H a))(ha:A a)(d:sJ H a ks xs)(r:aC K H A us xs)(f:kY ks k=true)(hk:Rp K H A k y)(hw:Rp K H A w v)(hl:us.length<R3){C:Hp->Prop}(hC:∀H',(∀b o,b≠a->H b=some o->H' b=some o)->i6 K H' A (.dct (iS ks k) (fI ks us k w)) a->C H'):NP H a y v C:=by
 have ln:=d.len r;have l2:(fI ks us k w).length<=R3:=Sz (Cc ln) hl;have nt:∀b ys,H b=some (.tup ys)->b≠a:=λb ys h e=>by
  subst e;have:=mu b ha;rw[h] at this;exact this
 have fin:∀(o:HO) (zs:List V),sJ (cu H a o) a (iS ks k) zs->aC K H A (fI ks us k w) zs->i6 K (cu H a o) A (.dct (iS ks k) (fI ks us k w)) a:=λo zs d' r'=>
  ⟨zs,d',l2,r'.re mu (λb o' nb z=>jd _ b o' (λy=>nb (y▸ha)) z) λb z=>.inl z⟩
 have Nw:∀(es:List (List U×Sr×V)) (kk:List U) (b:Sr),fG H a es->ui H kk b->k=.tup kk->y=.ref b->ks=es.map (λp=>.tup p.1)->xs=es.map (·.2.2)->NP H a y v C:=by
  rintro es kk b h kt rfl rfl rfl rfl;have le:es.length=us.length:=by rw[r.length,RX]
  refine .inr ⟨es,kk,b,h,rfl,kt,by lia,λep=>hC _ (jd _) (fin _ _ (.inr ⟨jL es kk b v,Fz,?_,(Ai es v).symm,rfl⟩) (Aj hw r))⟩;have tp:∀c ys,H c=some (.tup ys)->cu H a (DN a ep (jL es kk b v)) c=some (.tup ys):=λc ys hc=>by rw[aL (nt c ys hc)];exact hc
  exact⟨.inl ⟨ep,bo⟩,Fy h.nd,λe he=>(Cb h.key kt e he).to tp⟩
 unfold kY at f;rw[UG,Sa,Sa] at f;rcases d with⟨aP,h,e1,e2⟩|⟨es,n,h,e1,e2⟩
 ·rcases f with⟨f1,f2⟩|⟨f1,f2⟩
  ·obtain⟨q,rfl,rfl⟩:=GZ f1 hk;subst e1 e2;have lk:aP.length=us.length:=by rw[r.length,RX]
   exact .inl ⟨_,.inl ⟨aP,q,h,rfl,by lia,rfl⟩,hC _ (jd _) (fin _ _ (.inl ⟨_,bo,(Ag aP v).symm,rfl⟩) (Ah hw r))⟩
  ·cases aP with
   |nil=>
    subst e1 e2;cases k<;>first|(cases f1;done)|skip
    rename_i kk;obtain⟨b,rfl,kt⟩:=yB f1 hk;exact Nw [] kk b ⟨.inr ⟨rfl,h⟩,V8,(λe he=>by cases he)⟩ kt rfl rfl rfl rfl
   |cons p aP=>
    exfalso;subst e1;rw[RY,Tx,Sa] at f2;obtain⟨p1,p2⟩:=p;cases p1<;>cases f2.1
 ·rcases f with⟨f1,f2⟩|⟨f1,f2⟩
  ·exfalso;subst e1;cases es with
   |nil=>exact n rfl
   |cons p es=>rw[RY,Tx,Sa] at f2;cases f2.1
  ·cases k<;>first|(cases f1;done)|skip
   rename_i kk;obtain⟨b,rfl,kt⟩:=yB f1 hk;exact Nw es kk b h kt rfl rfl e1 e2
section
variable {o i e f value:T6}{uc cL cpos p1:Pos}{b1 b2 b3:Bool}{m m1 m2 m3:Md}{g1 g2 g3:Ev->R (U×Ev)}{y:Str}
noncomputable def uU:U->U->R U:=λu w=>match u with
 | .dct ks us=>if kY ks w=true then (match gc ks us w with
  |some z=>.ok z
  |none=>.stk) else .stk
 |_=>.stk
theorem L1 (h:Pk K H A u v)(c:B_ u=true\/Fx u=true):Rp K H A u v:=by
 cases u<;>first|(exfalso;rcases c with c|c<;>cases c;done)|(unfold Pk at h;unfold Rp;exact h)
theorem FA {k:U}(f:kY ks k=true):B_ k=true\/Fx k=true:=by
 unfold kY at f;rw[UG,Sa,Sa] at f;rcases f with⟨f,_⟩|⟨f,_⟩
 ·exact .inl f
 ·cases k<;>first|(cases f;done)|exact .inr rfl
theorem xf (hu:X.A.units+64<Uu)(ha:DE X G o b1 m1 g1)(hb:DE X G i b2 m2 g2)(hs:Je i:=by intro _ _;rfl)(hm:m1=.P->b2=false:=by first|exact λ_=>rfl|exact λh=>nomatch h):DE X G (.Subscript o i pos) (b1||b2) .S (a9 uU g1 g2):=⟨(Fu hu ha.un hb.un hs).to λσ H Q h=>by
 have hp:dq X.K (λx y H Q=>∃a v,x=.ref a/\JK H a y (some v)/\Q v H) .S uU:=λA H x y u w z Q hx hy mu e q=>by
  unfold uU at e;split at e;rotate_left
  ·cases e
  split at e
  ·rename_i fk;split at e
   ·rename_i z' hz;cases e;unfold Pk at hx;obtain⟨a,xs,rfl,d,l,r⟩:=hx;obtain⟨ov,g,q1,_⟩:=Ca d r fk (L1 hy (FA fk));obtain⟨v,rfl,rp⟩:=q1 _ hz;exact⟨a,v,rfl,g,q v H (aJ.refl _) rp⟩
   ·cases e
  ·cases e
 exact kO hp hm h⟩
noncomputable def iB (i:Nat)(g2 g3:Ev->R (U×Ev)):Ev->R (U×Ev):=λρ=>match ρ[i]? with
 |some (some (.dct _ _))=>(g2 ρ).bind λk=>(g3 k.2).bind λx=>match x.2[i]? with
  |some (some (.dct ks us))=>if kY ks k.1=true then .ok ((gc ks us k.1).getD x.1,x.2) else .stk
  |_=>.stk
 |_=>.stk
theorem FC {K:R1}(d:sJ H a ks xs):JL H a:=by
 rcases d with⟨aP,h,_⟩|⟨es,_,h,_⟩
 ·exact .inl (.inl ⟨aP,.inl h⟩)
 ·exact .inr ⟨es,h⟩
theorem rC (q:bW K G Z A ρ σ H)(h:ρ[j]? = some (some (.dct ks us))):∃a xs,σ[j]? = some (some (.ref a))/\sJ H a ks xs/\us.length<=R3/\aC K H A us xs:=by
 obtain⟨v,h1,h2⟩:=q.slot j _ h;by_cases c:G.is j=true
 ·rw[h9 c] at h2;obtain⟨a,rfl,_,_,_,t⟩:=h2;obtain⟨xs,d,l,r⟩:=t;exact⟨a,xs,h1,d,l,r⟩
 ·rw[hZ c] at h2;unfold Rp at h2;obtain⟨a,xs,rfl,_,d,l,r⟩:=h2;exact⟨a,xs,h1,d,l,r⟩
theorem k7 (hu:X.A.units+64<Uu)(he:DE X G e b1 m1 g1)(hf:DE X G f b2 m2 g2)(n1:m1≠.P:=by decide)(n2:m2≠.P:=by decide)(hN:X.N[j]? = some y:=by rfl)(hv:AR X.env.scope y:=by first|exact Or.inl rfl|exact Or.inr (Or.inl rfl)|exact Or.inr (Or.inr rfl))(hd:(y==("__debug__":Str))=false:=by decide)(kr:(y==("__classdict__":Str))=false:=by decide)(M:M2 X (.Name y p1) "get" cL e f cpos:=by exact⟨rfl,rfl,rfl,rfl⟩):DE X G (.Call (.Attribute (.Name y p1) "get" cL) [e,f] [] cpos) (b1||b2) .S (iB j g1 g2):=⟨(B9 hu (gz hN hv hd kr) he.un hf.un M).to λσ H Q h=>by
 obtain⟨Z,A,ρ,q,f⟩:=h;unfold iB at f;split at f
 ·rename_i RS RT h0;obtain⟨a,xs0,s0,d0,_,_⟩:=rC q h0;obtain⟨⟨k,ρ1⟩,e1,f⟩:=f.bind;obtain⟨⟨x,ρ2⟩,e2,f⟩:=f.bind;dsimp only at e2 f;split at f
  ·rename_i ks us h2;split at f
   ·rename_i fk;refine⟨.ref a,s0,a,rfl,FC (K:=X.K) d0,Z,A,ρ,q,?_⟩;rw[e1];intro v1 H1 q1 x1 s1 nj;refine⟨Z,A,ρ1,q1,?_⟩;rw[e2];intro v2 H2 q2 x2 s2 se;obtain⟨a',xs,s0',d,_,r⟩:=rC q2 h2;rw[s0] at s0';cases s0';obtain⟨ov,g,z1,z2⟩:=Ca d r fk (nj.laterS q1 x2 n1);refine⟨ov,g,f _ H2 q2 (x1.trans x2) (two s1 s2) ?_⟩;cases hz:gc ks us k with
    |none=>rw[z2 hz];exact se.rp n2
    |some w=>obtain⟨v,rfl,rp⟩:=z1 _ hz;exact rp
   ·exact f.elim
  ·exact f.elim
 ·exact f.elim⟩
noncomputable def fJ (i:Nat)(gv gk:Ev->R (U×Ev)):Ev->SR:=λρ=>SR.of (gv ρ) λx=>if BQ x.2 i=true then SR.of (gk x.2) λy=>match y.2[i]? with
 |some (some (.dct ks us))=>if kY ks y.1=true/\us.length<R3 then .nx (y.2.set i (some (.dct (iS ks y.1) (fI ks us y.1 x.1)))) else .stk
 |_=>.stk
 else .stk
theorem jz (hu:X.A.units+64<Uu)(hv:DE X G value b1 m1 g1)(hk:DE X G i b2 m2 g2)(n1:m1≠.P:=by decide)(n2:m2≠.P:=by decide)(hN:X.N[j]? = some y:=by rfl)(Q0:AR X.env.scope y:=by first|exact Or.inl rfl|exact Or.inr (Or.inl rfl)|exact Or.inr (Or.inr rfl))(c:G.is j=true:=by rfl)(hd:(y==("__debug__":Str))=false:=by decide)(kr:(y==("__classdict__":Str))=false:=by decide)(hs:Wc value (some (.Subscript (.Name y p1) i uc)) pos.line X.env=pure false:=by rfl):DS X G m (.Assign [.Subscript (.Name y p1) i uc] value pos) (fJ j g1 g2):=⟨(Fv hu (gz hN Q0 hd kr) hk.un hv.un hs).to λD σ H h00=>by
 obtain⟨Z,A,ρ,q,f⟩:=h00;obtain⟨⟨w,ρ1⟩,e1,f⟩:=f.of;refine⟨Z,A,ρ,q,?_⟩;rw[e1];intro v H1 q1 x1 s1 vm;dsimp only at f;split at f
 ·rename_i hl;obtain⟨u00,hu0⟩:=sN hl;obtain⟨a0,h0,_⟩:=q1.own c hu0;obtain⟨⟨k,ρ2⟩,e2,f⟩:=f.of;refine⟨.ref a0,h0,Z,A,ρ1,q1,?_⟩;rw[e2];intro v2 H2 q2 x2 s2 se;dsimp only at f;split at f
  ·rename_i ks us Qc;split at f
   ·rename_i fk;obtain⟨a0',k1,k2,_,_,k5⟩:=q2.own c Qc;rw[h0] at k1;cases k1;obtain⟨xs,d,_,r⟩:=k5;exact⟨a0,rfl,JO q2.mu k2 d r fk.1 (se.rp n2) ((vm.rp n1).re q1.mu x2 λb z=>.inl z) fk.2 λH' em t=>f A σ H' (q2.put c Qc h0 em t)⟩
   ·exact f.elim
  ·exact f.elim
 ·exact f.elim⟩
end
end L2
namespace L2
theorem uW {xs:List V}{us:List R6}(r:aO xs us):∀n:Nat,aO (SE n xs).flatten (SE n us).flatten
 |0=>.nil
 |n+1=>by
  rw[Tv,Tv,U9,U9];exact r.append (uW r n)
theorem yD {α:Type}(xs:List α)(n:Nat):(SE n xs).flatten.length=xs.length*n:=by
 simp[Nat.mul_comm]
theorem yE {H:Hp}{A:Sr->Prop}{us:List U}{xs:List V}(r:aC K H A us xs):∀n:Nat,aC K H A (SE n us).flatten (SE n xs).flatten
 |0=>aC.nil
 |n+1=>by
  rw[Tv,Tv,U9,U9];exact r.append (yE r n)
@[irreducible] noncomputable def JP (X:Cx)(G:Gm)(es:List T6)(b p:Bool)(g:Ev->R (List U×Ev)):Prop:=DA X G es b p g
section
variable {e:T6}{es:List T6}{b1 b2 p:Bool}{m1:Md}{g1:Ev->R (U×Ev)}{ga:Ev->R (List U×Ev)}
theorem RL (h:JP X G es b1 p ga):DA X G es b1 p ga:=by unfold JP at h;exact h
theorem NQ:JP X G [] false p ak:=by unfold JP;exact ag
theorem L3 (ha:DE X G e b1 m1 g1)(hr:JP X G es b2 p ga)(hm:m1=.P->(p=true/\b2=false):=by first|exact λ_=>⟨rfl,rfl⟩|exact λh=>nomatch h)
  (hs:Sq (e::es) X.env=(false,VP e X.env)::Sq es X.env:=by rfl):JP X G (e::es) (b1||b2) p (ae g1 ga):=by
 unfold JP at hr ⊢;exact aa ha hr hm hs
end
end L2
namespace L2
section
variable {T:Sr}
theorem ay.turnNew {t':Nat}(I:ay X pins σ H s)(hf:∀b∈fp,om X pins H b)(k:∀b o,b∉fp->s.heap.get? b=some o->h'.get? b=some o)(hT:s.heap.objs.size<=T)(new:bz X.prog X.w (cu H T o) h' T o) :
  ay X pins σ (cu H T o) {s with heap:=h',toks:=t'}:=by
 have hn:H T=none:=I.hok.fresh hT;have nf:∀b u,H b=some u->b∉fp:=λb u e z=>by rw[(hf b z).1] at e;cases e
 have nT:∀b u,H b=some u->b≠T:=λb u e z=>by rw[z,hn] at e;cases e
 refine I.step (g':=s.gens) (d':=s.drawn) (ch:=fp) (λb hb=>?_) (λb o _ _ hc e _=>k b o hc e) (λb o _ _ hc e _=>⟨o.slots,k b o hc e⟩) (λb o _ e n=>?_) (λb o hc e=>⟨o,k b o hc e⟩)
  (λb xs e=>?_) (λb o u e=>?_) (λb ps e=>⟨#[],?_⟩) (λm hm=>?_) (λb u e=>?_) I.bare
 ·obtain⟨f0,f1,f2,f3,f4,f5⟩:=hf b hb;exact⟨f3,f1,f4,f5⟩
 ·rw[aL (SJ (SK (Sl e) hT))];exact n
 ·rw[aL (nT b _ e)];exact e
 ·rw[aL (nT b _ e)];exact e
 ·rw[aL (nT b _ e),e];simp
 ·obtain⟨o,es,ep,ho,r⟩:=hm;exact⟨o,es,ep,k _ o (λz=>(hf _ z).2.1 rfl) ho,r⟩
 ·by_cases c:b=T
  ·subst c;rw[bo] at e;cases e;exact new
  ·rw[aL c] at e;refine (I.hok b u e).stay (λc v hc q=>k c v ?_ q) (λc q=>by rw[aL (nT c _ q)];exact q) λc xs q=>by rw[aL (nT c _ q)];exact q
   rcases hc with z|z
   ·rw[z];exact nf b u e
   ·exact nf c _ z
end
end L2
namespace L2
section
variable {e:T6}{p1 p3 p4:Pos}{b1:Bool}{m1 m:Md}{g1:Ev->R (U×Ev)}{v:Option T6}{w:Option T6}
theorem JQ {g:Ev->SR}(h:∀ρ,∃c u,g ρ=.exc c u)(hW:∀H,¬G.W H:=by exact λ_ h=>h):DS X G m (.Raise v w pos) g:=⟨λpins s σ H D I h00=>by
 obtain⟨Z,A,ρ,q,f⟩:=h00;obtain⟨c,u,e⟩:=h ρ;rw[e] at f;exact absurd (f H q.bas) (hW H)⟩
end
end L2
section
set_option maxHeartbeats 400000
namespace L2
open PySem PySem.Spec PyProof.Rows PySem.W
structure OJ (K:Frag)(C:Sr):Prop where
 cls:(clsIn K C).isSome=true
 ga:findIn K (.ref C) "__getattribute__"=some (some (.builtin "BaseException.__getattribute__"))
 gn:findIn K (.ref C) "__getattr__"=some none
 cl:findIn K (.ref C) "__class__"=some (some (.builtin "object.__class__"))
 gt:specialIn K (.builtin "object.__class__") "__get__"=some (some (.builtin "getset_descriptor.__get__"))
 tk:takesIn K (.builtin "object.__class__")=some true
 ob:mroIn K C (.type "object")=some true
 be:mroIn K C (.type "BaseException")=some true
def G1 (x C:Sr)(h:UU):Prop:=∃ox,h.get? x=some ox/\ox.cls=.ref C
section
variable {w:Tq}{A:S2}{K:Frag}{x:Sr}
open Builtin Builtin.ObjectAttr Builtin.Getset_descriptor in
end
end L2
end
section
set_option maxHeartbeats 400000
namespace L2
open PySem PySem.Spec PyProof.Rows PySem.W
structure NR (P:UN)(w:Tq)(outer:List Env)(H:Hp)(s:Sk)(B:UU)(H1:Hp)(r:UU)(L:Sr):Prop where
 un:Un (oh outer) [] H H1 s.heap r
 hok:gK P w H1 r
 kB:∀b o,r.get? b=some o->b∉oh outer->b≠L->B.get? b=some o
 nL:s.heap.get? L=none
 hL:H1 L=none
 fr:∀b∈oh outer,H b=none/\∃o,s.heap.get? b=some o/\∀vs,o.data≠.fields vs
def Ak (P:UN)(w:Tq)(C:Sr):CXT:=λouter H s E e s'=>∃(ea t L:Sr) (B r:UU) (H1:Hp),e=.ref ea/\s'.os=s.os/\W9 s'.gens/\NR P w outer H s B H1 r L/\Heap.FlyingW B outer ea (.ref C) (.ref t) s'.heap/\r.UpToSlots s'.heap/\r.get? ea=none/\E (.ref C) none H1
theorem gK.keptT {w:Tq}(x:gK P w H h)(k:∀b u o,H b=some o->h.get? b=some u->h'.get? b=some u):gK P w H h':=λa o e=>
 (x a o e).stay (λb u hb q=>by
  rcases hb with rfl|hb
  ·exact k _ _ _ e q
  ·exact k _ _ _ hb q) (λ_ q=>q) λ_ _ q=>q
section
variable {w:Tq}{outer:List Env}{B r:UU}{L:Sr}
theorem NR.there (F:NR P w outer H s B H1 r L)(k:B.StaysIn h)(u:r.UpToSlots h):Un (oh outer) [] H H1 s.heap h/\gK P w H1 h:=by
 have M9:∀b o,s.heap.get? b=some o->b≠L:=λb o e z=>by rw[z,F.nL] at e;cases e
 have Qd:∀b o,s.heap.get? b=some o->b∈oh outer->∃sl,h.get? b=some {o with slots:=sl}:=λb o e hb=>by
  obtain⟨hn,o',e',nf⟩:=F.fr b hb;rw[e] at e';cases e';obtain⟨sl,q⟩:=F.un.slot b o e hn hb (by simp);obtain⟨sl',q'⟩:=u b _ q (λvs z=>nf vs z);exact⟨sl',q'⟩
 refine⟨⟨λb o e n hb hx=>k b o (F.kB b o (F.un.keep b o e n hb hx) hb (M9 b o e)),λb o e n hb hx=>Qd b o e hb,F.un.free,λb o e hx=>?_,F.un.tups,F.un.frzs,F.un.tbls⟩,F.hok.keptT λb v o e q=>?_⟩
 ·by_cases hb:b∈oh outer
  ·obtain⟨sl,q⟩:=Qd b o e hb;exact⟨_,q⟩
  ·obtain⟨o',q⟩:=F.un.there b o e hx;exact⟨o',k b o' (F.kB b o' q hb (M9 b o e))⟩
 ·refine k b v (F.kB b v q (λhb=>?_) λz=>by rw[z,F.hL] at e;cases e);obtain⟨hn,o',e',_⟩:=F.fr b hb;rw[F.un.free b o' e' hn (by simp)] at e;cases e
end
section
variable {B r:UU}{L:Sr}
theorem ay.fly {t':Nat}{d':Drawn}(I:ay X pins σ H s)(F:NR X.prog X.w X.stack H s B H1 r L)(k:B.StaysIn h)(u:r.UpToSlots h)(hg:W9 g'):ay X pins σ H1 {s with heap:=h,gens:=g',drawn:=d',toks:=t'}:=by
 obtain⟨a,b⟩:=F.there k u;exact I.call (h':=h) (g':=g') (d':=d') (t':=t') (ch:=[]) a b hg λ_ z=>absurd z (by simp)
end
section
variable {a b:Str}{e:T6}{p1 p3:Pos}{j1 j2:Nat}
def Qz (te:TE):TE:=λσ H Q=>te σ H λx H1=>∃i:Int,x=.int i/\i.natAbs.log2<1920/\(Us (toString i)).length<=1000/\∀y:Str,Q (.str y) H1
theorem L4 (he:PE X e te)(ha:(Str.empty++a).length<=1000:=by decide+kernel)(hb:b.length<=1000:=by decide+kernel)(hs:(evalEach [Expr.Constant (.str b) j2 p3] X.env)=[VP (.Constant (.str b) j2 p3) X.env]:=by rfl):PE X (.JoinedStr [.Constant (.str a) j1 p1,.FormattedValue e (-1) none p2,.Constant (.str b) j2 p3] pos) (Qz te):=by
 intro pins s σ H Q I h;have big:(3000:Nat)<=R3:=by decide
 refine JoinedStr_many ?_;rw[hs];refine joinParts_cons (Calls.Constant_str ?_);refine⟨Sz ha (Sz (by decide) big),joinParts_cons (FormattedValue_plain ?_)⟩;refine cM (he pins _ σ H _ (I.tok _) h) λv s1 ⟨x,H1,I1,rx,i,ex,sm,li,q⟩=>?_;subst ex;obtain⟨tk,rfl⟩:=rx;refine formatField_int_small sm ?_;refine⟨?_,joinParts_cons (Calls.Constant_str ?_)⟩
 ·rw[Wx];exact Sz (V9 ha li) (Sz (by decide) big)
 ·refine⟨?_,joinParts_nil ?_ ?_⟩
  ·rw[Wx,Wx];exact Sz (V9 (V9 ha li) hb) (Sz (by decide) big)
  ·exact⟨.str _,H1,I1.tok _,⟨_,rfl⟩,q _⟩
  ·rw[Wx,Wx];exact Sz (V9 (V9 ha li) hb) (Sz (by decide) big)
end
end L2
end
section
set_option maxHeartbeats 400000
namespace L2
open PySem PySem.Spec PyProof.Rows PySem.W
abbrev uX:List R6:=[.type "ValueError",.type "Exception",.type "BaseException",.type "object"]
theorem FD {K:Frag}{Qe:List R6}{Iu:String}(X:K.In h)(q:excIn K C Qe Iu=true) :
  ∃bm N nm qn bs hdct sn sub ab col dd k0 k1 k2 k3 k5 mN,h.get? C=some (excClassObj nm qn C N bs bm hdct sn sub ab col dd k0 k1 k2 k3 k5 Iu)/\h.Ns N mN/\mN "__init__"=none/\OwnTail h Qe bm:=by
 unfold excIn at q;split at q
 ·rename_i d1 cd sl ho;split at q
  ·rename_i C' bm k0 k1 k2 k3 n k5 hm hs;simp only[Sa,beq_iff_eq,Bool.not_eq_true'] at q;obtain⟨⟨⟨⟨⟨e1,e2⟩,hdel⟩,ht⟩,hok⟩,hni⟩:=q;subst e1;subst e2;obtain⟨nm,bs,mro,ns,qn,hd,sn,sub,ab,col,del⟩:=cd;dsimp only at hm hdel hok hni;subst hm;subst hdel;have Q1:sl=#[k0,k1,k2,k3,some (.builtin n),k5]:=by
    obtain⟨l⟩:=sl;simp only at hs;rw[hs]
   subst Q1;exact⟨bm,ns,nm,qn,bs,hd,sn,sub,ab,col,d1,k0,k1,k2,k3,k5,_,X _ _ ho,.of_isNs (isNs_of_in X hok),nsMap_none_of_in X hok hni,tail_of_in X ht⟩
  ·cases q
 ·cases q
section
variable {w:Tq}{K:Frag}{base:UU}{bx:R6}{A:S2}{outer:List Env}{s0:Sk}{H0:Hp}{E:XK}
theorem Al {e:Sr}{vs:List R6}(I:ay (gb (Ak P w C) P w K mg base N qual scope f bx A outer s0 H0 E) pins σ H s)(hm:Heap.MadeExcOf s.heap h' e (.ref C) vs)(hE:E (.ref C) none H)(nL:s0.heap.get? s0.heap.objs.size=none:=by exact Heap.get?_none_of_le (Sb _)):(gb (Ak P w C) P w K mg base N qual scope f bx A outer s0 H0 E).xe (.ref e) {s with heap:=h'}:=by
 let env:=UM qual scope s0.heap.objs.size f bx
 have zB:s.heap.FunFrames base (env::outer):=I.stack;have AN:∀en∈(env::outer),∀a,en.frame=some a->a∈oh (env::outer):=λen he a ha=>WZ.mpr ⟨en,he,ha⟩;refine wpAny_leaves_madeW (base:=hideAll s.heap (oh (env::outer))) (h:=s.heap) (L:=s0.heap.objs.size) (outer:=outer) I.ok.frames rfl (λb o q=>of_hideAll _ q) (funFrames_hide zB AN) hm λh2 t fl tp nt up=>?_;refine⟨e,t,s0.heap.objs.size,_,s.heap,H,rfl,I.os,I.bare,⟨I.base,I.hok,λb o q nb nl=>hideAll_get _ q λz=>?_,nL,I.free,λb hb=>⟨I.ok.frf b hb,?_⟩⟩,fl,(Heap.UpToSlots.of_keeps hm.keeps).trans up,hm.new,hE⟩
 ·unfold oh at z;rw[Vo] at z;rcases Ss.mp z with z|z
  ·exact nl z
  ·exact nb z
 ·exact (I.ok.funs.mem hb).2
variable {np cpos:Pos}{e0:T6}{t:TA}
def JR (C:Sr)(E:XK)(t:TA):TS:=λ_ σ H=>t σ H λxs H1=>xs.length<=R3/\E (.ref C) none H1
theorem Cd (hx:mg x=some (.ref C))(hq:excIn K C uX "ValueError.__new__"=true)(hh:A.handled=none)
  (ha:PA (gb (Ak P w C) P w K mg base N qual scope f bx A outer s0 H0 E) [e0] t) (hg:Gl (gb (Ak P w C) P w K mg base N qual scope f bx A outer s0 H0 E) x:=by rfl) (hd:(x==("__debug__":Str))=false:=by decide)
  (he:Sq [e0] (UM qual scope s0.heap.objs.size f bx)=(false,VP e0 (UM qual scope s0.heap.objs.size f bx))::Sq [] (UM qual scope s0.heap.objs.size f bx):=by rfl) :
  PS (gb (Ak P w C) P w K mg base N qual scope f bx A outer s0 H0 E) (.Raise (some (.Call (.Name x np) [e0] [] cpos)) none pos) (JR C E t):=by
 intro pins s σ H D I h;obtain⟨tl,NN,nm,q,bs,hdct,sn,sub,ab,col,dd,k0,k1,k2,k3,k5,mN,hC,hN,hni,T⟩:=FD I.ok.mod.kin hq;have FB:=F.excBase_ValueError;refine wpAny_Raise_call_subU (C:=C) (nm:=nm) (q:=q) (N:=NN) (bs:=bs) (bm:=tl) (hdct:=hdct) (sn:=sn) (sub:=sub) (ab:=ab) (col:=col) (dd:=dd) (k0:=k0) (k1:=k1) (k2:=k2) (k3:=k3) (k5:=k5) FB FB.hasB FB (mN:=mN) (T.hasType FB.hasBase) hh ?_ hni (kC I hg hx ⟨rfl,?_⟩ hd)
 ·show (Ux cpos (Sq [e0] (UM qual scope s0.heap.objs.size f bx))).any (·.1)=false;rw[he];rfl
 ·show Sv _ _ (evalArgs (.ref C) true (Ux cpos (Sq [e0] (UM qual scope s0.heap.objs.size f bx))) []) _ _ _;have h1:=ha cpos pins s σ H _ I h;have N5:Sq [e0] (gb (Ak P w C) P w K mg base N qual scope f bx A outer s0 H0 E).env=(false,VP e0 (UM qual scope s0.heap.objs.size f bx))::Sq [] (UM qual scope s0.heap.objs.size f bx):=he;rw[N5] at h1;rw[he];refine Wt (cM h1 λus s2 ⟨xs,H2,I2,r2,l2,hE⟩=>?_);have kk:∀b o,base.get? b=some o->s2.heap.get? b=some o:=λb o z=>(I2.bs b o z).1;exact⟨rfl,by rw[←r2.length];exact l2,kk _ _ hC,hN.keeps kk,T.keeps kk,λh' e hm=>Al I2 hm hE⟩
end
end L2
end
section
set_option maxHeartbeats 400000
namespace L2
open PySem PySem.Spec PyProof.Rows
structure L5 (k:Nat)(A:S2):Prop where
 dp:A.depth+3*k+5<recursionLimit
 un:A.units+16*k+200<Uu
structure PB (P:UN)(w:Tq)(K:R1)(mg:Str->Option R6)(base:UU)(CX:CXT)(k:Nat)(f:Sr)(fd:Vk)(ps:List Str)(sp:Sp):Prop where
 len:∀vs H Q E,sp vs H Q E->vs.length=ps.length
 run:∀(A:S2) (outer:List Env) (s:Sk) (H:Hp) (args:Args) (us:List R6) (vs:List V) (Q:VK) (E:XK),L5 k A->Bi P w K mg base A outer s H->BindsTo s fd args (ps.zip us)->aO vs us->sp vs H Q E->
  codeAny (SN P w) A (.call (.ref f) args) (CR CX outer P w H s Q E) s
noncomputable def JS (ea C:Sr):HO:=.ext (G1 ea C)
theorem FE {w:Tq}{ea:Sr}(x:G1 ea C h):bz P w H h ea (JS ea C):=by
 obtain⟨ox,e,c⟩:=id x;exact⟨x,⟨ox,e⟩,λh1 h2 ⟨o,e1,c1⟩ k=>⟨o,k o e1,c1⟩⟩
end L2
end
section
set_option maxHeartbeats 400000
namespace L2
open PySem PySem.Spec PyProof.Rows PySem.W
theorem Ce {w:Tq}(x:bz P w H h a o):∃ob,h.get? a=some ob:=by
 cases o with
 |lst xs=>obtain⟨_,_,_,_,e⟩:=x;exact⟨_,e⟩
 |tup xs=>obtain⟨_,_,_,_,_,e⟩:=x;exact⟨_,e⟩
 |dK aP=>obtain⟨_,_,_,_,o,_,_,e,_⟩:=x;exact⟨_,e⟩
 |dT aP=>obtain⟨_,_,_,_,o,_,_,e,_⟩:=x;exact⟨_,e⟩
 |set S n=>obtain⟨o,_,_,_,e,_⟩:=x;exact⟨_,e⟩
 |ins C dx fs=>obtain⟨_,_,_,e,_⟩:=x;exact⟨_,e⟩
 |own y=>exact x
 |xd fs=>obtain⟨_,⟨_,_,_,e,_⟩,_⟩:=x;exact⟨_,e⟩
 |rng lo hi=>obtain⟨_,_,_,e⟩:=x;exact⟨_,e⟩
 |frz ob u=>obtain⟨e,_⟩:=x;exact⟨_,e⟩
 |tbl ps=>exact⟨_,(show h.get? a=some _ from x)⟩
 |met f y=>exact⟨_,(show h.get? a=some _ from x)⟩
 |ext φ=>obtain⟨_,e,_⟩:=x;exact e
section
variable {s1:Sk}{ea:Sr}
theorem ay.track (I0:ay X pins σ H s)(n0:s.heap.get? ea=none)(I:ay X pins σ H1 s1)(n1:H1 ea=none)(x:bz X.prog X.w (cu H1 ea o) s1.heap ea o):ay X pins σ (cu H1 ea o) s1:=by
 have ne:∀b ob,s.heap.get? b=some ob->b≠ea:=λb ob e z=>by rw[z,n0] at e;cases e
 have Q2:∀b ob,X.s₀.heap.get? b=some ob->b∉X.ex->b≠ea:=λb ob e hx=>by
  obtain⟨o',e'⟩:=I0.base.there b ob e hx;exact ne b o' e'
 have Ny:∀{b u},H1 b=some u->b≠ea:=λ{b u} e z=>by rw[z,n1] at e;cases e
 refine⟨I.ok,I.os,I.bare,⟨I.base.keep,I.base.slot,λb ob e n hx=>?_,I.base.there,λb xs e=>?_,λb ob u e=>?_,λb ps e=>?_⟩,I.loc,I.cell,?_,λy c e=>?_,λp hp=>?_,λb u e=>?_,I.len⟩
 ·rw[aL (Q2 b ob e hx)];exact I.base.free b ob e n hx
 ·have q:=I.base.tups b xs e;rw[aL (Ny q)];exact q
 ·have q:=I.base.frzs b ob u e;rw[aL (Ny q)];exact q
 ·obtain⟨m,q⟩:=I.base.tbls b ps e;exact⟨m,by rw[aL (Ny q)];exact q⟩
 ·obtain⟨m,⟨oL,_,_,hL,_⟩,_⟩:=I0.loc;rw[aL (ne _ _ hL)];exact I.free
 ·obtain⟨v,oc,hc,_⟩:=I0.cell y c e;rw[aL (ne _ _ hc)];exact I.freeC y c e
 ·obtain⟨e,n,r⟩:=I.pin p hp;have e0:=(I0.pin p hp).1;exact⟨e,by rw[aL (ne _ _ e0)];exact n,r⟩
 ·by_cases hb:b=ea
  ·subst hb;rw[bo] at e;cases e;exact x
  ·rw[aL hb] at e;exact (I.hok b u e).stay (λc v _ q=>q) (λc q=>by rw[aL (Ny q)];exact q) λc xs q=>by rw[aL (Ny q)];exact q
noncomputable abbrev Cx.hand (X:Cx)(e:R6):Cx:={X with A:=X.A.mark (some e),calm:=false,xe:=λ_ _=>False}
theorem ay.hand (I:ay X pins σ H s)(e:R6):ay (X.hand e) pins σ H s:=
 ⟨⟨I.ok.mod,I.ok.kind,I.ok.glob,I.ok.blt,I.ok.above,I.ok.inj,I.ok.has,I.ok.cab,λz=>absurd z R0,I.ok.frames,I.ok.stk,I.ok.exf,I.ok.bs,I.ok.bsz,I.ok.noex,I.ok.exfs,I.ok.funs,I.ok.frf⟩,I.os,I.bare,I.base,I.loc,I.cell,I.free,I.freeC,I.pin,I.hok,I.len⟩
theorem ay.unhand {e:R6}(I0:X.Ok)(I:ay (X.hand e) pins σ H s):ay X pins σ H s:=⟨I0,I.os,I.bare,I.base,I.loc,I.cell,I.free,I.freeC,I.pin,I.hok,I.len⟩
end
section
variable {cc:Sr}{g cn n:Str}{p cp rp np hpos:Pos}{a:T6}{as:List T6}{b0:Wv}{suite:List Wv}{ta:TA}{th:TS}
theorem FF {h0:ExceptHandler}{hs:List ExceptHandler}(hb:qy X.nox body tb):PS X (.Try body (h0::hs) [] [] pos) tb:=by
 intro pins s σ H D I h;refine wpAny_Try_except (S8 (hb pins s σ H D (I.wish _) h) (λfl s1 q=>?_) λ_ _ z=>z.elim);cases fl with
 |next=>exact VA q.unwish
 |brk=>exact q.unwish
 |cont=>exact q.unwish
 |ret u=>exact q.unwish
end
end L2
end
section
set_option maxHeartbeats 400000
namespace L2
open PySem PySem.Spec PyProof.Rows PySem.W
structure QA (K:Frag)(mg:Str->Option R6)(C:Sr)(x:Str)(ms:List (Str×Bool)):Prop where
 cls:mg x=some (.ref C)
 exc:excIn K C uX "ValueError.__new__"=true
 ec:OJ K C
 card:∃c,mg "CardError"=some (.ref c)/\exmOne K (.ref C) (.ref c)=some true
 ve:kitOne K (.ref C) (.type "ValueError")=some true
 zve:mg "ValueError"=none
 marks:∀p∈ms,∃c,mg p.1=some (.ref c)/\kitOne K (.ref C) (.ref c)=some p.2
def PD (K:Frag)(n:Nat)(C:Sr)(p:List U->Prop):Sp:=λvs H _ E=>∃us A,aC K H A us vs/\(∀a,A a->Mu (H a))/\us.length=n/\p us/\∀H',aJ H H'->E (.ref C) none H'
theorem rD {K:Frag}{A0:Sr->Prop}(r:aC K H A0 us vs)(mu:∀a,A0 a->Mu (H a))(zG:G.io=false)(jt:∀i,i<us.length->G.is i=false):bW K G ⟨A0,H,0⟩ A0 (b7 N.length us) (fg N vs) H where
 slot:=λi u hu=>by
  have hu:=iu hu;obtain⟨v,h1,h2⟩:=r.get hu;refine⟨v,gQ h1,?_⟩;rw[hZ (by rw[jt i (R8.mp hu).1];exact R0)];exact h2
 dis:=λi j u w a ci cj ne hi hj si sj=>by
  rw[jt i (R8.mp (iu hi)).1] at ci;cases ci
 mu:=mu
 sup:=λa h=>h
 out:=λa h=>.inl h
 bas:=λa o h=>h
 io0:=λh=>by rw[zG] at h;cases h
 len:=sV r.length
theorem aJ.updN (h:aJ H H')(n:H' a=none):aJ H (cu H' a o):=λb ob e=>by
 have q:=h b ob e;rw[aL (br q n)];exact q
theorem FG {m:Md}{h0:ExceptHandler}{hs:List ExceptHandler}{g:Ev->SR}(h:wq X.nox G m body g):DS X G m (.Try body (h0::hs) [] [] pos) g:=⟨FF h.un⟩
end L2
end
namespace L2
theorem nr {α:Sort _}{a b:α}(h:a=b):a=b:=h
noncomputable def look (o:Option (Option U))(ρ:Ev):R (U×Ev):=match o with
 |some (some u)=>.ok (u,ρ)
 |_=>.stk
noncomputable def PF (u:U)(ρ:Ev):R (Bool×Ev):=match u with
 | .bl c=>.ok (c,ρ)
 |_=>.stk
noncomputable def NT (o:Option U):R U:=match o with
 |some u=>.ok u
 |none=>.stk
noncomputable def SR.seq (r:SR)(g:Ev->SR):SR:=match r with
 | .nx ρ=>g ρ
 |r=>r
noncomputable def SR.turn (r:SR)(g:Ev->SR):SR:=match r with
 | .nx ρ=>g ρ
 | .ct ρ=>g ρ
 | .bk ρ=>.nx ρ
 |r=>r
noncomputable def L6 (m:Md)(r:SR):R U:=match r with
 | .rt u _=>.ok u
 | .nx _=>if m=.S then .ok .non else .stk
 | .exc c u=>.exc c u
 |_=>.stk
noncomputable def io0 (u:U)(o:Option (Option U)):R (U×U):=match o with
 |some (some w)=>.ok (u,w)
 |_=>.stk
noncomputable def JT (r:SR):R (U×U):=match r with
 | .rt u ρ=>io0 u ρ[0]?
 | .nx ρ=>io0 .non ρ[0]?
 | .exc c u=>.exc c u
 |_=>.stk
section
variable {w:U}{α β:Type}{g1 g2 g3:Ev->R (U×Ev)}{h h1 h2:Ev->R (Bool×Ev)}{s s1 s2:Ev->SR}{ga:Ev->R (List U×Ev)}{m:Md}{ws:List U}
theorem G2:af i ρ=look ρ[i]? ρ:=nr rfl
theorem Cf:look (some (some u)) ρ=.ok (u,ρ):=nr rfl
theorem PH:gC u ρ=.ok (u,ρ):=nr rfl
theorem Am {a:α}{f:α->R β}:(R.ok a).bind f=f a:=nr rfl
theorem G3 {f:α->R β}:(R.stk:R α).bind f=.stk:=nr rfl
theorem Cg {a:α}{f:α->SR}:SR.of (R.ok a) f=f a:=nr rfl
theorem L7 {p:U->U->R U}:a9 p g1 g2 ρ=(g1 ρ).bind λx=>(g2 x.2).bind λy=>(p x.1 y.1).bind λz=>.ok (z,y.2):=nr rfl
theorem PJ:gB g ρ=(g ρ).bind λx=>PF x.1 x.2:=nr rfl
theorem G4 {c:Bool}:PF (.bl c) ρ=.ok (c,ρ):=nr rfl
theorem Ci:BK h1 h2 ρ=(h1 ρ).bind λx=>if x.1=true then h2 x.2 else .ok (false,x.2):=nr rfl
theorem G5:AV h1 h2 ρ=(h1 ρ).bind λx=>if x.1=true then .ok (true,x.2) else h2 x.2:=nr rfl
theorem Cj:oK h ρ=(h ρ).bind λx=>.ok (!x.1,x.2):=nr rfl
theorem G6:Fd g1 g2 ρ=(gB g1 ρ).bind λx=>if x.1=true then g2 x.2 else .ok (.bl false,x.2):=nr rfl
theorem L8:NK g1 g2 ρ=(gB g1 ρ).bind λx=>if x.1=true then .ok (.bl true,x.2) else g2 x.2:=nr rfl
theorem G7:Jt g ρ=(gB g ρ).bind λx=>.ok (.bl (!x.1),x.2):=nr rfl
theorem L9:Qw h g1 g2 ρ=(h ρ).bind λx=>if x.1=true then g1 x.2 else g2 x.2:=nr rfl
noncomputable def PL (p':U->U->R U)(g3:Ev->R (U×Ev))(y:U×Ev)(z:U):R (U×Ev):=match z with
 | .bl k=>if k=true then (g3 y.2).bind λw=>(p' y.1 w.1).bind λz'=>.ok (z',w.2) else .ok (.bl false,y.2)
 |_=>.stk
theorem yF {p p':U->U->R U}:sM p p' g1 g2 g3 ρ=(g1 ρ).bind λx=>(g2 x.2).bind λy=>(p x.1 y.1).bind λz=>PL p' g3 y z:=nr rfl
theorem G8 {p':U->U->R U}{y:U×Ev}{k:Bool}:PL p' g3 y (.bl k)=if k=true then (g3 y.2).bind λw=>(p' y.1 w.1).bind λz'=>.ok (z',w.2) else .ok (.bl false,y.2):=nr rfl
theorem L_ {p:U->R U}:NL p g ρ=(g ρ).bind λx=>(p x.1).bind λz=>.ok (z,x.2):=nr rfl
theorem Ck:ak ρ=.ok ([],ρ):=nr rfl
theorem yG:ae g ga ρ=(g ρ).bind λx=>(ga x.2).bind λy=>.ok (x.1::y.1,y.2):=nr rfl
theorem Cm:cE ga ρ=(ga ρ).bind λx=>if x.1.length<=R3 then .ok (.tup x.1,x.2) else .stk:=nr rfl
theorem Co:fh ga ρ=(ga ρ).bind λx=>if x.1.length<=R3 then .ok (.lst x.1,x.2) else .stk:=nr rfl
theorem Ma {p:List U->R U}:jM p ga ρ=(ga ρ).bind λx=>(p x.1).bind λz=>.ok (z,x.2):=nr rfl
theorem Mb {f:List U->R U}:dI n f ga ρ=(ga ρ).bind λx=>(uG n f x.1).bind λz=>.ok (z,x.2):=nr rfl
theorem G9 {f:List U->R α}(h:us.length=n):uG n f us=f us:=h9 h
noncomputable def PM (n:Nat)(f:List U->R (U×U))(us:List U)(i:Nat)(ρ:Ev)(o:Option (Option U)):R (U×Ev):=match o with
 |some (some u0)=>(uG n f (u0::us)).bind λz=>.ok (z.1,ρ.set i (some z.2))
 |_=>.stk
theorem G_ {f:List U->R (U×U)}:PM n f us i ρ (some (some u))=(uG n f (u::us)).bind λz=>.ok (z.1,ρ.set i (some z.2)):=nr rfl
noncomputable def yH (o:Option (Option U)):Bool:=match o with
 |some (some _)=>true
 |_=>false
theorem yI:yH (some (some u))=true:=nr rfl
theorem Mc {f:List U->R (U×U)}:nR n i f ga ρ=if yH ρ[i]? = true then (ga ρ).bind λx=>PM n f x.1 i x.2 x.2[i]? else .stk:=nr rfl
noncomputable def OL (i:Nat)(p:U->List U->R (U×U))(us:List U)(ρ:Ev)(o:Option (Option U)):R (U×Ev):=match o with
 |some (some u0)=>(p u0 us).bind λz=>.ok (z.1,ρ.set i (some z.2))
 |_=>.stk
theorem Ha {p:U->List U->R (U×U)}:OL i p us ρ (some (some u))=(p u us).bind λz=>.ok (z.1,ρ.set i (some z.2)):=nr rfl
noncomputable def PN (T:String)(i:Nat)(p:U->List U->R (U×U))(ga:Ev->R (List U×Ev))(ρ:Ev)(o:Option (Option U)):R (U×Ev):=match o with
 |some (some u1)=>if z7 u1 T=true then (ga ρ).bind λx=>OL i p x.1 x.2 x.2[i]? else .stk
 |_=>.stk
theorem Hb {T:String}{p:U->List U->R (U×U)}:PN T i p ga ρ (some (some u))=if z7 u T=true then (ga ρ).bind λx=>OL i p x.1 x.2 x.2[i]? else .stk:=nr rfl
theorem PQ {T:String}{p:U->List U->R (U×U)}:gM T i p ga ρ=PN T i p ga ρ ρ[i]? := nr rfl
theorem Cp:z7 (.lst us) "list"=true:=nr rfl
theorem yJ:c_ ρ=.ok (none,ρ):=nr rfl
noncomputable def PR (u:U)(ρ:Ev):R (Option Int×Ev):=match u with
 | .int i=>.ok (some i,ρ)
 |_=>.stk
theorem Hd {k:Int}:PR (.int k) ρ=.ok (some k,ρ):=nr rfl
theorem yK:cG g ρ=(g ρ).bind λx=>PR x.1 x.2:=nr rfl
theorem Me {p:U->Option Int->Option Int->R U}{lo hi:Ev->R (Option Int×Ev)}:oN p g lo hi ρ=(g ρ).bind λx=>(lo x.2).bind λl=>(hi l.2).bind λh=>(p x.1 l.1 h.1).bind λz=>.ok (z,h.2):=nr rfl
noncomputable def gG (T:String)(u:U)(ρ:Ev):R (U×Ev):=if KR u="script" then .stk else .ok (.bl (f9 (KR u) T),ρ)
theorem Cq {T:String}:rA T g ρ=(g ρ).bind λx=>gG T x.1 x.2:=nr rfl
theorem Cr:bZ ρ=.nx ρ:=nr rfl
theorem yL:Jy ρ=.bk ρ:=nr rfl
theorem Cs:LP ρ=.ct ρ:=nr rfl
theorem He:aA s1 s2 ρ=(s1 ρ).seq s2:=nr rfl
theorem Ct:(SR.nx ρ).seq s=s ρ:=nr rfl
theorem Cu:(SR.rt u ρ).seq s=.rt u ρ:=nr rfl
theorem Cv:(SR.bk ρ).seq s=.bk ρ:=nr rfl
theorem Cw:(SR.ct ρ).seq s=.ct ρ:=nr rfl
theorem Cy:oP g ρ=SR.of (g ρ) λx=>.nx x.2:=nr rfl
theorem Hf:bf g ρ=SR.of (g ρ) λx=>.rt x.1 x.2:=nr rfl
theorem Hg:bg i g ρ=SR.of (g ρ) λx=>.nx (x.2.set i (some x.1)):=nr rfl
theorem Hh {sg:U->Ev->R Ev}:Fh sg g ρ=SR.of (g ρ) λx=>SR.of (sg x.1 x.2) .nx:=nr rfl
theorem Hi:lQ h s1 s2 ρ=SR.of (h ρ) λx=>if x.1=true then s1 x.2 else s2 x.2:=nr rfl
noncomputable def PU (i j:Nat)(ρ:Ev)(o:Option (Option U)):SR:=match o with
 |some (some u)=>.nx ((ρ.set j none).set i (some u))
 |_=>.stk
theorem Cz:uI i j ρ=PU i j ρ ρ[j]? := nr rfl
theorem Hj:PU i j ρ (some (some u))=.nx ((ρ.set j none).set i (some u)):=nr rfl
noncomputable def Mf (i j:Nat)(us:List U)(ρ:Ev):SR:=match us with
 | [u,w]=>.nx ((ρ.set i (some u)).set j (some w))
 |_=>.stk
theorem Hk:OE i j ga ρ=SR.of (ga ρ) λx=>Mf i j x.1 x.2:=nr rfl
theorem CA:Mf i j [u,w] ρ=.nx ((ρ.set i (some u)).set j (some w)):=nr rfl
noncomputable def NU (i:Nat)(v k:U)(ρ:Ev)(o:Option (Option U)):SR:=match k with
 | .int k=>match o with
  |some (some (.lst us))=>match AS us.length k with
   |some j=>.nx (ρ.set i (some (.lst (us.set j v))))
   |none=>.stk
  |_=>.stk
 |_=>.stk
theorem CB:ym i g1 g2 ρ=SR.of (g1 ρ) λx=>if yH x.2[i]? = true then SR.of (g2 x.2) λy=>NU i x.1 y.1 y.2 y.2[i]? else .stk:=nr rfl
theorem Mg {k:Int}(h:AS us.length k=some j):NU i w (.int k) ρ (some (some (.lst us)))=.nx (ρ.set i (some (.lst (us.set j w)))):=by
 unfold NU;dsimp only;rw[h]
noncomputable def Mh (i:Nat)(p:U->U->R U)(g:Ev->R (U×Ev))(ρ:Ev)(o:Option (Option U)):SR:=match o with
 |some (some u)=>SR.of (g ρ) λy=>SR.of (p u y.1) λz=>.nx (y.2.set i (some z))
 |_=>.stk
theorem Hl {p:U->U->R U}:OF i p g ρ=Mh i p g ρ ρ[i]? := nr rfl
theorem CC {p:U->U->R U}:Mh i p g ρ (some (some u))=SR.of (g ρ) λy=>SR.of (p u y.1) λz=>.nx (y.2.set i (some z)):=nr rfl
theorem CD {gi:Ev->R (List U×Ev)}{sg:U->Ev->R Ev}:i7 gi sg s ρ=SR.of (gi ρ) λx=>eR sg s x.1 x.2:=nr rfl
theorem yM {sg:U->Ev->R Ev}:eR sg s [] ρ=.nx ρ:=nr rfl
theorem CF:eR sg s (u::us) ρ=SR.of (sg u ρ) λρ1=>(s ρ1).turn (eR sg s us):=nr rfl
theorem yN:(SR.nx ρ).turn s=s ρ:=nr rfl
theorem yO:(SR.ct ρ).turn s=s ρ:=nr rfl
theorem yP:(SR.bk ρ).turn s=.nx ρ:=nr rfl
theorem yQ:(SR.rt u ρ).turn s=.rt u ρ:=nr rfl
theorem yR:gE h s (n+1) ρ=SR.of (h ρ) λx=>if x.1=true then (s x.2).turn (gE h s n) else .nx x.2:=nr rfl
noncomputable def uY (u:U)(ρ:Ev):R (List U×Ev):=match u with
 | .lst us=>.ok (us,ρ)
 | .tup us=>.ok (us,ρ)
 | .scr us=>.ok (us,ρ)
 |_=>.stk
theorem CG:j8 g ρ=(g ρ).bind λx=>uY x.1 x.2:=nr rfl
theorem tf:uY (.lst us) ρ=.ok (us,ρ):=nr rfl
theorem xg:uY (.tup us) ρ=.ok (us,ρ):=nr rfl
theorem CH:uY (.scr us) ρ=.ok (us,ρ):=nr rfl
noncomputable def FH (us:List U)(ρ:Ev):R (List U×Ev):=match us with
 | [.int j]=>if -1000000<=j/\j<=1000000 then .ok (aG 0 j.toNat,ρ) else .stk
 |_=>.stk
theorem CI:fj ga ρ=(ga ρ).bind λx=>FH x.1 x.2:=nr rfl
theorem JU {k:Int}:FH [.int k] ρ=if -1000000<=k/\k<=1000000 then .ok (aG 0 k.toNat,ρ) else .stk:=nr rfl
noncomputable def CJ (us:List U)(ρ:Ev):R (U×Ev):=match us with
 | [.int j]=>if uQ 0 j=true then .ok (.lst (aG 0 (j-0).toNat),ρ) else .stk
 |_=>.stk
noncomputable def yS (us:List U)(ρ:Ev):R (U×Ev):=match us with
 | [.int j]=>if uQ 0 j=true then .ok (.tup (aG 0 (j-0).toNat),ρ) else .stk
 |_=>.stk
theorem CK:yy ga ρ=(ga ρ).bind λx=>CJ x.1 x.2:=nr rfl
theorem CL:uR ga ρ=(ga ρ).bind λx=>yS x.1 x.2:=nr rfl
theorem Hm {k:Int}(h0:0<=k)(h1:k<=1000000):uQ 0 k=true:=by
 unfold uQ;simp only[Sa,decide_eq_true_eq];lia
theorem yT (n:Nat)(h:n<=1000000):CJ [.int n] ρ=.ok (.lst (aG 0 n),ρ):=by
 unfold CJ;dsimp only;rw[h9 (Hm (by lia) (by lia)),show ((n:Int)-0).toNat=n by lia]
theorem jA (n:Nat)(h:n<=1000000):yS [.int n] ρ=.ok (.tup (aG 0 n),ρ):=by
 unfold yS;dsimp only;rw[h9 (Hm (by lia) (by lia)),show ((n:Int)-0).toNat=n by lia]
theorem iC (n:Nat)(h:n<=1000000):FH [.int n] ρ=.ok (aG 0 n,ρ):=by
 rw[JU,h9 (by lia)];rfl
theorem Hn {gi:Ev->R (List U×Ev)}{js:List (Option Nat)}{sg:U->Ev->R Ev}:kT gi js sg h g ρ=(gi ρ).bind λx=>(yk (wu js sg h g x.2) x.1).bind λys=>.ok (.lst ys,x.2):=nr rfl
theorem Ho {G:Gm}{gi:Ev->R (List U×Ev)}{js:List (Option Nat)}{sg:U->Ev->R Ev}:sU G gi js sg h g ρ=(gi ρ).bind λx=>(l7 G js sg h g x.1 x.2).bind λy=>.ok (.lst y.1,y.2):=nr rfl
theorem Hq {js:List (Option Nat)}{sg:U->Ev->R Ev}:wu js sg h g ρ u=(sg u (gF js ρ)).bind λρi=>(h ρi).bind λc=>if c.1=true then (g ρi).bind λy=>.ok (some y.1) else .ok none:=nr rfl
theorem CM {G:Gm}{js:List (Option Nat)}{sg:U->Ev->R Ev}:l7 G js sg h g [] ρ=.ok ([],ρ):=nr rfl
theorem JV:l7 G js sg h g (u::us) ρ=(sg u (gF js ρ)).bind λρi=>(h ρi).bind λc=>if c.1=true then (g c.2).bind λy=>(l7 G js sg h g us (wb G js y.2 ρ)).bind λr=>.ok (y.1::r.1,r.2) else l7 G js sg h g us (wb G js c.2 ρ):=nr rfl
theorem CN:dA ρ=.ok (true,ρ):=nr rfl
theorem Hr:bH i u ρ=.ok (ρ.set i (some u)):=nr rfl
theorem Mi:JJ ρ=.ok (.dct [] [],ρ):=nr rfl
theorem CP:dh m n s us=L6 m (s (b7 n us)):=nr rfl
theorem yU:L6 m (.rt u ρ)=.ok u:=nr rfl
theorem CQ:wY n s us=JT (s (b7 n us)):=nr rfl
theorem yV:JT (.rt u ρ)=io0 u ρ[0]? := nr rfl
theorem Hs:io0 u (some (some w))=.ok (u,w):=nr rfl
theorem uZ {ρ:Ev}:gF [] ρ=[]:=nr rfl
theorem rE {js:List (Option Nat)}:gF (none::js) ρ=none::gF js ρ:=nr rfl
theorem rF {js:List (Option Nat)}:gF (some j::js) ρ=(ρ[j]?).getD none::gF js ρ:=by
 unfold gF;rw[RY];congr 1;dsimp only;cases ρ[j]? <;> rfl
end
section
variable {i j k:Int}{ws:List U}{w:U}{lo:Option Int}
theorem CS:cv (.int i) (.int j)=.ok (.int (i+j)):=nr rfl
theorem CT:cv (.tup us) (.tup ws)=if us.length+ws.length<=R3 then .ok (.tup (us++ws)) else .stk:=nr rfl
theorem CU:cv (.lst us) (.lst ws)=if us.length+ws.length<=R3 then .ok (.lst (us++ws)) else .stk:=nr rfl
theorem Ht:z9 (.int i) (.int j)=.ok (.int (i-j)):=nr rfl
theorem CV:fm (.int i) (.int j)=if iW i j=true then .ok (.int (i*j)) else .stk:=nr rfl
theorem tj:gq (.int i) (.int j)=if sW i j=true then .ok (.int (i / j)) else .stk:=nr rfl
theorem Hu:qE (.int i) (.int j)=if decide (0<j)=true then .ok (.int (i % j)) else .stk:=nr rfl
theorem Hv:Fq (.int i) (.int j)=if Fp i j=true then .ok (.int (i ^ j.toNat)) else .stk:=nr rfl
theorem Hw:Fs (.int i)=.ok (.int (-i)):=nr rfl
theorem Mj:LS (.int i) (.int j)=.ok (.bl (decide (i<j))):=nr rfl
theorem Ml:NO (.int i) (.int j)=.ok (.bl (decide (i<=j))):=nr rfl
theorem Mm:OG (.int i) (.int j)=.ok (.bl (decide (j<i))):=nr rfl
theorem Mn:OH (.int i) (.int j)=.ok (.bl (decide (j<=i))):=nr rfl
theorem Hx:nC (.lst us) (.int i)=NT (kF us i):=by show (match kF us i with|some z=>R.ok z|none=>.stk)=_;cases kF us i<;>rfl
theorem Hy:nC (.tup us) (.int i)=NT (kF us i):=by show (match kF us i with|some z=>R.ok z|none=>.stk)=_;cases kF us i<;>rfl
theorem Hz:nC (.scr us) (.int i)=NT (kF us i):=by show (match kF us i with|some z=>R.ok z|none=>.stk)=_;cases kF us i<;>rfl
theorem HA:NT (some u)=.ok u:=nr rfl
theorem HB:mL (.lst us) lo hi=.ok (.lst (iy us lo hi)):=nr rfl
theorem HC:mL (.tup us) lo hi=.ok (.tup (iy us lo hi)):=nr rfl
theorem HD:mL (.scr us) lo hi=.ok (.lst (iy us lo hi)):=nr rfl
theorem CW:l8 [.lst us]=.ok (.int us.length):=nr rfl
theorem xh:l8 [.tup us]=.ok (.int us.length):=nr rfl
theorem CY:l8 [.scr us]=.ok (.int us.length):=nr rfl
theorem CZ:e_ [.lst us]=.ok (.tup us):=nr rfl
theorem C0:e_ [.tup us]=.ok (.tup us):=nr rfl
theorem C1:oZ [.lst us]=.ok (.lst us):=nr rfl
theorem C2:oZ [.tup us]=.ok (.lst us):=nr rfl
theorem HF {a b:Bool}{f:Bool->Bool}:w5 f (.bl a) (.bl b)=.ok (.bl (f (decide (a=b)))):=nr rfl
theorem HG {f:Bool->Bool}:nB f u .non=.ok (.bl (f (cO u))):=nr rfl
theorem C3:uM [.int i,.int j]=.ok (.int (if j<i then j else i)):=nr rfl
theorem C4:yv [.int i,.int j]=.ok (.int (if j>i then j else i)):=nr rfl
theorem Mo {f:Bool->Bool}:B1 f u w=(nA u w).bind λb=>.ok (.bl (f b)):=nr rfl
theorem u3 (n:Nat):kF us (n:Int)=us[n]? := by
 unfold kF AS;by_cases h:n<us.length
 ·rw[h9 (by lia),h9 (by lia)];rfl
 ·rw[h9 (by lia),hZ (by lia)];rw[TL.mpr (by lia)];rfl
theorem HH:kF us 0=us[0]? := u3 0
theorem HJ:kF us 1=us[1]? := u3 1
theorem HK:kF us 2=us[2]? := u3 2
theorem Mp (h:0<us.length):AS us.length 0=some 0:=by unfold AS;rw[h9 (by lia),h9 (by lia)];rfl
theorem nV (h0:0<j)(h1:j<18446744073709551616):sW i j=true:=by unfold sW;simp[h0,h1]
theorem o_ (h0:0<=i)(h1:i<18446744073709551616):iW i j=true:=by
 unfold iW;simp only[UG,Sa,decide_eq_true_eq];exact .inl ⟨by lia,by lia⟩
theorem pb (h0:0<=j)(h1:j<18446744073709551616):iW i j=true:=by
 unfold iW;simp only[UG,Sa,decide_eq_true_eq];exact .inr ⟨by lia,by lia⟩
end
end L2
namespace L2
theorem yW {i:Nat}{w u:U}{us:List U}{ρ:Ev}:NU i w (.int 0) ρ (some (some (.lst (u::us))))=.nx (ρ.set i (some (.lst (w::us)))):=by
 rw[Mg (j:=0) (Mp (by rw[Sj];lia))];rfl
theorem yX {ρ:Ev}:JT (.nx ρ)=io0 .non ρ[0]? := rfl
theorem je {G:Gm}{js:List (Option Nat)}{sg:U->Ev->R Ev}{ge:Ev->R (U×Ev)}{σ:Type}(ev:σ->Ev)(N:Nat)(I:List U->σ->Prop)
  (step:∀done u s,done.length<N->I done s->∃ρi y ρi' s',sg u (gF js (ev s))=.ok ρi/\ge ρi=.ok (y,ρi')/\wb G js ρi' (ev s)=ev s'/\I (done++[y]) s') :
  ∀(us done:List U) (s:σ),done.length+us.length<=N->I done s->∃ys s',l7 G js sg dA ge us (ev s)=.ok (ys,ev s')/\ys.length=us.length/\I (done++ys) s'
 | [],done,s,_,h=>⟨[],s,rfl,rfl,by rw[Tg];exact h⟩
 |u::us,done,s,hl,h=>by
  rw[Sj] at hl;obtain⟨ρi,y,ρi',s',e1,e2,e3,h'⟩:=step done u s (by lia) h;obtain⟨ys,KW,e4,e5,h''⟩:=je ev N I step us (done++[y]) s' (by rw[Se,Ub];lia) h';refine⟨y::ys,KW,?_,by rw[Sj,Sj,e5],by rw[TX] at h'';exact h''⟩;rw[JV,e1,Am,CN,Am,h9 rfl,e2,Am,e3,e4,Am]
theorem bL {s:Ev->SR}(I:Nat->Ev->Prop)(step:∀(i:Nat) (u:U) (ρ:Ev),us[i]? = some u->I i ρ->∃ρ1 ρ2,sg u ρ=.ok ρ1/\(s ρ1=.nx ρ2\/s ρ1=.ct ρ2)/\I (i+1) ρ2)(h:I 0 ρ) :
  ∃ρ',eR sg s us ρ=.nx ρ'/\I us.length ρ':=by
 have gen:∀(n i:Nat) (ρ:Ev),i+n=us.length->I i ρ->∃ρ',eR sg s (us.drop i) ρ=.nx ρ'/\I us.length ρ':=by
  intro n
  induction n with
  |zero=>
   intro i ρ hi h;have:i=us.length:=by lia
   subst this;rw[US];exact⟨ρ,rfl,h⟩
  |succ n ih=>
   intro i ρ hi h;have qQ:i<us.length:=by lia
   obtain⟨ρ1,ρ2,e1,e2,h2⟩:=step i us[i] ρ (R5 qQ) h;obtain⟨ρ',e3,h3⟩:=ih (i+1) ρ2 (by lia) h2;refine⟨ρ',?_,h3⟩;rw[Tj qQ,CF,e1,Cg];rcases e2 with e2|e2<;>(rw[e2];exact e3)
 have:=gen us.length 0 ρ (by lia) h
 rwa [Vh] at this
theorem md (ns:List Int):i_ (ns.map .int)=some (ns.map .int):=by
 induction ns with
 |nil=>unfold i_;rfl
 |cons n ns ih=>rw[RY];unfold i_;rw[ih];unfold jT;rfl
theorem j_ (ns:List Int):eP (ns.map .int)=0:=by
 induction ns with
 |nil=>unfold eP;rfl
 |cons n ns ih=>rw[RY];unfold eP;rw[ih];unfold dU;rfl
theorem rG:∀(ns ms:List Int),iT (ns.map .int) (ms.map .int)=decide (ns=ms)
 | [],[]=>by unfold iT;simp
 | [],m::ms=>by simp[iT]
 |n::ns,[]=>by simp[iT]
 |n::ns,m::ms=>by
  rw[RY,RY];unfold iT jJ;rw[rG ns ms,Tt];simp
theorem FI (ns ms:List Int):nA (.lst (ns.map .int)) (.lst (ms.map .int))=.ok (decide (ns=ms)):=by
 unfold nA;have e1:∀ns:List Int,jT (.lst (ns.map .int))=some (.lst (ns.map .int)):=λns=>by unfold jT;rw[md];rfl
 rw[e1,e1];dsimp only;rw[h9 (by unfold dU;rw[j_];lia)];unfold jJ;rw[rG]
noncomputable def aB (n:Nat):List Int:=(SX n).map λi=>(i:Nat)
theorem eU (n:Nat):aG 0 n=(aB n).map .int:=by
 unfold aG aB;rw[Sg];exact Si λi _=>by show U.int (0+(i:Int))=.int _;rw[Int.zero_add]
theorem ez (n:Nat):(aB n).length=n:=by unfold aB;rw[RX,Ti]
theorem xi {x:Int}:x∈aB n↔0<=x/\x<n:=by
 unfold aB;rw[So];constructor
 ·rintro⟨i,h,rfl⟩;have:=W8.mp h;lia
 ·intro h;exact⟨x.toNat,W8.mpr (by lia),by lia⟩
theorem ph (us:List U)(c:U->Bool):uP [.lst (us.map λu=>.bl (c u))]=.ok (.bl (us.all c)):=by
 have e:us.map (λu=>U.bl (c u))=(us.map c).map .bl:=by rw[Sg];rfl
 unfold uP;dsimp only;rw[e,Aa];dsimp only;rw[List.all_map];rfl
theorem An (h:ns.length<64):o9 [.tup (ns.map .int)]=.ok (.lst ((mM ns).map .int)):=by
 unfold o9;dsimp only;rw[B5];dsimp only;rw[h9 h]
end L2
namespace L2
theorem inb (s:String){T:String}{u:U}{ρ:Ev}{b:Bool}(h:KR u=s)(h1:¬s="script")(h2:f9 s T=b):gG T u ρ=.ok (.bl b,ρ):=by unfold gG;rw[h,hZ h1,h2]
theorem mO {ρ:Ev}:gG "bool" (.non) ρ=.ok (.bl false,ρ):=inb "NoneType" rfl (by decide) (by decide)
theorem pj {ρ:Ev}:gG "int" (.non) ρ=.ok (.bl false,ρ):=inb "NoneType" rfl (by decide) (by decide)
theorem pq {ρ:Ev}:gG "str" (.non) ρ=.ok (.bl false,ρ):=inb "NoneType" rfl (by decide) (by decide)
theorem mP {ρ:Ev}:gG "list" (.non) ρ=.ok (.bl false,ρ):=inb "NoneType" rfl (by decide) (by decide)
theorem k8 {ρ:Ev}:gG "tuple" (.non) ρ=.ok (.bl false,ρ):=inb "NoneType" rfl (by decide) (by decide)
theorem mQ {ρ:Ev}:gG "dict" (.non) ρ=.ok (.bl false,ρ):=inb "NoneType" rfl (by decide) (by decide)
theorem px {b:Bool}{ρ:Ev}:gG "bool" (.bl b) ρ=.ok (.bl true,ρ):=inb "bool" rfl (by decide) (by decide)
theorem rH {b:Bool}{ρ:Ev}:gG "int" (.bl b) ρ=.ok (.bl true,ρ):=inb "bool" rfl (by decide) (by decide)
theorem rJ {b:Bool}{ρ:Ev}:gG "str" (.bl b) ρ=.ok (.bl false,ρ):=inb "bool" rfl (by decide) (by decide)
theorem pz {b:Bool}{ρ:Ev}:gG "list" (.bl b) ρ=.ok (.bl false,ρ):=inb "bool" rfl (by decide) (by decide)
theorem mR {b:Bool}{ρ:Ev}:gG "tuple" (.bl b) ρ=.ok (.bl false,ρ):=inb "bool" rfl (by decide) (by decide)
theorem pA {b:Bool}{ρ:Ev}:gG "dict" (.bl b) ρ=.ok (.bl false,ρ):=inb "bool" rfl (by decide) (by decide)
theorem mS {i:Int}{ρ:Ev}:gG "bool" (.int i) ρ=.ok (.bl false,ρ):=inb "int" rfl (by decide) (by decide)
theorem pB {i:Int}{ρ:Ev}:gG "int" (.int i) ρ=.ok (.bl true,ρ):=inb "int" rfl (by decide) (by decide)
theorem pD {i:Int}{ρ:Ev}:gG "str" (.int i) ρ=.ok (.bl false,ρ):=inb "int" rfl (by decide) (by decide)
theorem mT {i:Int}{ρ:Ev}:gG "list" (.int i) ρ=.ok (.bl false,ρ):=inb "int" rfl (by decide) (by decide)
theorem k9 {i:Int}{ρ:Ev}:gG "tuple" (.int i) ρ=.ok (.bl false,ρ):=inb "int" rfl (by decide) (by decide)
theorem mU {i:Int}{ρ:Ev}:gG "dict" (.int i) ρ=.ok (.bl false,ρ):=inb "int" rfl (by decide) (by decide)
theorem mV {x:Str}{ρ:Ev}:gG "bool" (.str x) ρ=.ok (.bl false,ρ):=inb "str" rfl (by decide) (by decide)
theorem pE {x:Str}{ρ:Ev}:gG "int" (.str x) ρ=.ok (.bl false,ρ):=inb "str" rfl (by decide) (by decide)
theorem pF {x:Str}{ρ:Ev}:gG "str" (.str x) ρ=.ok (.bl true,ρ):=inb "str" rfl (by decide) (by decide)
theorem mW {x:Str}{ρ:Ev}:gG "list" (.str x) ρ=.ok (.bl false,ρ):=inb "str" rfl (by decide) (by decide)
theorem k_ {x:Str}{ρ:Ev}:gG "tuple" (.str x) ρ=.ok (.bl false,ρ):=inb "str" rfl (by decide) (by decide)
theorem mX {x:Str}{ρ:Ev}:gG "dict" (.str x) ρ=.ok (.bl false,ρ):=inb "str" rfl (by decide) (by decide)
theorem mY {us:List U}{ρ:Ev}:gG "bool" (.tup us) ρ=.ok (.bl false,ρ):=inb "tuple" rfl (by decide) (by decide)
theorem pG {us:List U}{ρ:Ev}:gG "int" (.tup us) ρ=.ok (.bl false,ρ):=inb "tuple" rfl (by decide) (by decide)
theorem pH {us:List U}{ρ:Ev}:gG "str" (.tup us) ρ=.ok (.bl false,ρ):=inb "tuple" rfl (by decide) (by decide)
theorem mZ {us:List U}{ρ:Ev}:gG "list" (.tup us) ρ=.ok (.bl false,ρ):=inb "tuple" rfl (by decide) (by decide)
theorem lh {us:List U}{ρ:Ev}:gG "tuple" (.tup us) ρ=.ok (.bl true,ρ):=inb "tuple" rfl (by decide) (by decide)
theorem m4 {us:List U}{ρ:Ev}:gG "dict" (.tup us) ρ=.ok (.bl false,ρ):=inb "tuple" rfl (by decide) (by decide)
theorem m5 {us:List U}{ρ:Ev}:gG "bool" (.lst us) ρ=.ok (.bl false,ρ):=inb "list" rfl (by decide) (by decide)
theorem pJ {us:List U}{ρ:Ev}:gG "int" (.lst us) ρ=.ok (.bl false,ρ):=inb "list" rfl (by decide) (by decide)
theorem pK {us:List U}{ρ:Ev}:gG "str" (.lst us) ρ=.ok (.bl false,ρ):=inb "list" rfl (by decide) (by decide)
theorem m6 {us:List U}{ρ:Ev}:gG "list" (.lst us) ρ=.ok (.bl true,ρ):=inb "list" rfl (by decide) (by decide)
theorem lj {us:List U}{ρ:Ev}:gG "tuple" (.lst us) ρ=.ok (.bl false,ρ):=inb "list" rfl (by decide) (by decide)
theorem m7 {us:List U}{ρ:Ev}:gG "dict" (.lst us) ρ=.ok (.bl false,ρ):=inb "list" rfl (by decide) (by decide)
theorem m8 {ρ:Ev}:gG "bool" (.dct [] []) ρ=.ok (.bl false,ρ):=inb "dict" rfl (by decide) (by decide)
theorem pL {ρ:Ev}:gG "int" (.dct [] []) ρ=.ok (.bl false,ρ):=inb "dict" rfl (by decide) (by decide)
theorem pM {ρ:Ev}:gG "str" (.dct [] []) ρ=.ok (.bl false,ρ):=inb "dict" rfl (by decide) (by decide)
theorem m9 {ρ:Ev}:gG "list" (.dct [] []) ρ=.ok (.bl false,ρ):=inb "dict" rfl (by decide) (by decide)
theorem ll {ρ:Ev}:gG "tuple" (.dct [] []) ρ=.ok (.bl false,ρ):=inb "dict" rfl (by decide) (by decide)
theorem m_ {ρ:Ev}:gG "dict" (.dct [] []) ρ=.ok (.bl true,ρ):=inb "dict" rfl (by decide) (by decide)
theorem aH:type_of% @G2/\type_of% @Cf/\type_of% @PH/\type_of% @Am/\type_of% @G3/\type_of% @Cg/\type_of% @L7/\type_of% @PJ/\type_of% @G4/\type_of% @Ci/\type_of% @G5/\type_of% @Cj/\type_of% @G6/\type_of% @L8/\type_of% @G7/\type_of% @L9/\type_of% @yF/\type_of% @L_/\type_of% @Ck/\type_of% @yG/\type_of% @Cm/\type_of% @Co/\type_of% @Ma/\type_of% @Mb/\type_of% @G_/\type_of% @yI/\type_of% @Mc/\type_of% @Ha/\type_of% @Hb/\type_of% @PQ/\type_of% @Cp/\type_of% @yJ/\type_of% @Hd/\type_of% @yK/\type_of% @Me/\type_of% @Cq/\type_of% @Cr/\type_of% @yL/\type_of% @Cs/\type_of% @He/\type_of% @Ct/\type_of% @Cu/\type_of% @Cv/\type_of% @Cw/\type_of% @Cy/\type_of% @Hf/\type_of% @Hg/\type_of% @Hh/\type_of% @Hi/\type_of% @Cz/\type_of% @Hj/\type_of% @Hk/\type_of% @CA/\type_of% @CB/\type_of% @Hl/\type_of% @CC/\type_of% @CD/\type_of% @yM/\type_of% @yN/\type_of% @yO/\type_of% @yP/\type_of% @yQ/\type_of% @CG/\type_of% @tf/\type_of% @xg/\type_of% @CH/\type_of% @CI/\type_of% @CK/\type_of% @CL/\type_of% @Hn/\type_of% @Ho/\type_of% @Hq/\type_of% @CM/\type_of% @CN/\type_of% @Hr/\type_of% @Mi/\type_of% @CP/\type_of% @yU/\type_of% @CQ/\type_of% @yV/\type_of% @Hs/\type_of% @uZ/\type_of% @rE/\type_of% @rF/\type_of% @CS/\type_of% @CT/\type_of% @CU/\type_of% @Ht/\type_of% @CV/\type_of% @tj/\type_of% @Hu/\type_of% @Hv/\type_of% @Hw/\type_of% @Mj/\type_of% @Ml/\type_of% @Mm/\type_of% @Mn/\type_of% @Hx/\type_of% @Hy/\type_of% @Hz/\type_of% @HA/\type_of% @HB/\type_of% @HC/\type_of% @HD/\type_of% @CW/\type_of% @xh/\type_of% @CY/\type_of% @CZ/\type_of% @C0/\type_of% @C1/\type_of% @C2/\type_of% @HF/\type_of% @HG/\type_of% @C3/\type_of% @C4/\type_of% @Mo/\type_of% @HH/\type_of% @HJ/\type_of% @HK/\type_of% @G8/\type_of% @mO/\type_of% @pj/\type_of% @pq/\type_of% @mP/\type_of% @k8/\type_of% @mQ/\type_of% @px/\type_of% @rH/\type_of% @rJ/\type_of% @pz/\type_of% @mR/\type_of% @pA/\type_of% @mS/\type_of% @pB/\type_of% @pD/\type_of% @mT/\type_of% @k9/\type_of% @mU/\type_of% @mV/\type_of% @pE/\type_of% @pF/\type_of% @mW/\type_of% @k_/\type_of% @mX/\type_of% @mY/\type_of% @pG/\type_of% @pH/\type_of% @mZ/\type_of% @lh/\type_of% @m4/\type_of% @m5/\type_of% @pJ/\type_of% @pK/\type_of% @m6/\type_of% @lj/\type_of% @m7/\type_of% @m8/\type_of% @pL/\type_of% @pM/\type_of% @m9/\type_of% @ll/\type_of% @m_/\type_of% @yW/\type_of% @yX:=
 ⟨@G2,@Cf,@PH,@Am,@G3,@Cg,@L7,@PJ,@G4,@Ci,@G5,@Cj,@G6,@L8,@G7,@L9,@yF,@L_,@Ck,@yG,@Cm,@Co,@Ma,@Mb,@G_,@yI,@Mc,@Ha,@Hb,@PQ,@Cp,@yJ,@Hd,@yK,@Me,@Cq,@Cr,@yL,@Cs,@He,@Ct,@Cu,@Cv,@Cw,@Cy,@Hf,@Hg,@Hh,@Hi,@Cz,@Hj,@Hk,@CA,@CB,@Hl,@CC,@CD,@yM,@yN,@yO,@yP,@yQ,@CG,@tf,@xg,@CH,@CI,@CK,@CL,@Hn,@Ho,@Hq,@CM,@CN,@Hr,@Mi,@CP,@yU,@CQ,@yV,@Hs,@uZ,@rE,@rF,@CS,@CT,@CU,@Ht,@CV,@tj,@Hu,@Hv,@Hw,@Mj,@Ml,@Mm,@Mn,@Hx,@Hy,@Hz,@HA,@HB,@HC,@HD,@CW,@xh,@CY,@CZ,@C0,@C1,@C2,@HF,@HG,@C3,@C4,@Mo,@HH,@HJ,@HK,@G8,@mO,@pj,@pq,@mP,@k8,@mQ,@px,@rH,@rJ,@pz,@mR,@pA,@mS,@pB,@pD,@mT,@k9,@mU,@mV,@pE,@pF,@mW,@k_,@mX,@mY,@pG,@pH,@mZ,@lh,@m4,@m5,@pJ,@pK,@m6,@lj,@m7,@m8,@pL,@pM,@m9,@ll,@m_,@yW,@yX⟩
end L2
namespace Hc.Dw
def gf (h:UU)(a:Sr)(ds:Array Xv)(ep:Nat):Prop:=∃o,h.get? a=some o/\o.ExactDict/\o.data=.dict ds ep
theorem gf.ty (x:gf s.heap a ds ep):s.TypeIs (.ref a) "dict":=by
 obtain⟨o,e,c,_⟩:=x;exact⟨o,e,c.1⟩
theorem gf.at (x:gf h a ds ep)(e:∀o,h.get? a=some o->h'.get? a=some o):gf h' a ds ep:=by
 obtain⟨o,q,r⟩:=x;exact⟨o,e o q,r⟩
theorem gf.lt (x:gf h a ds ep):a<h.objs.size:=by obtain⟨o,e,_⟩:=x;exact Sl e
section
variable {w:Tq}{A:S2}{d it vw:Sr}
theorem Mq (lo:(d==Tr)=false)(x:gf s.heap d ds ep)(q:Q (.ref s.heap.objs.size) {s with heap:=s.heap.push {cls:=.type "dict_keyiterator",data:=.fields #[.ref d,.int 0 0,.int ds.size 0,.int ep 0]}}):Sv (SN prog w) A (pyIter (.ref d)) Q E s:=by
 have ty:=x.ty;obtain⟨od,e1,e2,e3⟩:=x;refine V2 ty F.slot_dict_iter (SI F.slot_dict_iter ty F.entry_dict_iter ?_ (F.args_dict_iter_1 _));unfold Builtin.«dict.__iter__»;refine RW ?_;unfold Builtin.Dict.dictSlotNone;refine RW (U3 ty ?_);change Sv _ _ (pure (Value.ref d)) _ _ s;refine RZ ?_;change Sv _ _ (TY d >>= _) _ _ s;unfold TY;rw[hZ (by rw[lo];exact R0)];refine RW (RZ (RW (S5 e1 e3 (RW (TM e1 e3 ?_)))));refine RW (SG (RZ ⟨_,rfl,"dict_keyiterator",_,⟨_,R9 _ rfl,rfl⟩,F.slot_dict_keyiterator_next.lookup,?_⟩));simpa [WY] using q
theorem Mr {Q:Option R6->Sk->Prop}(t:s.heap.IsKeyIter it d i ds.size ep)(x:gf s.heap d ds ep)(hi:i<ds.size)
  (q:∀h',h'.IsKeyIter it d (i+1) ds.size ep->Ur it s.heap h'->Q (some ds[i].key) {s with heap:=h'}):Sv (SN prog w) A (WA (.ref it)) Q E s:=by
 have ty:=t.typeIs;obtain⟨oi,i1,i2,i3⟩:=t;obtain⟨od,e1,e2,e3⟩:=x;unfold WA;refine RW (U_ (Te (name:=Us "__next__") ty Uq (SI Uq ty Wo ?_ (We _))));refine RW (RZ (RW (RW ?_)))
 first|refine RW (Uk ty (RZ ?_))|refine RW (UH ty (RZ ?_))
 refine RW (Vi i1 i3 ?_);simp only[show SY "dict_keyiterator"=false by decide,SQ,if_false];change Sv _ _ (if (Value.ref d==Value.none)=true then _ else _) _ _ s;rw[hZ (show ¬((Value.ref d==Value.none)=true) from R0)];refine RW (RZ (RW (S5 e1 e3 ?_)));rw[hZ (by simp)];refine RW (RZ (RW (TM e1 e3 ?_)));rw[hZ (by simp)];refine RZ ?_;simp only[show ¬((i:Int)<0) from by lia,if_false,SO,TJ hi];refine RW ?_
 first|refine RW (Uk ty (RZ ?_))|refine RW (UH ty (RZ ?_))
 refine RW (wpAny_isOneOf_keyiter ty ?_);change Sv _ _ (setField (.ref it) 1 (WY ((i:Int)+1)) >>= _) _ _ s;refine RW (V_ i1 i3 (by simp) ?_);have t':(s.heap.update it (Wy (·.setIfInBounds 1 (WY ((i:Int)+1))))).IsKeyIter it d (i+1) ds.size ep:=
  ⟨_,Wd _ i1 (Obj.isFreed_of_fields (VL i3 _)),(Obj.cls_mapFields ..).trans i2,by rw[VL i3];simp[WY]⟩
 refine RW (S7 (RW ?_));refine wpAny_isOneOf_keyiter (s:={s with heap:=s.heap.update it (Wy (·.setIfInBounds 1 (WY ((i:Int)+1))))}) t'.typeIs ?_;change Sv _ _ (pure ds[i].key) _ _ _;exact RZ (RZ ⟨_,rfl,RZ (q _ t' (UP ..))⟩)
theorem Ms {Q:Option R6->Sk->Prop}(hh:A.handled=none)(t:s.heap.IsKeyIter it d i ds.size ep)(x:gf s.heap d ds ep)(hi:ds.size<=i)
  (q:∀h',Heap.ExtBut it s.heap h'->Q none {s with heap:=h'}):Sv (SN prog w) A (WA (.ref it)) Q E s:=by
 have ty:=t.typeIs;obtain⟨oi,i1,i2,i3⟩:=t;obtain⟨od,e1,e2,e3⟩:=x;unfold WA;refine RW (U_ (Te (name:=Us "__next__") ty Uq (SI Uq ty Wo ?_ (We _))));refine RW (RZ (RW (RW ?_)))
 first|refine RW (Uk ty (RZ ?_))|refine RW (UH ty (RZ ?_))
 refine RW (Vi i1 i3 ?_);simp only[show SY "dict_keyiterator"=false by decide,SQ,if_false];change Sv _ _ (if (Value.ref d==Value.none)=true then _ else _) _ _ s;rw[hZ (show ¬((Value.ref d==Value.none)=true) from R0)];refine RW (RZ (RW (S5 e1 e3 ?_)));rw[hZ (by simp)];refine RW (RZ (RW (TM e1 e3 ?_)));rw[hZ (by simp)];refine RZ ?_;simp only[show ¬((i:Int)<0) from by lia,if_false,SO,UZ hi];refine RW ?_
 first|refine RW (Uk ty (RZ ?_))|refine RW (UH ty (RZ ?_))
 change Sv _ _ (setField (.ref it) 0 .none >>= _) _ _ s;refine RW (V_ i1 i3 (by simp) ?_);change Sv _ _ (newExc (.type "StopIteration") [] >>= _) _ _ _;refine RW ?_;simp only[newExc,newTuple];refine RW (SG (hd:=by size_fits) ?_);refine RW (m:=Vj _ _) (wpAny_of_eq (a:=Value.none) (by first|rfl|(simp only[Vj];rfl)) (SG (hd:=by size_fits) ?_));simp only[raiseNew];refine RW (wpAny_handled ?_);rw[show A.in1.handled=none from hh];refine RW (RZ (wpAny_throw ?_));refine RW (Vl (b:=true) (T:="StopIteration") ⟨_,R9 _ rfl,rfl⟩ isSubtype_stop ?_);exact RZ (q _ (((UP ..).extBut.push _).push _))
theorem HL (lo:(d==Tr)=false)(x:gf s.heap d ds ep)(q:∀h',h'.IsValuesView s.heap.objs.size d->(∀b o,s.heap.get? b=some o->h'.get? b=some o)->Q (.ref s.heap.objs.size) {s with heap:=h'}) :
  Sv (SN prog w) A (Builtin.«dict.values» ⟨[.ref d],[]⟩) (λf s'=>∃v,f=.done (.ret v)/\Q v s') E s:=by
 refine RW ?_;unfold Builtin.Dict.noArgs;refine RW (U3 x.ty ?_);change Sv _ _ (pure d) _ _ s;refine RZ ?_;change Sv _ _ (TY d >>= _) _ _ s;unfold TY;rw[hZ (by rw[lo];exact R0)];exact RW (RZ (RW (SG (RZ ⟨_,rfl,q _ ⟨_,R9 _ rfl,rfl,rfl⟩ λb o e=>R4 _ e⟩))))
theorem HM (hv:s.heap.IsValuesView vw d)(x:gf s.heap d ds ep)(q:Q (.ref s.heap.objs.size) {s with heap:=s.heap.push {cls:=.type "dict_valueiterator",data:=.fields #[.ref d,.int 0 0,.int ds.size 0,.int ep 0]}}):Sv (SN prog w) A (pyIter (.ref vw)) Q E s:=by
 have ty:=hv.typeIs;obtain⟨ov,v1,v2,v3⟩:=hv;obtain⟨od,e1,e2,e3⟩:=x;refine V2 ty F.slot_dict_values_iter (SI F.slot_dict_values_iter ty F.entry_dict_values_iter ?_ (F.args_dict_values_iter_1 _));unfold Builtin.«dict_values.__iter__»;refine RW (RZ (RW ?_));unfold Xe;refine RW (Vp v1 v3 (x:=.ref d) rfl (RZ (RW ?_)));unfold Wf;refine RW (S5 e1 e3 (RW (TM e1 e3 ?_)));simp only[show SY "dict_valueiterator"=false by decide,SQ,if_false];refine SG (RZ ⟨_,rfl,"dict_valueiterator",_,⟨_,R9 _ rfl,rfl⟩,F.slot_dict_valueiterator_next.lookup,?_⟩);simpa [WY] using q
theorem HN {Q:Option R6->Sk->Prop}(t:s.heap.IsValIter it d i ds.size ep)(x:gf s.heap d ds ep)(hi:i<ds.size)
  (q:∀h',h'.IsValIter it d (i+1) ds.size ep->Ur it s.heap h'->Q (some ds[i].val) {s with heap:=h'}):Sv (SN prog w) A (WA (.ref it)) Q E s:=by
 have ty:=t.typeIs;obtain⟨oi,i1,i2,i3⟩:=t;obtain⟨od,e1,e2,e3⟩:=x;unfold WA;refine RW (U_ (Te (name:=Us "__next__") ty Uc (SI Uc ty V3 ?_ (VQ _))));refine RW (RZ (RW (RW ?_)))
 first|refine RW (Ul ty (RZ ?_))|refine RW (UI ty (RZ ?_))
 refine RW (Vi i1 i3 ?_);simp only[show SY "dict_valueiterator"=false by decide,SQ,if_false];change Sv _ _ (if (Value.ref d==Value.none)=true then _ else _) _ _ s;rw[hZ (show ¬((Value.ref d==Value.none)=true) from R0)];refine RW (RZ (RW (S5 e1 e3 ?_)));rw[hZ (by simp)];refine RW (RZ (RW (TM e1 e3 ?_)));rw[hZ (by simp)];refine RZ ?_;simp only[show ¬((i:Int)<0) from by lia,if_false,SO,TJ hi];refine RW ?_
 first|refine RW (Ul ty (RZ ?_))|refine RW (UI ty (RZ ?_))
 refine RW (Wg ty ?_);change Sv _ _ (setField (.ref it) 1 (WY ((i:Int)+1)) >>= _) _ _ s;refine RW (V_ i1 i3 (by simp) ?_);have t':(s.heap.update it (Wy (·.setIfInBounds 1 (WY ((i:Int)+1))))).IsValIter it d (i+1) ds.size ep:=
  ⟨_,Wd _ i1 (Obj.isFreed_of_fields (VL i3 _)),(Obj.cls_mapFields ..).trans i2,by rw[VL i3];simp[WY]⟩
 refine RW (S7 (RW ?_));refine Wg (s:={s with heap:=s.heap.update it (Wy (·.setIfInBounds 1 (WY ((i:Int)+1))))}) t'.typeIs (RW ?_);refine Wg (s:={s with heap:=s.heap.update it (Wy (·.setIfInBounds 1 (WY ((i:Int)+1))))}) t'.typeIs ?_;change Sv _ _ (pure ds[i].val) _ _ _;exact RZ (RZ ⟨_,rfl,RZ (q _ t' (UP ..))⟩)
theorem HP {Q:Option R6->Sk->Prop}(hh:A.handled=none)(t:s.heap.IsValIter it d i ds.size ep)(x:gf s.heap d ds ep)(hi:ds.size<=i)
  (q:∀h',Heap.ExtBut it s.heap h'->Q none {s with heap:=h'}):Sv (SN prog w) A (WA (.ref it)) Q E s:=by
 have ty:=t.typeIs;obtain⟨oi,i1,i2,i3⟩:=t;obtain⟨od,e1,e2,e3⟩:=x;unfold WA;refine RW (U_ (Te (name:=Us "__next__") ty Uc (SI Uc ty V3 ?_ (VQ _))));refine RW (RZ (RW (RW ?_)))
 first|refine RW (Ul ty (RZ ?_))|refine RW (UI ty (RZ ?_))
 refine RW (Vi i1 i3 ?_);simp only[show SY "dict_valueiterator"=false by decide,SQ,if_false];change Sv _ _ (if (Value.ref d==Value.none)=true then _ else _) _ _ s;rw[hZ (show ¬((Value.ref d==Value.none)=true) from R0)];refine RW (RZ (RW (S5 e1 e3 ?_)));rw[hZ (by simp)];refine RW (RZ (RW (TM e1 e3 ?_)));rw[hZ (by simp)];refine RZ ?_;simp only[show ¬((i:Int)<0) from by lia,if_false,SO,UZ hi];refine RW ?_
 first|refine RW (Ul ty (RZ ?_))|refine RW (UI ty (RZ ?_))
 change Sv _ _ (setField (.ref it) 0 .none >>= _) _ _ s;refine RW (V_ i1 i3 (by simp) ?_);change Sv _ _ (newExc (.type "StopIteration") [] >>= _) _ _ _;refine RW ?_;simp only[newExc,newTuple];refine RW (SG (hd:=by size_fits) ?_);refine RW (m:=Vj _ _) (wpAny_of_eq (a:=Value.none) (by first|rfl|(simp only[Vj];rfl)) (SG (hd:=by size_fits) ?_));simp only[raiseNew];refine RW (wpAny_handled ?_);rw[show A.in1.handled=none from hh];refine RW (RZ (wpAny_throw ?_));refine RW (Vl (b:=true) (T:="StopIteration") ⟨_,R9 _ rfl,rfl⟩ isSubtype_stop ?_);exact RZ (q _ (((UP ..).extBut.push _).push _))
theorem Mt (lo:(d==Tr)=false)(x:gf s.heap d ds ep)(q:∀h',h'.IsItemsView s.heap.objs.size d->(∀b o,s.heap.get? b=some o->h'.get? b=some o)->Q (.ref s.heap.objs.size) {s with heap:=h'}) :
  Sv (SN prog w) A (Builtin.«dict.items» ⟨[.ref d],[]⟩) (λf s'=>∃v,f=.done (.ret v)/\Q v s') E s:=by
 unfold Builtin.«dict.items»;refine RW ?_;unfold Builtin.Dict.noArgs;refine RW (U3 x.ty ?_);change Sv _ _ (pure d) _ _ s;refine RZ ?_;change Sv _ _ (TY d >>= _) _ _ s;unfold TY;rw[hZ (by rw[lo];exact R0)];exact RW (RZ (RW (SG (RZ ⟨_,rfl,q _ ⟨_,R9 _ rfl,rfl,rfl⟩ λb o e=>R4 _ e⟩))))
theorem Mv (hv:s.heap.IsItemsView vw d)(x:gf s.heap d ds ep)(q:∀h',UW h' s.heap.objs.size d 0 ds.size ep .none .none->(∀b o,s.heap.get? b=some o->h'.get? b=some o)->Q (.ref s.heap.objs.size) {s with heap:=h'}):Sv (SN prog w) A (pyIter (.ref vw)) Q E s:=by
 have ty:=hv.typeIs;obtain⟨ov,v1,v2,v3⟩:=hv;obtain⟨od,e1,e2,e3⟩:=x;refine V2 ty F.slot_dict_items_iter (SI F.slot_dict_items_iter ty F.entry_dict_items_iter ?_ (F.args_dict_items_iter_1 _));unfold Builtin.«dict_items.__iter__»;refine RW (RZ (RW ?_));unfold Xe;refine RW (Vp v1 v3 (x:=.ref d) rfl (RZ (RW ?_)));unfold Wf;refine RW (S5 e1 e3 (RW (TM e1 e3 ?_)));simp only[show SY "dict_itemiterator"=true by decide,if_true];refine SG (RZ ⟨_,rfl,"dict_itemiterator",_,⟨_,R9 _ rfl,rfl⟩,F.slot_dict_itemiterator_next.lookup,?_⟩)
  (by simp only[sizeOk,Vq,R7,Se,Sj,VG,Ut];lia)
 exact q _ (by
  have:=R9 s.heap (o:={cls:=.type "dict_itemiterator",data:=.fields #[.none,.bool false,.ref d,.int 0 0,.int ds.size 0,.int ep 0,.none,.none]}) rfl;unfold UW;simpa [WY,Vq] using this) λb o e=>R4 _ e
theorem Mw {ok ov:R6}{Q:Option R6->Sk->Prop}(t:UW s.heap it d i ds.size ep ok ov)(x:gf s.heap d ds ep)(hi:i<ds.size)
  (q:∀h',IsItemIterOut h' it d (i+1) ds.size ep ds[i].key ds[i].val s.heap.objs.size->h'.get? s.heap.objs.size=some {cls:=.type "tuple",data:=.seq #[ds[i].key,ds[i].val]} ->
   (∀b o,b≠it->s.heap.get? b=some o->h'.get? b=some o)->Q (some (.ref s.heap.objs.size)) {s with heap:=h'}):Sv (SN prog w) A (WA (.ref it)) Q E s:=by
 obtain⟨hp,g,dr,tk,os⟩:=s;have ty:Shared.TypeIs ⟨hp,g,dr,tk,os⟩ (.ref it) "dict_itemiterator":=⟨_,t,rfl⟩;obtain⟨od,e1,e2,e3⟩:=x;unfold WA;refine RW (U_ (Te (name:=Us "__next__") ty Um (SI Um ty Wh ?_ (V4 _))));refine RW (RZ (RW (RW ?_)))
 first|refine RW (Ud ty (RZ ?_))|refine RW (UB ty (RZ ?_))
 refine RW (Vi t rfl ?_);simp only[show SY "dict_itemiterator"=true by decide,if_true];change Sv _ _ (if (Value.ref d==Value.none)=true then _ else _) _ _ _;rw[hZ (show ¬((Value.ref d==Value.none)=true) from R0)];refine RW (RZ (RW (S5 e1 e3 ?_)));rw[hZ (by simp)];refine RW (RZ (RW (TM e1 e3 ?_)));rw[hZ (by simp)];refine RZ ?_;simp only[show ¬((i:Int)<0) from by lia,if_false,SO,TJ hi];refine RW ?_
 first|refine RW (Ud ty (RZ ?_))|refine RW (UB ty (RZ ?_))
 refine RW (VY ty ?_);change Sv _ _ (setField (.ref it) 3 (WY ((i:Int)+1)) >>= _) _ _ ⟨hp,g,dr,tk,os⟩;refine RW (U1 t (by simp) λg1 t1 b1=>?_)
 replace b1:Ur it hp g1:=b1
 replace t1:UW g1 it d (i+1) ds.size ep ok ov:=by
  have z:((i+1:Nat):Int)=(i:Int)+1:=by lia
  unfold UW;rw[z];simpa [WY] using t1
 have Qf:Shared.TypeIs ⟨g1,g,dr,tk,os⟩ (.ref it) "dict_itemiterator":=⟨_,t1,rfl⟩;refine RW (S7 (RW (VY Qf (RW (VY Qf ?_)))));change Sv _ _ (VR (.ref it) 6 ds[i].key ds[i].val) _ _ ⟨g1,g,dr,tk,os⟩;unfold VR;refine RW (wpAny_newTuple ?_);have t2:UW (g1.push {cls:=.type "tuple",data:=.seq #[ds[i].key,ds[i].val]}) it d (i+1) ds.size ep ok ov:=R4 _ t1;have n1:g1.objs.size=hp.objs.size:=b1.1;have lt:it<hp.objs.size:=Sl t;have u2:(g1.push {cls:=.type "tuple",data:=.seq #[ds[i].key,ds[i].val]}).get? hp.objs.size=some {cls:=.type "tuple",data:=.seq #[ds[i].key,ds[i].val]}:=by rw[←n1];exact R9 _ rfl
 have k2:∀b o,b≠it->hp.get? b=some o->(g1.push {cls:=.type "tuple",data:=.seq #[ds[i].key,ds[i].val]}).get? b=some o:=λb o hb e=>R4 _ (b1.extBut b o hb e);change Sv _ _ (Vr (.ref it) >>= _) _ _ ⟨g1.push {cls:=.type "tuple",data:=.seq #[ds[i].key,ds[i].val]},g,dr,tk,os⟩;rw[n1];generalize g1.push {cls:=.type "tuple",data:=.seq #[ds[i].key,ds[i].val]}=g2 at t2 u2 k2 ⊢;refine RW ?_;unfold Vr;refine RW (Vp t2 rfl (x:=.none) rfl (RZ ?_));simp only[if_true];refine RW (Vp t2 rfl (x:=ok) rfl (RW (Vp t2 rfl (x:=ov) rfl ?_)));refine RW (U1 t2 (by simp) λg3 t3 b3=>?_)
 replace b3:Ur it g2 g3:=b3
 replace t3:UW g3 it d (i+1) ds.size ep ds[i].key ov:=t3
 refine RW (U1 t3 (by simp) λg4 t4 b4=>?_)
 replace b4:Ur it g3 g4:=b4
 replace t4:UW g4 it d (i+1) ds.size ep ds[i].key ds[i].val:=t4
 refine RW (U1 t4 (by simp) λg5 t5 b5=>?_)
 replace b5:Ur it g4 g5:=b5
 replace t5:IsItemIterOut g5 it d (i+1) ds.size ep ds[i].key ds[i].val hp.objs.size:=t5
 refine RW (U1 t5 (by simp) λg6 t6 b6=>?_)
 replace b6:Ur it g5 g6:=b6
 replace t6:IsItemIterOut g6 it d (i+1) ds.size ep ds[i].key ds[i].val hp.objs.size:=t6
 have up:∀b o,b≠it->g2.get? b=some o->g6.get? b=some o:=λb o hb e=>b6.extBut b o hb (b5.extBut b o hb (b4.extBut b o hb (b3.extBut b o hb e)));exact RW (wpAny_letGo (RZ (RZ ⟨_,rfl,RZ (q g6 t6 (up _ _ (WX lt) u2) λb o hb e=>up b o hb (k2 b o hb e))⟩)))
theorem My {ok ov:R6}{Q:Option R6->Sk->Prop}(hh:A.handled=none)(t:UW s.heap it d i ds.size ep ok ov)(x:gf s.heap d ds ep)(hi:ds.size<=i)
  (q:∀h',Heap.ExtBut it s.heap h'->Q none {s with heap:=h'}):Sv (SN prog w) A (WA (.ref it)) Q E s:=by
 have ty:s.TypeIs (.ref it) "dict_itemiterator":=⟨_,t,rfl⟩;obtain⟨od,e1,e2,e3⟩:=x;unfold WA;refine RW (U_ (Te (name:=Us "__next__") ty Um (SI Um ty Wh ?_ (V4 _))));refine RW (RZ (RW (RW ?_)))
 first|refine RW (Ud ty (RZ ?_))|refine RW (UB ty (RZ ?_))
 refine RW (Vi t rfl ?_);simp only[show SY "dict_itemiterator"=true by decide,if_true];change Sv _ _ (if (Value.ref d==Value.none)=true then _ else _) _ _ s;rw[hZ (show ¬((Value.ref d==Value.none)=true) from R0)];refine RW (RZ (RW (S5 e1 e3 ?_)));rw[hZ (by simp)];refine RW (RZ (RW (TM e1 e3 ?_)));rw[hZ (by simp)];refine RZ ?_;simp only[show ¬((i:Int)<0) from by lia,if_false,SO,UZ hi];refine RW ?_
 first|refine RW (Ud ty (RZ ?_))|refine RW (UB ty (RZ ?_))
 change Sv _ _ (setField (.ref it) 2 .none >>= _) _ _ s;refine RW (V_ t rfl (by simp) ?_);change Sv _ _ (newExc (.type "StopIteration") [] >>= _) _ _ _;refine RW ?_;simp only[newExc,newTuple];refine RW (SG (hd:=by size_fits) ?_);refine RW (m:=Vj _ _) (wpAny_of_eq (a:=Value.none) (by first|rfl|(simp only[Vj];rfl)) (SG (hd:=by size_fits) ?_));simp only[raiseNew];refine RW (wpAny_handled ?_);rw[show A.in1.handled=none from hh];refine RW (RZ (wpAny_throw ?_));refine RW (Vl (b:=true) (T:="StopIteration") ⟨_,R9 _ rfl,rfl⟩ isSubtype_stop ?_);exact RZ (q _ (((UP ..).extBut.push _).push _))
end
end Hc.Dw
namespace L2
open Hc.Dw
theorem pN {α β:Type}{R:α->β->Prop}:∀{xs:List α} {ys:List β} {i:Nat} {y:β},Ws R xs ys->ys[i]? = some y->∃x,xs[i]? = some x/\R x y
 |_,_,_,_,.nil,h=>by simp at h
 |x::xs,y'::ys,0,y,.cons r t,h=>by simp at h;subst h;exact⟨x,by simp,r⟩
 |x::xs,y'::ys,i+1,y,.cons r t,h=>by
  obtain⟨x',m,q⟩:=pN t (i:=i) (by simpa using h);exact⟨x',by simpa using m,q⟩
theorem ay.rawD (I:ay X pins σ H s)(q:H a=some (DN a ep es)):(a==Tr)=false/\∃ds,gf s.heap a ds ep/\ds.size=es.length/\∀(i:Nat) (hi:i<ds.size),∃e,es[i]? = some e/\ds[i].key=.ref e.2.1/\aM e.2.2 ds[i].val:=by
 obtain⟨⟨l,o,ds,xs,h1,h2,h3,h4,h5⟩,_⟩:=I.hok a _ q;have n1:ds.size=es.length:=by rw[←SM,h5,RX,U6 h4]
 refine⟨l,ds,⟨o,h1,h2,h3⟩,n1,λi hi=>?_⟩;have e1:ds.toList[i]? = some ds[i]:=by rw[Tc];exact getElem?_pos ds i hi
 rw[h5,R_] at e1;cases e2:xs[i]? with
 |none=>rw[e2] at e1;cases e1
 |some x=>
  rw[e2] at e1;have e3:LJ x=ds[i]:=by injection e1
  obtain⟨e,m,r⟩:=pN h4 e2;refine⟨e,m,?_,?_⟩
  ·rw[←e3,r.2.1];rfl
  ·rw[←e3];exact r.2.2
noncomputable def QB (a:Sr)(ep:Nat)(es:List (List U×Sr×V)):It:=
 ⟨λi H=>H a=some (DN a ep es)/\i<es.length,λi H v H'=>H'=H/\∃e,es[i]? = some e/\v=.ref e.2.1,λi H=>H a=some (DN a ep es)/\es.length<=i⟩
noncomputable def OM (a:Sr)(ep:Nat)(es:List (List U×Sr×V)):It:=
 ⟨λi H=>H a=some (DN a ep es)/\i<es.length,λi H v H'=>H'=H/\∃e,es[i]? = some e/\v=e.2.2,λi H=>H a=some (DN a ep es)/\es.length<=i⟩
noncomputable def ON (a:Sr)(ep:Nat)(es:List (List U×Sr×V)):It:=
 ⟨λi H=>H a=some (DN a ep es)/\i<es.length,λi H v H'=>∃T e,v=.ref T/\H T=none/\es[i]? = some e/\H'=cu H T (.tup [.ref e.2.1,e.2.2]),λi H=>H a=some (DN a ep es)/\es.length<=i⟩
section
variable {w:Tq}{it:Sr}
theorem Ao:wz P w K tg (OM a ep es) [it] it (λi h=>h.IsValIter it a i es.length ep) where
 mem:=by simp
 obj:=λi h st b hb=>by
  have e:b=it:=by simpa using hb
  subst e;obtain⟨o,e,c,d⟩:=st;exact⟨o,e,λv z=>by rw[d] at z;cases z⟩
 keep:=λi h h' st k=>st.at λo e=>k it (by simp) o e
 item:=by
  intro X hP hw hK hc i pins s σ H E I hf st hg;subst hP hw hK;obtain⟨hq,hi⟩:=hg;obtain⟨_,ds,rd,n,at_⟩:=I.rawD hq;obtain⟨f0,f1,f2,f3,f4,f5⟩:=hf it (by simp);rw[←n] at st hi;obtain⟨e,m,ek,rv⟩:=at_ i hi;refine HN st rd hi λh' bq sb=>?_;have I1:ay X pins σ H {s with heap:=h'}:=I.turned (t':=s.toks) (λb o hb e=>(sb.2 b hb).trans e) f0 f1 f3 f4 f5;rw[n] at bq;obtain⟨o,e1,c,d⟩:=id bq;exact⟨_,rfl,x_ (s:={s with heap:=h'}) e1 c d (by decide) ⟨e.2.2,H,I1,rv,⟨rfl,e,m,rfl⟩,bq,λb hb=>(hf b hb).1⟩⟩
 done:=by
  intro X hP hw hK hc i pins s σ H E I hf st hg;subst hP hw hK;obtain⟨hq,hi⟩:=hg;obtain⟨_,ds,rd,n,at_⟩:=I.rawD hq;obtain⟨f0,f1,f2,f3,f4,f5⟩:=hf it (by simp);rw[←n] at st hi;exact HP (I.ok.hd hc) st rd hi λh' eb=>⟨rfl,I.turned (t':=s.toks) (λb o hb e=>eb b o hb e) f0 f1 f3 f4 f5⟩
 self:=λ_ _ _ _ _ st h=>wpAny_pyIter_valiter st h
theorem pO:entryFor table "dict_itemiterator.__iter__"=some Builtin.«dict_keyiterator.__iter__» :=
 entryFor_alias (id':="dict_keyiterator.__iter__") (by kernel_rfl) rfl (by decide+kernel) (by kernel_rfl)
theorem xj {A:S2}{ok ov:R6}(st:UW s.heap it a i n ep ok ov)(h:Q (.ref it) s):Sv (SN P w) A (pyIter (.ref it)) Q E s:=by
 have ty:s.TypeIs (.ref it) "dict_itemiterator":=⟨_,st,rfl⟩;refine V2 ty Wq (SI Wq ty pO ?_ (F.args_dict_itemiterator_iter_1 _));change Sv _ _ (ret (.ref it)) _ _ s;exact RZ ⟨_,rfl,"dict_itemiterator",_,ty,F.slot_dict_itemiterator_next.lookup,h⟩
theorem xk {kt:Nat}{tp:Pos}:wz P w K (.Tuple elts kt tp) (ON a ep es) [it] it (λi h=>∃ok ov,UW h it a i es.length ep ok ov) where
 mem:=by simp
 obj:=λi h st b hb=>by
  have e:b=it:=by simpa using hb
  subst e;obtain⟨ok,ov,q⟩:=st;exact⟨_,q,λv z=>by cases z⟩
 keep:=λi h h' ⟨ok,ov,q⟩ k=>⟨ok,ov,k it (by simp) _ q⟩
 item:=by
  intro X hP hw hK hc i pins s σ H E I hf st hg;subst hP hw hK;obtain⟨hq,hi⟩:=hg;obtain⟨_,ds,rd,n,at_⟩:=I.rawD hq;obtain⟨ok,ov,st⟩:=st;rw[←n] at st hi;obtain⟨e,m,ek,rv⟩:=at_ i hi;have lt:it<s.heap.objs.size:=Sl st;refine Mw st rd hi λh' bq tu kp=>⟨_,rfl,?_⟩;refine wpAny_letOwnedTupleGo_items bq λh2 kA sb=>?_;have Qg:=sb.extBut _ _ (WX lt) tu;have I2:ay X pins σ (cu H s.heap.objs.size (.tup [.ref e.2.1,e.2.2])) {s with heap:=h2}:=I.turnNew (fp:=[it]) (t':=s.toks) hf (λb o hb q=>by
   have hb:b≠it:=by simpa using hb
   exact sb.extBut _ _ hb (kp b o hb q)) (Sb _) ⟨by rw[Ut];simp,[ds[i].key,ds[i].val],.cons ek (.cons rv .nil),⟨_,Qg,rfl,_,rfl⟩,_,Qg⟩
  refine⟨.ref s.heap.objs.size,_,I2,rfl,⟨_,e,rfl,I.hok.fresh (Sb _),m,rfl⟩,⟨_,_,by rw[←n];exact kA⟩,λb hb=>?_⟩;have GH:b=it:=by simpa using hb
  rw[aL (by rw[GH];exact SJ lt)];exact (hf b hb).1
 done:=by
  intro X hP hw hK hc i pins s σ H E I hf st hg;subst hP hw hK;obtain⟨hq,hi⟩:=hg;obtain⟨_,ds,rd,n,at_⟩:=I.rawD hq;obtain⟨f0,f1,f2,f3,f4,f5⟩:=hf it (by simp);obtain⟨ok,ov,st⟩:=st;rw[←n] at st hi;exact My (I.ok.hd hc) st rd hi λh' eb=>⟨rfl,I.turned (t':=s.toks) (λb o hb e=>eb b o hb e) f0 f1 f3 f4 f5⟩
 self:=λ_ _ _ _ _ ⟨ok,ov,st⟩ h=>xj st h
end
def OO (J:Sr->Nat->List (List U×Sr×V)->It)(tl:TE):TI:=λσ H R=>tl σ H λx H1=>∃a ep es,x=.ref a/\H1 a=some (DN a ep es)/\R (J a ep es) H1
structure M0 (X:Cx)(o:T6)(m:Str)(cL cpos:Pos):Prop where
 base:Ww o m X.env (VP o X.env)=VP o X.env
 few:((Ux cpos (Sq [] X.env)).all (λx=> !x.1)&&(backToKw cpos (keywordEach [] X.env)).all (λx=>x.1.isSome)
  && decide (([]:List T6).length+([]:List Xa).length+(if ([]:List Xa).isEmpty then 0 else 1)<30))=true
 line:(cL.endLine==cpos.line)=true
 trees:Ux cpos (Sq [] X.env)=[]
section
variable {e:T6}{tl:TE}{cL cpos:Pos}
theorem xl (I:ay X pins σ H s)(q:H a=some (DN a ep es)):s.TypeIs (.ref a) "dict"/\∀b,Value.ref a=.ref b->∃ob,s.heap.get? b=some ob/\ob.dict=none:=by
 obtain⟨_,ds,rd,_⟩:=I.rawD q;refine⟨rd.ty,λb z=>?_⟩;cases z;obtain⟨o,h1,h2,_⟩:=rd;exact⟨o,h1,h2.2.1⟩
theorem C5 {kt:Nat}{tp:Pos}(hl:PE X e tl)(m:M0 X e "items" cL cpos):PI X (.Tuple elts kt tp) (.Call (.Attribute e "items" cL) [] [] cpos) (OO ON tl):=by
 intro pins s σ H R I h;refine V1 m.base m.few m.line UO PySem.F.slot_dict_items PySem.F.type_dict_items (cM (hl pins s σ H _ I h) λv s1 ⟨x,H1,I1,r1,a,ep,es,ex,hq,q⟩=>?_);subst ex;cases r1;obtain⟨t1,t2⟩:=xl I1 hq;refine⟨t1,t2,?_⟩;rw[m.trees];obtain⟨lo,ds,rd,n,_⟩:=I1.rawD hq;refine Uw rfl (Vb ?_);refine SI PySem.F.slot_dict_items t1 PySem.F.entry_dict_items (Mt lo rd λh1 vw k1=>?_) (PySem.F.args_dict_items_1 _);refine Mv vw (rd.at λo z=>k1 _ o z) λh2 st k2=>?_;have I2:ay X pins σ H1 {s1 with heap:=h2}:=I1.kept (t':=s1.toks) λb o z=>k2 b o (k1 b o z);refine⟨h1.objs.size,[h1.objs.size],_,_,H1,rfl,I2,xk (a:=a) (ep:=ep) (es:=es),⟨_,_,by rw[←n];exact st⟩,λb hb=>?_,q⟩;have e:b=h1.objs.size:=by simpa using hb
 have ge:s1.heap.objs.size<=h1.objs.size:=by
  obtain⟨o,z,_⟩:=vw;exact WW (Sl z)
 exact I1.fpOk (by rw[e];exact ge) (I1.hok.fresh (by rw[e];exact ge))
theorem FJ (hl:PE X e tl)(m:M0 X e "values" cL cpos):PI X tg (.Call (.Attribute e "values" cL) [] [] cpos) (OO OM tl):=by
 intro pins s σ H R I h;refine V1 m.base m.few m.line UO UJ Xp (cM (hl pins s σ H _ I h) λv s1 ⟨x,H1,I1,r1,a,ep,es,ex,hq,q⟩=>?_);subst ex;cases r1;obtain⟨t1,t2⟩:=xl I1 hq;refine⟨t1,t2,?_⟩;rw[m.trees];obtain⟨lo,ds,rd,n,_⟩:=I1.rawD hq;refine Uw rfl (Vb ?_);refine SI UJ t1 Xf (HL lo rd λh1 vw k1=>?_) (WT _);refine HM vw (rd.at λo z=>k1 _ o z) ?_;have I2:ay X pins σ H1 {s1 with heap:=h1.push {cls:=.type "dict_valueiterator",data:=.fields #[.ref a,.int 0 0,.int ds.size 0,.int ep 0]}}:=I1.kept (t':=s1.toks) λb o z=>R4 _ (k1 b o z);refine⟨h1.objs.size,[h1.objs.size],_,_,H1,rfl,I2,Ao (a:=a) (ep:=ep) (es:=es),⟨_,R9 _ rfl,rfl,by rw[n];rfl⟩,λb hb=>?_,q⟩;have e:b=h1.objs.size:=by simpa using hb
 have ge:s1.heap.objs.size<=h1.objs.size:=by
  obtain⟨o,z,_⟩:=vw;exact WW (Sl z)
 exact I1.fpOk (by rw[e];exact ge) (I1.hok.fresh (by rw[e];exact ge))
end
end L2
namespace L2
open Hc.Dw
mutual
theorem Mz {K:R1}{H:Hp}{A:Sr->Prop}:∀{u:U} {v:V},KH H u v->Rp K H A u v
 | .int i,v,h=>by unfold KH at h;unfold Rp;exact h
 | .tup us,v,h=>by
  unfold KH at h;unfold Rp;obtain⟨b,ys,e,q,l,z⟩:=h;exact⟨b,ys,e,q,l,xm z⟩
 | .non,v,h=>by unfold KH at h;exact h.elim
 | .bl _,v,h=>by unfold KH at h;exact h.elim
 | .str _,v,h=>by unfold KH at h;exact h.elim
 | .lst _,v,h=>by unfold KH at h;exact h.elim
 | .dct _ _,v,h=>by unfold KH at h;exact h.elim
 | .scr _,v,h=>by unfold KH at h;exact h.elim
 | .obj _ _,v,h=>by unfold KH at h;exact h.elim
theorem xm {K:R1}{H:Hp}{A:Sr->Prop}:∀{us:List U} {vs:List V},oG H us vs->aC K H A us vs
 | [],vs,h=>by unfold oG at h;unfold aC;exact h
 |u::us,vs,h=>by
  unfold oG at h;unfold aC;obtain⟨x,r,q,p,z⟩:=h;exact⟨x,r,q,Mz p,xm z⟩
end
theorem HQ (h:ui H us b):Rp K H A (.tup us) (.ref b):=by
 obtain⟨_,ys,q,l,z⟩:=h;unfold Rp;exact⟨b,ys,rfl,q,l,xm z⟩
noncomputable def MA:U->Bool
 | .tup _=>true
 |_=>false
noncomputable def pP (ks:List U):Bool:= !ks.isEmpty&&ks.all MA
theorem tm (w:pP ks=true)(d:sJ H a ks xs):∃es ep,H a=some (DN a ep es)/\(∀e∈es,ui H e.1 e.2.1)/\ks=es.map (λp=>.tup p.1)/\xs=es.map (·.2.2):=by
 unfold pP at w;rw[Sa] at w;rcases d with⟨aP,h,rfl,rfl⟩|⟨es,n,h,e1,e2⟩
 ·exfalso;cases aP with
  |nil=>exact absurd w.1 (by simp)
  |cons p r=>
   have:=w.2;rw[RY,Tx,Sa] at this;obtain⟨p1,p2⟩:=p;cases p1<;>cases this.1
 ·obtain⟨ep,q⟩:=h.ne n;exact⟨es,ep,q,h.key,e1,e2⟩
theorem HU (mu:∀a,A a->Mu (H1 a))(w:pP ks=true)(h:Rp K H1 A (.dct ks us) v):∃a ep es,v=.ref a/\H1 a=some (DN a ep es)/\
  Wk K false A ks (QB a ep es) H1/\Wk K false A us (OM a ep es) H1/\Wk K false A (Vw (λk u=>.tup [k,u]) ks us) (ON a ep es) H1:=by
 unfold Rp at h;obtain⟨a,xs,rfl,na,d,l,z⟩:=h;obtain⟨es,ep,q,kt,e1,e2⟩:=tm w d;subst e1 e2;have le:es.length=us.length:=by rw[z.length,RX]
 have key:∀(i:Nat) (e:List U×Sr×V),es[i]? = some e->Rp K H1 A (.tup e.1) (.ref e.2.1):=λi e he=>HQ (kt e (Uo he));have val:∀(i:Nat) (u:U),us[i]? = some u->∃e:List U×Sr×V,es[i]? = some e/\Rp K H1 A u e.2.2:=λi u hu=>by
  obtain⟨x,h1,h2⟩:=z.get hu;rw[R_] at h1;cases he:es[i]? with
  |none=>rw[he] at h1;cases h1
  |some e=>rw[he] at h1;cases h1;exact⟨e,rfl,h2⟩
 refine⟨a,ep,es,rfl,q,⟨?_,λH A' hx ha=>?_⟩,⟨l,λH A' hx ha=>?_⟩,⟨?_,λH A' hx ha=>?_⟩⟩
 ·rw[RX,le];exact l
 ·rw[hZ R0] at hx;have qa:=hx a _ na q;refine⟨λi u hu=>?_,⟨qa,by rw[RX];exact Sb _⟩⟩;rw[R_] at hu;cases he:es[i]? with
  |none=>rw[he] at hu;cases hu
  |some e=>
   rw[he] at hu;cases hu;refine⟨⟨qa,(R8.mp he).1⟩,λx H' y=>?_⟩;obtain⟨rfl,e',he',rfl⟩:=y;rw[he] at he';cases he';exact⟨aJ.refl _,(key i e he).re mu hx ha⟩
 ·rw[hZ R0] at hx;have qa:=hx a _ na q;refine⟨λi u hu=>?_,⟨qa,by rw[le];exact Sb _⟩⟩;obtain⟨e,he,r⟩:=val i u hu;refine⟨⟨qa,(R8.mp he).1⟩,λx H' y=>?_⟩;obtain⟨rfl,e',he',rfl⟩:=y;rw[he] at he';cases he';exact⟨aJ.refl _,r.re mu hx ha⟩
 ·rw[WK];exact Sz (Nat.min_le_right _ _) l
 ·rw[hZ R0] at hx;have qa:=hx a _ na q;refine⟨λi u hu=>?_,⟨qa,by rw[WK,RX,le,W4];exact Sb _⟩⟩;rw[List.getElem?_zipWith,R_] at hu;cases hU:us[i]? with
  |none=>rw[hU] at hu;cases h:es[i]? <;> rw[h] at hu<;>cases hu
  |some u0=>
   obtain⟨e,he,r⟩:=val i u0 hU;rw[hU,he] at hu;cases hu;refine⟨⟨qa,(R8.mp he).1⟩,λx H' y=>?_⟩;obtain⟨T,e',rfl,hT,he',rfl⟩:=y;rw[he] at he';cases he';have sm:=b_ hT (.tup [.ref e.2.1,e.2.2]);refine⟨sm,?_⟩;unfold Rp;exact⟨T,_,rfl,bo,by have:R3=16777216:=rfl;rw[this];simp,aC.cons (((key i e he).re mu hx ha).same sm) (aC.cons ((r.re mu hx ha).same sm) aC.nil)⟩
noncomputable def RM (g:Ev->R (U×Ev)):Ev->R (List U×Ev):=λρ=>(g ρ).bind λx=>match x.1 with
 | .dct ks _=>if pP ks=true then .ok (ks,x.2) else .stk
 |_=>.stk
noncomputable def OP (g:Ev->R (U×Ev)):Ev->R (List U×Ev):=λρ=>(g ρ).bind λx=>match x.1 with
 | .dct ks us=>if pP ks=true then .ok (us,x.2) else .stk
 |_=>.stk
noncomputable def HV (g:Ev->R (U×Ev)):Ev->R (List U×Ev):=λρ=>(g ρ).bind λx=>match x.1 with
 | .dct ks us=>if pP ks=true then .ok (Vw (λk u=>.tup [k,u]) ks us,x.2) else .stk
 |_=>.stk
section
variable {e:T6}{cL cpos:Pos}{b1:Bool}{m1:Md}{g1:Ev->R (U×Ev)}
theorem rK {f:List U->List U->List U}{J:Sr->Nat->List (List U×Sr×V)->It}(n1:m1≠.P)(hw:∀{K:R1} {A:Sr->Prop} {H1:Hp} {ks us:List U} {v:V},(∀a,A a->Mu (H1 a))->pP ks=true->Rp K H1 A (.dct ks us) v->∃a ep es,v=.ref a/\H1 a=some (DN a ep es)/\Wk K false A (f ks us) (J a ep es) H1){R:It->Hp->Prop}(h:NM X.K G b1 false (λρ=>(g1 ρ).bind λx=>match x.1 with
   | .dct ks us=>if pP ks=true then .ok (f ks us,x.2) else .stk
   |_=>.stk) σ H R):OO J (tD X.K G b1 m1 g1) σ H R:=by
 obtain⟨Z,A,ρ,q,h⟩:=h;dsimp only at h;refine⟨Z,A,ρ,q,?_⟩;cases e1:g1 ρ with
 |stk=>rw[e1] at h;exact h.elim
 |exc=>rw[e1] at h;exact h.elim
 |ok y=>
  obtain⟨u,ρ1⟩:=y;rw[e1] at h;intro v H1 q1 x1 s1 vm;cases u with
  |dct ks us=>
   dsimp only[L2.R.bind] at h;split at h
   ·rename_i QZ ρ' e2;split at e2
    ·rename_i c;cases e2;obtain⟨a,ep,es,ev,hq,wk⟩:=hw q1.mu c (vm.rp n1);exact⟨a,ep,es,ev,hq,h _ H1 q1 x1 s1 wk⟩
    ·cases e2
   ·exact h.elim
  |_=>exact h.elim
theorem FK (h:DE X G e b1 m1 g1)(n1:m1≠.P:=by decide)(m:M0 X e "values" cL cpos:=by exact⟨rfl,rfl,rfl,rfl⟩):DI X G tg (.Call (.Attribute e "values" cL) [] [] cpos) b1 false (OP g1):=⟨(FJ h.un m).to λσ H R z=>rK (f:=λ_ us=>us) n1 (λmu w r=>by
 obtain⟨a,ep,es,h1,h2,_,h3,_⟩:=HU mu w r;exact⟨a,ep,es,h1,h2,h3⟩) z⟩
theorem fK {kt:Nat}{tp:Pos}(h:DE X G e b1 m1 g1)(n1:m1≠.P:=by decide)(m:M0 X e "items" cL cpos:=by exact⟨rfl,rfl,rfl,rfl⟩):DI X G (.Tuple elts kt tp) (.Call (.Attribute e "items" cL) [] [] cpos) b1 false (HV g1):=⟨(C5 h.un m).to λσ H R z=>rK (f:=λks us=>Vw (λk u=>.tup [k,u]) ks us) n1 (λmu w r=>by
 obtain⟨a,ep,es,h1,h2,_,_,h3⟩:=HU mu w r;exact⟨a,ep,es,h1,h2,h3⟩) z⟩
end
end L2
namespace L2
noncomputable def Gm.un (G:Gm)(i:Nat):Gm:=⟨G.own.set i false,G.io,G.W⟩
theorem iD:(G.un i).is i=false:=by
 unfold Gm.un Gm.is;dsimp only;rw[S3,List.getElem?_set];split
 ·split<;>rfl
 ·rename_i h;exact absurd rfl h
theorem jg (h:i≠j):(G.un i).is j=G.is j:=by
 unfold Gm.un Gm.is;dsimp only;rw[S3,S3,SD h]
section
variable {A':Sr->Prop}{ρ':Ev}
theorem bW.un (r:bW K G Z A ρ σ H)(hi:G.io=true->i≠0):∃A',bW K (G.un i) Z A' ρ σ H:=by
 have io0:∀h:(G.un i).io=true,σ[0]? = some (some (.ref Z.a0))/\(G.un i).is 0=true:=λh=>by
  obtain⟨a,b⟩:=r.io0 h;exact⟨a,by rw[jg (hi h)];exact b⟩
 by_cases c:G.is i=true/\∃u,ρ[i]? = some (some u)
 ·obtain⟨c,u,hu⟩:=c;obtain⟨a,h1,h2,h3,h4,h5⟩:=r.own c hu;have na:¬Z.A0 a:=by
   rcases h4 with h4|⟨h4,h6⟩
   ·exact h4
   ·exact absurd h6 (hi h4)
  have sub:∀b,(A b/\b≠a)->A b:=λb z=>z.1;refine⟨λb=>A b/\b≠a,?_⟩;exact {
   slot:=λj w hj=>by
    obtain⟨v,s1,s2⟩:=r.slot j w hj;refine⟨v,s1,?_⟩;by_cases e:i=j
    ·subst e;rw[hu] at hj;cases hj;rw[h1] at s1;cases s1;rw[hZ (by rw[iD];exact R0)];exact h5.rp sub λz=>z.2 rfl
    ·rw[jg e];by_cases cj:G.is j=true
     ·rw[h9 cj] at s2 ⊢;obtain⟨b,e1,e2,e3,e4,e5⟩:=s2;refine⟨b,e1,⟨e2,λz=>?_⟩,e3,e4,e5.mono sub⟩;subst z e1;exact r.dis i j u w b c cj e hu hj h1 s1
     ·rw[hZ cj] at s2 ⊢;exact s2.mono sub
   dis:=λj k w w' b cj ck ne hj hk sj sk=>by
    have e1:i≠j:=λz=>by subst z;rw[iD] at cj;cases cj
    have e2:i≠k:=λz=>by subst z;rw[iD] at ck;cases ck
    rw[jg e1] at cj;rw[jg e2] at ck;exact r.dis j k w w' b cj ck ne hj hk sj sk
   mu:=λb z=>r.mu b z.1
   sup:=λb z=>⟨r.sup b z,λe=>na (e▸z)⟩
   out:=λb z=>r.out b z.1
   bas:=r.bas
   io0:=io0
   len:=r.len}
 ·refine⟨A,?_⟩;exact {
   slot:=λj w hj=>by
    obtain⟨v,s1,s2⟩:=r.slot j w hj;refine⟨v,s1,?_⟩;by_cases e:i=j
    ·subst e;rw[hZ (by rw[iD];exact R0)];rw[hZ (λz=>c ⟨z,w,hj⟩)] at s2;exact s2
    ·rw[jg e];exact s2
   dis:=λj k w w' b cj ck ne hj hk sj sk=>by
    have e1:i≠j:=λz=>by subst z;rw[iD] at cj;cases cj
    have e2:i≠k:=λz=>by subst z;rw[iD] at ck;cases ck
    rw[jg e1] at cj;rw[jg e2] at ck;exact r.dis j k w w' b cj ck ne hj hk sj sk
   mu:=r.mu
   sup:=r.sup
   out:=r.out
   bas:=r.bas
   io0:=io0
   len:=r.len}
theorem bW.reun (r:bW K (G.un i) Z A ρ σ H):bW K G Z A (ρ.set i none) σ H where
 slot:=λj w hj=>by
  rcases b9 hj with⟨rfl,e⟩|⟨ne,e⟩
  ·cases e
  ·obtain⟨v,s1,s2⟩:=r.slot j w e;rw[jg ne] at s2;exact⟨v,s1,s2⟩
 dis:=λj k w w' a cj ck ne hj hk sj sk=>by
  rcases b9 hj with⟨rfl,e⟩|⟨n1,e1⟩
  ·cases e
  ·rcases b9 hk with⟨rfl,e⟩|⟨n2,e2⟩
   ·cases e
   ·exact r.dis j k w w' a (by rw[jg n1];exact cj) (by rw[jg n2];exact ck) ne e1 e2 sj sk
 mu:=r.mu
 sup:=r.sup
 out:=r.out
 bas:=r.bas
 io0:=λh=>by
  obtain⟨a,b⟩:=r.io0 h;refine⟨a,?_⟩;by_cases e:i=0
  ·subst e;rw[iD] at b;cases b
  ·rw[jg e] at b;exact b
 len:=by rw[Tu];exact r.len
end
noncomputable def xn (i:Nat)(g:Ev->SR):Ev->SR:=λρ=>match g ρ with
 | .nx ρ'=>.nx (ρ'.set i none)
 | .bk ρ'=>.bk (ρ'.set i none)
 | .ct ρ'=>.ct (ρ'.set i none)
 | .rt u ρ'=>.rt u (ρ'.set i none)
 |r=>r
section
variable {e:T6}{sts:List Wv}{m m1:Md}{g:Ev->SR}{g1:Ev->R (U×Ev)}{h1:Ev->R (Bool×Ev)}
theorem C6 (hi:G.io=true->i≠0){D:lR}(h:KQ X.K G m (xn i g) D σ H):KQ X.K (G.un i) m g D σ H:=by
 obtain⟨Z,A,ρ,q,f⟩:=h;obtain⟨A',q'⟩:=q.un hi;refine⟨Z,A',ρ,q',?_⟩;unfold xn at f;cases e:g ρ with
 |nx=>rw[e] at f;exact λA2 σ2 H2 q2=>f A2 σ2 H2 q2.reun
 |bk=>rw[e] at f;exact λA2 σ2 H2 q2=>f A2 σ2 H2 q2.reun
 |ct=>rw[e] at f;exact λA2 σ2 H2 q2=>f A2 σ2 H2 q2.reun
 |rt=>rw[e] at f;exact λA2 σ2 H2 v q2 vm=>f A2 σ2 H2 v q2.reun vm
 |exc=>rw[e] at f;exact f
 |stk=>rw[e] at f;exact f.elim
theorem tq (i:Nat)(h:wq X (G.un i) m sts g)(hi:G.io=true->i≠0:=by decide):wq X G m sts (xn i g):=⟨h.un.to λ_ _ _ z=>C6 hi z⟩
end
end L2
section
set_option maxHeartbeats 400000
namespace L2
open PySem PySem.Spec PyProof.Rows PySem.W
noncomputable abbrev Gm.w (G:Gm)(W:Hp->Prop):Gm:=⟨G.own,G.io,W⟩
section
variable {w:Tq}{K:Frag}{base:UU}{bx:R6}{A:S2}{outer:List Env}{s0:Sk}{H0:Hp}{E:XK}
variable {np cpos:Pos}{e0:T6}{t:TA}{m:Md}{c:String}
theorem C7 (hx:mg x=some (.ref C))(hq:excIn K C uX "ValueError.__new__"=true)(hh:A.handled=none)
  (ha:PA (gb (Ak P w C) P w K mg base N qual scope f bx A outer s0 H0 E) [e0] t) (ht:∀σ H (Q:List V->Hp->Prop),(∀xs H',xs.length<=R3->aJ H H'->Q xs H')->t σ H Q) (hW:∀H',G.W H'->E (.ref C) none H')
  (hg:Gl (gb (Ak P w C) P w K mg base N qual scope f bx A outer s0 H0 E) x:=by rfl) (hd:(x==("__debug__":Str))=false:=by decide)
  (he:Sq [e0] (UM qual scope s0.heap.objs.size f bx)=(false,VP e0 (UM qual scope s0.heap.objs.size f bx))::Sq [] (UM qual scope s0.heap.objs.size f bx):=by rfl) :
  DS (gb (Ak P w C) P w K mg base N qual scope f bx A outer s0 H0 E) G m (.Raise (some (.Call (.Name x np) [e0] [] cpos)) none pos) (λ_=>.exc c .non):=
 ⟨(Cd hx hq hh ha hg hd he).to λD σ H ⟨Z,A',ρ,q,f⟩=>ht σ H _ λxs H' l sm=>⟨l,hW _ (f H' λa o h=>sm a o (q.bas a o h))⟩⟩
end
section
variable {w:Tq}{K:Frag}{base:UU}
theorem Df.fnX (G:Gm)(m:Md)(s:Ev->SR)(d:Df K mg x st)(S:aQ N ps (aj st))(hb:∀(kV ku pm:R6) (an:Option Sr) (bx ct:R6) (us:List R6),us.length=ps.length->bindArgs (TU x x (dD st) (bC st) (aj st) .none kV ku pm an bx ct) ⟨us,[]⟩=pure (ps.zip us))(zG:G.io=false)(jt:∀i,i<ps.length->G.is i=false)(eX:∀(f:Sr) (bx:R6) (A:S2) (outer:List Env) (s0:Sk) (H:Hp) (E:XK),dE k (A.deeper (UM x (aj st) s0.heap.objs.size f bx))->
   wq (gb (Ak P w C) P w K mg base N x (aj st) f bx A outer s0 H E) (G.w λH'=>E (.ref C) none H') m (bC st) s) :
  ∃(f:Sr) (fd:Vk),mg x=some (.ref f)/\T9 K (.ref f)=true/\kE K fd ps []/\il P w K mg base (Ak P w C) (k+1) f fd ps (PD K ps.length C λus=>∃c u,dh m N.length s us=.exc c u):=by
 obtain⟨f,fd,mm,F⟩:=d.ex;refine⟨f,fd,mm,F.kp,F.binds hb,?_⟩;obtain⟨oc,od,kV,ku,pm,an,bx,ct,GA,rfl,lk,kr⟩:=F.ex;refine GO (k:=k) (N:=N) lk kr S (λvs H Q E ⟨us,A,r,_,l,_⟩=>by rw[←r.length];exact l) λA outer s1 H vs Q E hr ⟨us,A0,r,mu,l,⟨c,u,hx⟩,hE⟩=>⟨_,(eX f bx A outer s1 H E hr).un,?_⟩;refine⟨⟨A0,H,0⟩,A0,_,rD (G:=G.w λH'=>E (.ref C) none H') (N:=N) r mu zG (λi hi=>jt i (by rw[←l];exact hi)),?_⟩;unfold dh at hx;cases e:s (b7 N.length us) with
 |exc=>exact λH' hb=>hE H' hb
 |nx=>rw[e] at hx;dsimp only at hx;split at hx<;>cases hx
 |rt=>rw[e] at hx;cases hx
 |bk=>rw[e] at hx;cases hx
 |ct=>rw[e] at hx;cases hx
 |stk=>rw[e] at hx;cases hx
end
end L2
end
namespace L2
open PySem.W
def XA (C:Sr)(th:TS)(D:lR)(σ:St):XK:=λ_ _ H2=>∀ea,H2 ea=none->th D σ (cu H2 ea (JS ea C))
def MB (C:Sr)(sp:Sp)(ta:TA)(th:TS):TS:=λD σ H=>ta σ H λvs H1=>sp vs H1 (λ_ _=>False) (XA C th D σ)
section
variable {cc:Sr}{g cn:Str}{p cp rp np hpos xp:Pos}{a:T6}{as:List T6}{b0:Wv}{suite:List Wv}{ta:TA}{th:TS}
theorem FN (F:il X.prog X.w X.K X.mg X.base (Ak X.prog X.w C) k f fd ps sp)(hr:dE k X.A)(hm:X.mg g=some (.ref f))(Q3:T9 X.K (.ref f)=true)(hb:kE X.K fd ps [])(zB:X.stack=X.env::X.outer)(Q4:X.env.frame=some X.env.locals)
  (hc:X.mg cn=some (.ref cc)) (Pe:exmOne X.K (.ref C) (.ref cc)=some true) (ha:PA X.nox (a::as) ta) (hs:∀ea,qy (X.hand (.ref ea)) (b0::suite) th)
  (hg:Gl X g:=by rfl) (Q5:Gl X cn:=by rfl) (wa:(g==("__debug__":Str))=false:=by decide) (Q7:(cn==("__debug__":Str))=false:=by decide)
  (he:Sq (a::as) X.env=(false,VP a X.env)::Sq as X.env:=by rfl) (oe:(Ux cp (Sq as X.env)).any (·.1)=false:=by rfl) (Q8:Wc (.Call (.Name g p) (a::as) [] cp) (some (.Name x xp)) rp.line X.env=pure false:=by rfl) :
  PS X (.Try [.Assign [.Name x xp] (.Call (.Name g p) (a::as) [] cp) rp] [.ExceptHandler (some (.Name cn np)) none (b0::suite) hpos] [] [] pos) (MB C sp ta th):=by
 intro pins s σ H D I h;have Q9:X.A.frames=some (X.env::X.outer):=by rw[←zB];exact I.ok.frames
 refine wpAny_Try_except ?_;refine wpAny_execs_cons (wpAny_Assign_Name ?_ Q8);refine VD (kC (X:=X) I hg hm ?_ wa);refine PySem.W.callWith_K (h₀:=X.base) I.ok.mod.kin Q3 (S8 (ha cp pins s σ H _ (I.wish _) h) (λus s1 ⟨vs,H1,J1,r,q⟩=>⟨J1.unwish.kIn,?_⟩) λ_ _ z=>z.elim) he oe;have I1:=J1.unwish;have hl:us.length=ps.length:=by rw[←r.length];exact F.len _ _ _ _ q
 have Q_:BindsTo s1 fd ⟨us,[]⟩ (ps.zip us):=by
  have z:=hb s1 us I1.kIn (by rw[Tg];exact hl);rw[Tg] at z;exact z
 refine wpAny_call (W2 (F.run X.A X.stack s1 H1 ⟨us,[]⟩ us vs _ _ hr I1.env0 Q_ r q) λr s' hq=>?_);cases r with
 |ok fl=>
  cases fl with
  |ret u=>
   obtain⟨v,H',_,_,_,_,_,z⟩:=hq;exact Ui z
  |next=>exact Ui hq
  |brk=>exact Ui hq
  |cont=>exact Ui hq
 |error e=>
  obtain⟨ea,t,L,B,rh,H2,rfl,os,bare,Fl,fl,up,nr,hE⟩:=hq;rw[zB] at fl;have n0:s1.heap.get? ea=none:=by
   cases z:s1.heap.get? ea with
   |none=>rfl
   |some ob=>
    obtain⟨o',z'⟩:=Fl.un.there ea ob z (by simp);rw[nr] at z';cases z'
  have n1:H2 ea=none:=by
   cases z:H2 ea with
   |none=>rfl
   |some ob=>
    obtain⟨o',z'⟩:=Ce (Fl.hok ea ob z);rw[nr] at z';cases z'
  obtain⟨hh,gg,dd,tt,oo⟩:=s';have os:oo=s1.os:=os;subst os;refine wpAny_looks_onW Q9 Q4 fl λh4 Nz Qh=>?_;refine wpAny_landsW Nz λh5 Pj Qi=>?_;have I5:=I1.fly (h:=h5) (g':=gg) (d':=dd) (t':=tt) Fl Pj.1 (up.trans (Qh.trans Qi)) bare;refine wpAny_handleBy_cons (codeAny_handlers_test ?_) (by intro q;cases q);refine kC (X:=X.hand (.ref ea)) (I5.hand _) Q5 hc ?_ Q7;obtain⟨ob,Qq,hoc⟩:=Pj.there;have LT:Looks (SN X.prog X.w) h5 (typeOf (.ref ea)) (.ref C):=hoc▸(Looks.ld Qq).andThen .now;refine (exm_one (M:=SN X.prog X.w) I5.kIn LT Pe).at ?_;refine codeAny_handlers_suite ?_;refine lands_againW Pj λh6 Qj Ra=>?_;have I6:=I1.fly (h:=h6) (g':=gg) (d':=dd) (t':=tt) Fl Qj.1 ((up.trans (Qh.trans Qi)).trans Ra) bare;have I7:=ay.track I1 n0 I6 n1 (FE (C:=C) Qj.there);refine S8 (hs ea pins _ _ _ _ (I7.hand (.ref ea)) (hE ea n1)) (λfl s9 hq=>?_) λ_ _ z=>z.elim;cases fl with
  |next=>
   obtain⟨σ',H',J,z⟩:=hq;exact⟨_,_,ay.unhand I.ok J,z⟩
  |brk=>
   obtain⟨σ',H',J,z⟩:=hq;exact⟨_,_,ay.unhand I.ok J,z⟩
  |cont=>
   obtain⟨σ',H',J,z⟩:=hq;exact⟨_,_,ay.unhand I.ok J,z⟩
  |ret u=>
   obtain⟨v,σ',H',J,rv,z⟩:=hq;exact⟨v,_,_,ay.unhand I.ok J,rv,z⟩
end
end L2
namespace Hc.Ts
section
variable {O:KeyOrd}(key:Vs->O.α)
def AW (l:List Vs):Prop:=l.Pairwise λx y=>O.kle (key x) (key y)
structure MI (T o ra rb:List Vs):Prop where
 perm:(o++(ra++rb)).Perm T
 so:AW key o
 sa:AW key ra
 sb:AW key rb
 oa:∀x∈o,∀y∈ra,O.kle (key x) (key y)
 ob:∀x∈o,∀y∈rb,O.kle (key x) (key y)
structure MH (T ra rb o:List Vs):Prop where
 perm:((ra++rb)++o).Perm T
 so:AW key o
 sa:AW key ra
 sb:AW key rb
 oa:∀x∈ra,∀y∈o,O.kle (key x) (key y)
 ob:∀x∈rb,∀y∈o,O.kle (key x) (key y)
variable {key}
end
structure C8 (M:Model)(A:S2)(E:R6->Sk->Prop)(s:Sk)(O:KeyOrd)(key:Vs->O.α)(knd:SortKind)(D:Vs->Prop):Prop where
 lt:∀(x y:Vs) (st:TQ) (Q:Option Bool->TQ->Prop),D x->D y->U0 st=knd->Q (some (O.blt (key x) (key y))) st->wpS M A E s (lt' x y) Q st
end Hc.Ts
namespace Hc.Ts
noncomputable def yY (lo n m:Nat):StateT TQ Sem AscSt:=forIn [n:m] ((none,n):AscSt) λ_ c=>do
 let some sm ←ltAt' (lo+c.2) (lo+c.2-1)|pure (.done (some none,c.2))
 if sm=true then pure (.done (none,c.2)) else pure (.yield (none,c.2+1))
noncomputable def yZ (lo n m:Nat):StateT TQ Sem (Option Nat):=do
 Wz lo (lo+n)
 let c ←yY lo n m
 match c.1 with
 |some r=>pure r
 |none=>pure (some c.2)
noncomputable def HW (lo:Nat)(c:DescSt):StateT TQ Sem (ForInStep DescSt):=do
 let some sm ←ltAt' (lo+c.2.1) (lo+c.2.1-1)|pure (.done (some none,c.2.1,c.2.2))
 if sm=true then
  if c.2.2>0 then do
   Wz (lo+c.2.1-(c.2.2+1)) (lo+c.2.1)
   pure (.yield (none,c.2.1+1,0))
  else pure (.yield (none,c.2.1+1,0))
 else do
  let some lg ←ltAt' (lo+c.2.1-1) (lo+c.2.1)|pure (.done (some none,c.2.1,c.2.2))
  if lg=true then pure (.done (none,c.2.1,c.2.2)) else pure (.yield (none,c.2.1+1,c.2.2+1))
noncomputable def C9 (lo n m:Nat):StateT TQ Sem DescSt:=forIn [n:m] ((none,n,0):DescSt) λ_ c=>HW lo c
noncomputable def y0 (lo n m:Nat):StateT TQ Sem (Option Nat):=do
 liftM (rule "list.sort.descending-run")
 let c ←C9 lo (n+1) m
 match c.1 with
 |some r=>pure r
 |none=>
  if c.2.2>0 then do
   Wz (lo+c.2.1-(c.2.2+1)) (lo+c.2.1)
   yZ lo c.2.1 m
  else yZ lo c.2.1 m
theorem u4 (lo m:Nat):countRun' lo m=(do
  let c ←yY lo 1 m
  match c.1 with
  |some r=>pure r
  |none=>
   if (c.2==m)=true then pure (some c.2)
   else if c.2>1 then do
    let some rs ←ltAt' lo (lo+c.2-1)|pure none
    if rs=true then pure (some c.2)
    else do
     Wz lo (lo+c.2)
     y0 lo c.2 m
   else y0 lo c.2 m):=by kernel_rfl
section
variable {A:S2}{O:KeyOrd}{key:Vs->O.α}{knd:SortKind}{D:Vs->Prop}{lo:Nat}{a0:Array Vs}{st0:TQ}
noncomputable def kx (key:Vs->O.α)(l:Array Vs)(i:Nat):O.α:=key ((l[i]?).getD (Value.none,Value.none))
theorem u5 {l m:Array Vs}(h:l[i]? = m[j]?):kx key l i=kx key m j:=by unfold kx;rw[h]
theorem xo {l:Array Vs}(hm:lo+m<=l.size)(k:Nat):kx key (mirror l (lo+n) (lo+m) ((lo+m-(lo+n)) / 2)) (lo+k)=if n<=k/\k<m then kx key l (lo+(n+m-1-k)) else kx key l (lo+k):=by
 have e:=getElem?_mirror_all (i:=lo+n) hm (lo+k);by_cases c:n<=k/\k<m
 ·rw[h9 (by lia)] at e;rw[h9 c];exact u5 (e.trans (by congr 1;lia))
 ·rw[hZ (by lia)] at e;rw[hZ c];exact u5 e
theorem eV {l:Array Vs}(hm:lo+m<=l.size)(he:∀k,n<=k->k<m->kx key l (lo+k)=kx key l (lo+m-1))(k:Nat):kx key (mirror l (lo+n) (lo+m) ((lo+m-(lo+n)) / 2)) (lo+k)=kx key l (lo+k):=by
 rw[xo hm];split
 ·rename_i c;rw[he _ (by lia) (by lia),he k c.1 c.2]
 ·rfl
theorem C_ {l:Array Vs}{p d:Nat}(hp:lo+p<l.size)(hd:d<=p)(k:Nat):kx key (bubble l (lo+p) d) (lo+k)=if k=p-d then kx key l (lo+p) else if p-d<k/\k<=p then kx key l (lo+(k-1)) else kx key l (lo+k):=by
 have e:=getElem?_bubble hp d (by lia) (lo+k);by_cases c:k=p-d
 ·rw[h9 (by lia)] at e;rw[h9 c];exact u5 e
 ·rw[hZ (by lia)] at e;rw[hZ c];by_cases c2:p-d<k/\k<=p
  ·rw[h9 (by lia)] at e;rw[h9 c2];exact u5 (e.trans (by congr 1;lia))
  ·rw[hZ (by lia)] at e;rw[hZ c2];exact u5 e
def AX (key:Vs->O.α)(lo:Nat)(l:Array Vs)(n:Nat):Prop:=∀i j,i<=j->j<n->O.kle (kx key l (lo+i)) (kx key l (lo+j))
def KS (key:Vs->O.α)(lo:Nat)(l:Array Vs)(n:Nat):Prop:=∀i j,i<=j->j<n->O.kle (kx key l (lo+j)) (kx key l (lo+i))
structure SB (lo:Nat)(a0:Array Vs)(st0 st:TQ):Prop where
 perm:(S9 st).Perm a0
 same:∀k,k<lo->(S9 st)[k]? = a0[k]?
 rest:st=setArr st0 (S9 st)
theorem SB.size {st:TQ}(h:SB lo a0 st0 st):(S9 st).size=a0.size:=h.perm.size_eq
theorem SB.put {st:TQ}(h:SB lo a0 st0 st){l:Array Vs}(hp:l.Perm (S9 st))(hs:∀k,k<lo->l[k]? = (S9 st)[k]?):SB lo a0 st0 (setArr st l):=by
 refine⟨hp.trans h.perm,λk hk=>(hs k hk).trans (h.same k hk),?_⟩;have:=h.rest;generalize S9 st=z at this;subst this;rfl
theorem SB.mir {st:TQ}(h:SB lo a0 st0 st)(hm:lo+m<=a0.size):SB lo a0 st0 (setArr st (mirror (S9 st) (lo+n) (lo+m) ((lo+m-(lo+n)) / 2))):=by
 refine h.put (mirror_perm _ _ _ _) λk hk=>?_;rw[getElem?_mirror_all (by rw[h.size];exact hm),hZ (by lia)]
theorem SB.bub {st:TQ}(h:SB lo a0 st0 st){p d:Nat}(hp:lo+p<a0.size)(hd:d<=p):SB lo a0 st0 (setArr st (bubble (S9 st) (lo+p) d)):=by
 refine h.put (bubble_perm _ _ _) λk hk=>?_;rw[getElem?_bubble (by rw[h.size];exact hp) d (by lia),hZ (by lia),hZ (by lia)]
theorem SB.kind {st:TQ}(h:SB lo a0 st0 st)(kd:U0 st0=knd):U0 st=knd:=by rw[h.rest];exact kd
theorem pQ (C:C8 M A E s O key knd D){st:TQ}{Q:Option Bool->TQ->Prop}(kd:U0 st0=knd)(hD:∀p∈a0.toList,D p)(hB:SB lo a0 st0 st)(hi:i<a0.size)(hj:j<a0.size)(h:Q (some (O.blt (kx key (S9 st) i) (kx key (S9 st) j))) st):wpS M A E s (ltAt' i j) Q st:=by
 have fd:∀i,i<a0.size->∃p,(S9 st)[i]? = some p/\D p/\kx key (S9 st) i=key p:=λi hi=>by
  have NA:i<(S9 st).size:=by rw[hB.size];exact hi
  refine⟨(S9 st)[i],getElem?_pos _ i NA,hD _ ((WU.mp hB.perm).mem_iff.mp (by simp)),?_⟩;unfold kx;rw[getElem?_pos _ i NA];rfl
 obtain⟨p,e1,d1,k1⟩:=fd i hi;obtain⟨q,e2,d2,k2⟩:=fd j hj;rw[k1,k2] at h;rw[ltAt'_eq];refine Tp (wpS_get ?_);dsimp only;rw[elem'_eq,elem'_eq,e1,e2];refine Tp (Uj (Tp (Uj ?_)));exact C.lt p q st Q d1 d2 (hB.kind kd) h
theorem tw {st:TQ}{Q:Unit->TQ->Prop}(h:Q () (setArr st (mirror (S9 st) i j ((j-i) / 2)))):wpS M A E s (Wz i j) Q st:=by
 rw[reverseSlice'_eq];exact wpS_modify h
theorem u6 (C:C8 M A E s O key knd D){st:TQ}{Q:AscSt->TQ->Prop}(kd:U0 st0=knd)(hD:∀p∈a0.toList,D p)(hm:lo+m<=a0.size)(n1:1<=n)(nm:n<=m)(hB:SB lo a0 st0 st)(ha:AX key lo (S9 st) n)(h:∀r,n<=r->r<=m->AX key lo (S9 st) r->(r=m\/O.klt (kx key (S9 st) (lo+r)) (kx key (S9 st) (lo+r-1)))->Q (none,r) st):wpS M A E s (yY lo n m) Q st:=by
 unfold yY;refine Wi (I:=λx c bq=>bq=st/\c=(none,x)/\AX key lo (S9 st) x) ?go ?out ⟨rfl,rfl,ha⟩
 case out=>
  rintro c bq ⟨rfl,rfl,ha'⟩;have e:max n m=m:=by lia
  rw[e] at ha' ⊢;exact h m nm (Sb _) ha' (.inl rfl)
 case go=>
  rintro x c bq h1 h2 ⟨rfl,rfl,ha'⟩;dsimp only;refine Tp (pQ C kd hD hB (by lia) (by lia) ?_);dsimp only;cases e:O.blt (kx key (S9 bq) (lo+x)) (kx key (S9 bq) (lo+x-1)) with
  |true=>
   rw[h9 rfl];exact Uj (h x h1 (by lia) ha' (.inr e))
  |false=>
   rw[hZ R0];refine Uj ⟨rfl,rfl,λi j xT hj=>?_⟩;by_cases c1:j<x
   ·exact ha' i j xT c1
   ·have:j=x:=by lia
    subst this;by_cases c2:i=j
    ·subst c2;exact Ue _
    ·have:=ha' i (j-1) (by lia) (by lia);rw[show lo+(j-1)=lo+j-1 by lia] at this;exact Vm this e
theorem u7 (C:C8 M A E s O key knd D){st:TQ}{Q:Option Nat->TQ->Prop}(kd:U0 st0=knd)(hD:∀p∈a0.toList,D p)(hm:lo+m<=a0.size)(n1:1<=n)(nm:n<=m)(hB:SB lo a0 st0 st)(hd:KS key lo (S9 st) n)(h:∀r bq,SB lo a0 st0 bq->1<=r->r<=m->AX key lo (S9 bq) r->Q (some r) bq):wpS M A E s (yZ lo n m) Q st:=by
 unfold yZ;refine Tp (tw ?_);have KZ:=hB.mir (n:=0) (m:=n) (by lia);have hz:lo+n<=(S9 st).size:=by rw[hB.size];lia
 rw[Nat.add_zero] at KZ;refine Tp (u6 C kd hD hm n1 nm KZ (λi j xT hj=>?_) λr r1 r2 r3 _=>Uj (h r _ KZ (by lia) r2 r3));have e1:=xo (key:=key) (lo:=lo) (n:=0) hz i;have e2:=xo (key:=key) (lo:=lo) (n:=0) hz j;rw[Nat.add_zero,h9 (by lia)] at e1 e2;rw[e1,e2];exact hd _ _ (by lia) (by lia)
theorem Dd (C:C8 M A E s O key knd D){st:TQ}{Q:DescSt->TQ->Prop}(kd:U0 st0=knd)(hD:∀p∈a0.toList,D p)(hm:lo+m<=a0.size)(n1:1<=n)(nm:n<=m)(hB:SB lo a0 st0 st)(hd:KS key lo (S9 st) n)(h:∀r q bq,SB lo a0 st0 bq->n<=r->r<=m->KS key lo (S9 bq) r->q+1<=r->(∀i,r-(q+1)<=i->i<r->kx key (S9 bq) (lo+i)=kx key (S9 bq) (lo+r-1))->Q (none,r,q) bq):wpS M A E s (C9 lo n m) Q st:=by
 unfold C9;refine Wi (I:=λx c bq=>∃q,c=(none,x,q)/\SB lo a0 st0 bq/\KS key lo (S9 bq) x/\q+1<=x/\∀i,x-(q+1)<=i->i<x->kx key (S9 bq) (lo+i)=kx key (S9 bq) (lo+x-1)) ?go ?out
  ⟨0,rfl,hB,hd,by lia,λi a1 a2=>by congr 1;lia⟩
 case out=>
  rintro c bq ⟨q,rfl,b1,b2,b3,b4⟩;have e:max n m=m:=by lia
  rw[e] at b2 b3 b4 ⊢;exact h m q bq b1 nm (Sb _) b2 b3 b4
 case go=>
  rintro x c bq h1 h2 ⟨q,rfl,b1,b2,b3,b4⟩;have hz:lo+x<=(S9 bq).size:=by rw[b1.size];lia
  unfold HW;dsimp only;refine Tp (pQ C kd hD b1 (by lia) (by lia) ?_);dsimp only;cases e:O.blt (kx key (S9 bq) (lo+x)) (kx key (S9 bq) (lo+x-1)) with
  |true=>
   rw[h9 rfl];have nx:∀l:Array Vs,(∀k,kx key l (lo+k)=kx key (S9 bq) (lo+k))->KS key lo l (x+1):=by
    intro l hl i j xT hj;rw[hl,hl];by_cases c1:j<x
    ·exact b2 i j xT c1
    ·have:j=x:=by lia
     subst this;by_cases c2:i=j
     ·subst c2;exact Ue _
     ·have:=b2 i (j-1) (by lia) (by lia);rw[show lo+(j-1)=lo+j-1 by lia] at this;exact Vm (V5 e) this
   by_cases c:q>0
   ·rw[h9 c];refine Tp (tw ?_);have e3:lo+x-(q+1)=lo+(x-(q+1)):=by lia
    rw[e3];refine Uj ⟨0,rfl,b1.mir (by lia),nx _ (eV hz b4),by lia,λi a1 a2=>?_⟩;congr 1;lia
   ·rw[hZ c];exact Uj ⟨0,rfl,b1,nx _ (λ_=>rfl),by lia,λi a1 a2=>by congr 1;lia⟩
  |false=>
   rw[hZ R0];refine Tp (pQ C kd hD b1 (by lia) (by lia) ?_);dsimp only;cases e2:O.blt (kx key (S9 bq) (lo+x-1)) (kx key (S9 bq) (lo+x)) with
   |true=>
    rw[h9 rfl];exact Uj (h x q bq b1 h1 (by lia) b2 b3 b4)
   |false=>
    rw[hZ R0];have eq:kx key (S9 bq) (lo+x)=kx key (S9 bq) (lo+x-1):=KeyOrd.kle_antisymm e2 e;refine Uj ⟨q+1,rfl,b1,λi j xT hj=>?_,by lia,λi a1 a2=>?_⟩
    ·by_cases c1:j<x
     ·exact b2 i j xT c1
     ·have:j=x:=by lia
      subst this;by_cases c2:i=j
      ·subst c2;exact Ue _
      ·rw[eq];have:=b2 i (j-1) (by lia) (by lia);rw[show lo+(j-1)=lo+j-1 by lia] at this;exact this
    ·rw[show lo+(x+1)-1=lo+x by lia];by_cases c1:i=x
     ·subst c1;rfl
     ·rw[eq];exact b4 i (by lia) (by lia)
theorem u9 (C:C8 M A E s O key knd D){st:TQ}{Q:Option Nat->TQ->Prop}(kd:U0 st0=knd)(hD:∀p∈a0.toList,D p)(hm:lo+m<=a0.size)(nm:n+1<=m)(hB:SB lo a0 st0 st)(hd:KS key lo (S9 st) (n+1))(h:∀r bq,SB lo a0 st0 bq->1<=r->r<=m->AX key lo (S9 bq) r->Q (some r) bq):wpS M A E s (y0 lo n m) Q st:=by
 unfold y0;refine Tp (wpS_lift (wpAny_rule ⟨rfl,?_⟩));refine Tp (Dd C kd hD hm (by lia) nm hB hd λr q bq b1 r1 r2 b2 b3 b4=>?_);dsimp only;have hz:lo+r<=(S9 bq).size:=by rw[b1.size];lia
 by_cases c:q>0
 ·rw[h9 c];refine Tp (tw ?_);have e3:lo+r-(q+1)=lo+(r-(q+1)):=by lia
  rw[e3];refine u7 C kd hD hm (by lia) r2 (b1.mir (by lia)) (λi j xT hj=>?_) h;have e1:=eV (key:=key) hz b4 i;have e2:=eV (key:=key) hz b4 j;rw[e1,e2];exact b2 i j xT hj
 ·rw[hZ c];exact u7 C kd hD hm (by lia) r2 b1 b2 h
theorem u_ (C:C8 M A E s O key knd D){st:TQ}{Q:Option Nat->TQ->Prop}(kd:U0 st0=knd)(hD:∀p∈a0.toList,D p)(hm:lo+m<=a0.size)(m1:1<=m)(hB:SB lo a0 st0 st)(h:∀r bq,SB lo a0 st0 bq->1<=r->r<=m->AX key lo (S9 bq) r->Q (some r) bq):wpS M A E s (countRun' lo m) Q st:=by
 rw[u4];refine Tp (u6 C kd hD hm (Sb 1) m1 hB (λi j xT hj=>by rw[show i=j by lia];exact Ue _) λn n1 n2 ha ho=>?_);dsimp only;by_cases c:n=m
 ·rw[h9 (by simpa using c)];exact Uj (h n st hB n1 n2 ha)
 ·rw[hZ (by simpa using c)];have hl:=ho.resolve_left c;by_cases c2:n>1
  ·rw[h9 c2];refine Tp (pQ C kd hD hB (by lia) (by lia) ?_);dsimp only;cases e:O.blt (kx key (S9 st) lo) (kx key (S9 st) (lo+n-1)) with
   |true=>
    rw[h9 rfl];exact Uj (h n st hB n1 n2 ha)
   |false=>
    rw[hZ R0];have hz:lo+n<=(S9 st).size:=by rw[hB.size];lia
    have al:∀k,0<=k->k<n->kx key (S9 st) (lo+k)=kx key (S9 st) (lo+n-1):=by
     intro k _ hk;have p1:=ha 0 k (by lia) hk;have p2:=ha k (n-1) (by lia) (by lia);rw[show lo+(n-1)=lo+n-1 by lia] at p2;exact KeyOrd.kle_antisymm p2 (Vm (show O.kle _ (kx key (S9 st) lo) from e) p1)
    refine Tp (tw ?_);have KZ:=hB.mir (n:=0) (m:=n) (by lia);rw[Nat.add_zero] at KZ;refine u9 C kd hD hm (by lia) KZ (λi j xT hj=>?_) h;have e1:=eV (key:=key) (n:=0) hz al i;have e2:=eV (key:=key) (n:=0) hz al j;rw[Nat.add_zero] at e1 e2;rw[e1,e2];by_cases c3:j<n
    ·rw[al i (by lia) (by lia),al j (by lia) c3];exact Ue _
    ·have:j=n:=by lia
     subst this;by_cases c4:i=j
     ·subst c4;exact Ue _
     ·rw[al i (by lia) (by lia)];exact V5 hl
  ·rw[hZ c2];have:n=1:=by lia
   subst this;refine u9 C kd hD hm (by lia) hB (λi j xT hj=>?_) h;by_cases c4:i=j
   ·subst c4;exact Ue _
   ·have Rb:i=0:=by lia
    have Rc:j=1:=by lia
    subst Rb;subst Rc;exact V5 hl
theorem xq (C:C8 M A E s O key knd D){st:TQ}{ok:Nat}{Q:Bool->TQ->Prop}(kd:U0 st0=knd)(hD:∀p∈a0.toList,D p)(hn:lo+n<=a0.size)(hok:ok<=n)(hB:SB lo a0 st0 st)(ha:AX key lo (S9 st) ok)(h:∀bq,SB lo a0 st0 bq->AX key lo (S9 bq) n->Q true bq):wpS M A E s (binarySort' lo n ok) Q st:=by
 rw[binarySort'_eq];refine Tp (wpS_mono (Wi (I:=λk c bq=>c=(none,())/\SB lo a0 st0 bq/\AX key lo (S9 bq) (min k n))
  (Q:=λc bq=>c=(none,())/\SB lo a0 st0 bq/\AX key lo (S9 bq) n) ?go ?out ?at0) ?end_)
 case end_=>
  rintro c bq ⟨rfl,b1,b2⟩;exact Uj (h bq b1 b2)
 case at0=>
  refine⟨rfl,hB,λi j xT hj=>?_⟩;by_cases c:ok=0
  ·rw[show i=j by lia];exact Ue _
  ·exact ha i j xT (by lia)
 case out=>
  rintro c bq ⟨e,b1,b2⟩;have e2:min (max (max ok 1) n) n=n:=by lia
  rw[e2] at b2;exact⟨e,b1,b2⟩
 case go=>
  rintro k c Ei hk1 Qr ⟨rfl,b1,b2⟩;have e1:min k n=k:=by lia
  rw[e1] at b2;have hk:lo+k<a0.size:=by lia
  refine Tp (wpS_mono (Wi (I:=λx c kA=>kA=Ei/\∃l r,c=(none,l,r)/\l<=r/\r<=k/\r-l<=k-x/\
    (∀i,i<l->O.kle (kx key (S9 Ei) (lo+i)) (kx key (S9 Ei) (lo+k)))/\∀i,r<=i->i<k->O.klt (kx key (S9 Ei) (lo+k)) (kx key (S9 Ei) (lo+i)))
   (Q:=λc kA=>kA=Ei/\∃l,c=(none,l,l)/\l<=k/\(∀i,i<l->O.kle (kx key (S9 Ei) (lo+i)) (kx key (S9 Ei) (lo+k)))/\∀i,l<=i->i<k->O.klt (kx key (S9 Ei) (lo+k)) (kx key (S9 Ei) (lo+i))) ?go2 ?out2 ?Pm) ?end2)
  case Pm=>exact⟨rfl,0,k,rfl,by lia,by lia,by lia,λi hi=>by lia,λi a1 a2=>by lia⟩
  case out2=>
   rintro c kA ⟨rfl,l,r,rfl,q1,q2,q3,q4,q5⟩;have:l=r:=by lia
   subst this;exact⟨rfl,l,rfl,q2,q4,q5⟩
  case go2=>
   rintro x c kA _ hx ⟨rfl,l,r,rfl,q1,q2,q3,q4,q5⟩;dsimp only;by_cases c:l≥r
   ·rw[h9 c];have:l=r:=by lia
    subst this;exact Uj ⟨rfl,l,rfl,q2,q4,q5⟩
   ·rw[hZ c];refine Tp (pQ C kd hD b1 hk (by lia) ?_);cases e:O.blt (kx key (S9 kA) (lo+k)) (kx key (S9 kA) (lo+(l+r) / 2)) with
    |true=>
     simp only[if_true];exact Uj ⟨rfl,l,(l+r) / 2,rfl,by lia,by lia,by lia,q4,λi a1 a2=>KeyOrd.klt_of_klt_of_kle e (b2 _ _ a1 a2)⟩
    |false=>
     simp only[SQ,if_false];exact Uj ⟨rfl,(l+r) / 2+1,r,rfl,by lia,by lia,by lia,λi a1=>Vm (b2 i ((l+r) / 2) (by lia) (by lia)) (show O.kle _ _ from e),q5⟩
  case end2=>
   rintro c kA ⟨rfl,l,rfl,q2,q4,q5⟩;dsimp only;rw[moveDown'_eq];have e2:lo+k-(lo+l)=k-l:=by lia
   refine Tp (wpS_modify (Uj ⟨rfl,?_,?_⟩))
   ·rw[e2];exact b1.bub hk (by lia)
   ·rw[show min (k+1) n=k+1 by lia];have hz:lo+k<(S9 kA).size:=by rw[b1.size];exact hk
    intro i j xT hj;show O.kle (kx key (bubble (S9 kA) (lo+k) (lo+k-(lo+l))) (lo+i)) (kx key (bubble (S9 kA) (lo+k) (lo+k-(lo+l))) (lo+j));rw[e2,C_ hz (by lia),C_ hz (by lia),show k-(k-l)=l by lia]
    repeat' split
    all_goals first
     | (exfalso;lia)
     |exact Ue _
     |exact q4 _ (by lia)
     |exact V5 (q5 _ (by lia) (by lia))
     |exact b2 _ _ (by lia) (by lia)
end
end Hc.Ts
namespace Hc.Ts
noncomputable def tE (lo n:Nat):StateT TQ Sem (ForInStep (Option Unit×Nat)):=do
 modify λst=>setPending st ((UK st).push (lo,n,0))
 pure (.yield (none,lo+n))
noncomputable def QC (pw:Nat)(_:Nat)(_:Option Unit×Unit):StateT TQ Sem (ForInStep (Option Unit×Unit)):=do
 let st ←get
 let some (_,_,GG):=(if (UK st).size>1 then (UK st)[(UK st).size-2]? else none)|pure (.done (none,()))
 if GG<=pw then pure (.done (none,())) else do
  let r ←mergeAt' ((UK st).size-2)
  if (!r)=true then pure (.done (some (),())) else pure (.yield (none,()))
noncomputable def OQ (pw:Nat)(st:TQ):TQ:=setPending st ((UK st).modify ((UK st).size-1) λx=>match x with|(p,n,_)=>(p,n,pw))
noncomputable def MC (size lo n pw:Nat):StateT TQ Sem (ForInStep (Option Unit×Nat)):=do
 let c ←forIn [0:size] ((none,()):Option Unit×Unit) (QC pw)
 match c.1 with
 |some r=>pure (.done (some r,lo))
 |none=>do
  modify (OQ pw)
  tE lo n
noncomputable def NV (size lo n:Nat):StateT TQ Sem (ForInStep (Option Unit×Nat)):=do
 let st ←get
 let some (p1,n1,_):=(UK st).back? | tE lo n
 MC size lo n (power' size (2*p1+n1) (2*p1+n1+n1+n) size)
noncomputable def PV (size xU:Nat)(_:Nat)(c:Option Unit×Nat):StateT TQ Sem (ForInStep (Option Unit×Nat)):=
 if c.2≥size then pure (.done (none,c.2)) else do
  let some n ←countRun' c.2 (size-c.2)|pure (.done (some (),c.2))
  if n<xU then do
   liftM (rule "list.sort.binary-insertion")
   let r ←binarySort' c.2 (min (size-c.2) xU) n
   if (!r)=true then pure (.done (some (),c.2)) else NV size c.2 (min (size-c.2) xU)
  else NV size c.2 n
noncomputable def QD (p:Array (Nat×Nat×Nat)):Nat:=
 if Option.any (λx=>decide (x<(p[p.size-2+1]?).elim 0 λx=>x.2.1)) (if p.size-2>0 then Option.map (λx=>x.2.1) p[p.size-2-1]? else none)=true then p.size-2-1 else p.size-2
noncomputable def PX (_:Nat)(_:Option Unit×Unit):StateT TQ Sem (ForInStep (Option Unit×Unit)):=do
 let st ←get
 if (UK st).size<=1 then pure (.done (none,())) else do
  let r ←mergeAt' (QD (UK st))
  if (!r)=true then pure (.done (some (),())) else pure (.yield (none,()))
theorem tF:sortRuns'=(do
  let st ←get
  let c ←forIn [0:(S9 st).size] ((none,0):Option Unit×Nat) (PV (S9 st).size (minRun' (S9 st).size (S9 st).size 0))
  match c.1 with
  |some r=>pure r
  |none=>do
   let d ←forIn [0:(S9 st).size] ((none,()):Option Unit×Unit) PX
   match d.1 with
   |some r=>pure r
   |none=>pure ()):=by kernel_rfl
section
variable {A:S2}{O:KeyOrd}{key:Vs->O.α}{knd:SortKind}{D:Vs->Prop}{a0:Array Vs}
theorem FO {l:Array Vs}(h:AX key 0 l l.size):AW key l.toList:=by
 refine List.pairwise_iff_getElem.mpr λi j hi hj xT=>?_;have at_:∀k,(hk:k<l.toList.length)->kx key l (0+k)=key l.toList[k]:=λk hk=>by
  unfold kx;rw[Nat.zero_add,←Tc,R5 hk];rfl
 have:=h i j (by lia) (by rwa [SM] at hj)
 rwa [at_ i hi,at_ j hj] at this
def MD (key:Vs->O.α)(a0:Array Vs)(st:TQ):Prop:=failedOf st=none/\(S9 st).toList.Perm a0.toList/\AW key (S9 st).toList/\(UK st).size<=1
theorem vc (C:C8 M A E s O key knd D)(hD:∀p∈a0.toList,D p){st:TQ}(hk:U0 st=knd)(hf:failedOf st=none)(ha:S9 st=a0)(hp:UK st=#[])(hz:a0.size<64)(h1:1<=a0.size){Q:Unit->TQ->Prop}
  (q:∀bq,failedOf bq=none->(S9 bq).toList.Perm a0.toList->AW key (S9 bq).toList->Q () bq):wpS M A E s sortRuns' Q st:=by
 have Rf:minRun' a0.size a0.size 0=a0.size:=by
  obtain⟨f,hf⟩:∃f,a0.size=f+1:=⟨a0.size-1,by lia⟩;have:minRun' (f+1) a0.size 0=a0.size:=by rw[minRun'_succ,h9 hz];rfl
  rw[←hf] at this;exact this
 rw[tF];refine Tp (wpS_get ?_);rw[ha,Rf];have push:∀bq,SB 0 a0 st bq->AX key 0 (S9 bq) a0.size->∀{Q:ForInStep (Option Unit×Nat)->TQ->Prop},(∀kA,MD key a0 kA->Q (.yield (none,0+a0.size)) kA)->wpS M A E s (NV a0.size 0 a0.size) Q bq:=by
  intro bq b NB Q h;have pe:UK bq=#[]:=by rw[b.rest];exact hp
  unfold NV;refine Tp (wpS_get ?_);rw[pe];show wpS M A E s (tE 0 a0.size) Q bq;unfold tE;refine Tp (wpS_modify (Uj (h _ ⟨?_,?_,?_,?_⟩)))
  ·rw[b.rest];exact hf
  ·exact WU.mp b.perm
  ·rw[←b.size] at NB;exact FO NB
  ·show ((UK bq).push _).size<=1;rw[pe];exact Sb 1
 have Qk:∀p∈a0.toList,D p:=hD;refine Tp (wpS_mono (Wi (I:=λx c bq=>c.1=none/\((x=0/\c.2=0/\bq=st)\/(c.2=a0.size/\MD key a0 bq))) (Q:=λc bq=>c.1=none/\MD key a0 bq) ?go ?out ⟨rfl,.inl ⟨rfl,rfl,rfl⟩⟩) ?post)
 case out=>
  rintro⟨c1,lo⟩ bq ⟨e,h⟩;rcases h with⟨x,_⟩|⟨_,h⟩
  ·lia
  ·exact⟨e,h⟩
 case go=>
  rintro x ⟨c1,lo⟩ bq _ hx ⟨e,h⟩;dsimp only at e h;unfold PV;dsimp only;rcases h with⟨rfl,rfl,rfl⟩|⟨rfl,h⟩
  ·rw[hZ (by lia)];have b0:SB 0 a0 bq bq:=⟨by rw[ha],λ_ _=>by rw[ha],rfl⟩;refine Tp (u_ C hk Qk (by lia) (by lia) b0 λn kA b1 n1 n2 NB=>?_);dsimp only;rw[Nat.sub_zero,W4] at *;by_cases c3:n<a0.size
   ·rw[h9 c3];refine Tp (wpS_lift (wpAny_rule ⟨rfl,?_⟩));refine Tp (xq C hk Qk (by lia) (by lia) b1 NB λKN b2 Pl=>?_);rw[hZ (by decide)];exact push KN b2 Pl λRg o=>⟨rfl,.inr ⟨Nat.zero_add _,o⟩⟩
   ·rw[hZ c3];obtain rfl:n=a0.size:=by lia
    exact push kA b1 NB λRg o=>⟨rfl,.inr ⟨Nat.zero_add _,o⟩⟩
  ·rw[h9 (Sb _)];exact Uj ⟨rfl,h⟩
 case post=>
  rintro⟨c1,lo⟩ bq ⟨e,h⟩;dsimp only at e ⊢;subst e;dsimp only;refine Tp (wpS_mono (Wi (I:=λx c bq=>c=(none,())/\MD key a0 bq) (Q:=λc bq=>c=(none,())/\MD key a0 bq) ?_ ?_ ⟨rfl,h⟩) ?_)
  ·rintro x c kA _ hx ⟨rfl,h2⟩;unfold PX;refine Tp (wpS_get ?_);rw[h9 h2.2.2.2];exact Uj ⟨rfl,h2⟩
  ·rintro c kA ⟨rfl,h2⟩;exact⟨rfl,h2⟩
  ·rintro c kA ⟨rfl,h2⟩;exact Uj (q kA h2.1 h2.2.1 h2.2.2.1)
end
end Hc.Ts
namespace Hc.Ts
section
variable {w:Tq}{A:S2}{O:KeyOrd}{key:Vs->O.α}{knd:SortKind}{D:Vs->Prop}
theorem rL {vs:List R6}{l:List Vs}(h:l.Perm (vs.zip vs)):(l.map (·.2)).Perm vs/\∀p∈l,p=(p.2,p.2):=by
 have e:(vs.zip vs).map (·.2)=vs:=by
  induction vs with
  |nil=>rfl
  |cons v r ih=>rw[W7,RY,List.map_snd_zip (by simp)]
 refine⟨by have:=h.map (·.2);rwa [e] at this,λp hp=>?_⟩;have hp:=h.mem_iff.mp hp;clear h e
 induction vs with
 |nil=>cases hp
 |cons v r ih=>
  rw[W7,Ss] at hp;rcases hp with hp|hp
  ·subst hp;rfl
  ·exact ih hp
theorem De {vs:List R6}{P:Fin->Sk->Prop}(ho:s.heap.get? a=some (W6 "list" vs.toArray n))(hz:vs.length<64)(hk:2<=vs.length->∀(h6:UU) (Q:SortKind->Sk->Prop),(∀b o,b≠a->s.heap.get? b=some o->h6.get? b=some o)->Q knd {s with heap:=h6}->Sv (SN prog w) A (keyKind' vs.toArray) Q E {s with heap:=h6})(hC:2<=vs.length->∀h6:UU,(∀b o,b≠a->s.heap.get? b=some o->h6.get? b=some o)->C8 (SN prog w) A E {s with heap:=h6} O key knd D)(hD:∀v∈vs,D (v,v))(h:∀out:List R6,out.Perm vs->out.Pairwise (λx y=>O.kle (key (x,x)) (key (y,y)))->P (.done (.ret .none)) {s with heap:=sortedHeap s.heap a vs out.toArray}) :
  Sv (SN prog w) A (Builtin.«list.sort» ⟨[.ref a],[]⟩) P E s:=by
 have Es:vs.length<=R3:=by rw[Ut];lia
 have la:a<s.heap.objs.size:=Sl ho;rw[list_sort_plain];refine RW (listItems_at ho rfl (RW (listUpdate_at ho rfl ?_ (hsz:=by rw[R7];exact Es))));obtain⟨e1,o1⟩:∃e1,(s.heap.update a (U8 λ_=>#[])).get? a=some (W6 "list" #[] e1):=⟨_,get?_update_seq ho (λ_=>#[])⟩;refine RW (seqEpoch_at o1 rfl (RW (wpAny_newTuple (RW (wpAny_newList (S7 ?_))) (by simpa using Es))));have kp:∀b o,b≠a->s.heap.get? b=some o->(((s.heap.update a (U8 λ_=>#[])).push (W6 "tuple" vs.toArray 0)).push (W6 "list" #[] 0)).get? b=some o:=λb o hb e=>
  R4 _ (R4 _ ((Heap.get?_update_ne _ _ _ _ hb).trans e))
 have o6:(((s.heap.update a (U8 λ_=>#[])).push (W6 "tuple" vs.toArray 0)).push (W6 "list" #[] 0)).get? a=some (W6 "list" #[] e1):=R4 _ (R4 _ o1);change Sv (SN prog w) A _ P E {s with heap:=((s.heap.update a (U8 λ_=>#[])).push (W6 "tuple" vs.toArray 0)).push (W6 "list" #[] 0)};dsimp only;have fin:∀bq:TQ,failedOf bq=none->(S9 bq).toList.Perm (pairsOf vs).toList->AW key (S9 bq).toList->Sv (SN prog w) A (do
   let touched:=(←seqEpoch a) != e1
   Builtin.List.listUpdate (.ref a) λ_=>(S9 bq).map (·.2)
   if let some e:=failedOf bq then rule "list.sort.comparison-raised";throw e
   if touched then rule "list.sort.modified";raiseError "ValueError" "list modified during sort"
   ret .none) P E {s with heap:=((s.heap.update a (U8 λ_=>#[])).push (W6 "tuple" vs.toArray 0)).push (W6 "list" #[] 0)}:=by
  intro bq f1 f2 f3;rw[Wa] at f2;obtain⟨m1,m2⟩:=rL f2;refine RW (seqEpoch_at o6 rfl (RW (listUpdate_at o6 rfl ?_ (hsz2:=by
   rw[Array.size_map,←SM,f2.length_eq,List.length_zip,W4];lia))))
  rw[f1];simp only[bne_self_eq_false,SQ,if_false];refine RZ ?_;have e:(S9 bq).map (·.2)=((S9 bq).toList.map (·.2)).toArray:=by apply Array.ext';simp
  rw[e];refine h _ m1 (V6.mpr (List.Pairwise.imp_of_mem (λ{x y} hx hy r=>?_) f3));rw[←m2 x hx,←m2 y hy];exact r
 by_cases h2:vs.length<2
 ·rw[h9 (by rw[R7];exact h2),h9 (by rw[R7];exact h2)];refine RW (RZ ?_);rw[StateT.run_pure];refine RW (RZ ?_);refine fin (SortSt.mk' general' (vs.toArray.zip vs.toArray) #[] 7 none) rfl (T_ _) ?_;change AW key (pairsOf vs).toList;rw[Wa]
  match vs,h2 with
  | [],_=>exact List.Pairwise.nil
  | [v],_=>exact VJ _ _
  |_::_::_,h2=>exact absurd h2 (by simp)
 ·rw[hZ (by rw[R7];exact h2),hZ (by rw[R7];exact h2)];refine RW (hk (by lia) _ _ kp ?_);refine RW (S8 (vc (hC (by lia) _ kp) (a0:=pairsOf vs) (λp hp=>?_) (st:=SortSt.mk' knd (vs.toArray.zip vs.toArray) #[] 7 none) rfl rfl rfl rfl (by rw[←SM,Wa,List.length_zip];lia) (by rw[←SM,Wa,List.length_zip];lia)
   (Q:=λ_ bq=>failedOf bq=none/\(S9 bq).toList.Perm (pairsOf vs).toList/\AW key (S9 bq).toList) λbq a1 a2 a3=>⟨a1,a2,a3⟩) ?_ λ_ _ e=>e)
  ·rw[Wa] at hp;obtain⟨m1,m2⟩:=rL (T_ (vs.zip vs));rw[m2 p hp];exact hD _ (m1.mem_iff.mp (Sy hp))
  ·rintro⟨⟨⟩,bq⟩ s' ⟨rfl,f1,f2,f3⟩;exact fin bq f1 f2 f3
end
end Hc.Ts
namespace Hc.Ts
open PySem.W
noncomputable def ft:List Int->List Int->Bool
 | [],[]=>false
 | [],_::_=>true
 |_::_,[]=>false
 |x::xs,y::ys=>if x=y then ft xs ys else decide (x<y)
theorem jh:∀a,ft a a=false
 | []=>rfl
 |x::xs=>by unfold ft;rw[h9 rfl];exact jh xs
theorem pR:∀a b c,ft a b=true->ft b c=true->ft a c=true
 | [],[],_,h,_=>by cases h
 | [],_::_,[],_,h=>by cases h
 | [],_::_,_::_,_,_=>rfl
 |_::_,[],_,h,_=>by cases h
 |_::_,_::_,[],_,h=>by cases h
 |x::xs,y::ys,z::zs,h1,h2=>by
  unfold ft at h1 h2 ⊢;by_cases e1:x=y
  ·subst e1;rw[h9 rfl] at h1;by_cases e2:x=z
   ·subst e2;rw[h9 rfl] at h2 ⊢;exact pR xs ys zs h1 h2
   ·rw[hZ e2] at h2 ⊢;exact h2
  ·rw[hZ e1] at h1;have h1:=of_decide_eq_true h1;by_cases e2:y=z
   ·subst e2;rw[hZ e1];exact hJ h1
   ·rw[hZ e2] at h2;have h2:=of_decide_eq_true h2;rw[hZ (by lia)];exact hJ (by lia)
theorem vd:∀a b c,ft a c=true->ft a b=true\/ft b c=true
 | [],[],_::_,_=>.inr rfl
 | [],_::_,_::_,_=>.inl rfl
 | [],_,[],h=>by cases h
 |_::_,_,[],h=>by cases h
 |_::_,[],_::_,_=>.inr rfl
 |x::xs,y::ys,z::zs,h=>by
  unfold ft at h ⊢;by_cases e:x=z
  ·subst e;rw[h9 rfl] at h;by_cases e2:x=y
   ·subst e2;rw[h9 rfl,h9 rfl];exact vd xs ys zs h
   ·rw[hZ e2,hZ (λq=>e2 q.symm),decide_eq_true_eq,decide_eq_true_eq];lia
  ·rw[hZ e] at h;have h:=of_decide_eq_true h;by_cases e2:x=y
   ·subst e2;exact .inr (by rw[hZ e];exact hJ h)
   ·by_cases e3:y=z
    ·subst e3;exact .inl (by rw[hZ e];exact hJ h)
    ·rw[hZ e2,hZ e3,decide_eq_true_eq,decide_eq_true_eq];lia
theorem ka:∀a b,ft a b=false->ft b a=false->a=b
 | [],[],_,_=>rfl
 | [],_::_,h,_=>by cases h
 |_::_,[],_,h=>by cases h
 |x::xs,y::ys,h1,h2=>by
  unfold ft at h1 h2;by_cases e:x=y
  ·subst e;rw[h9 rfl] at h1 h2;rw[ka xs ys h1 h2]
  ·rw[hZ e] at h1;rw[hZ (λq=>e q.symm)] at h2;have h1:=of_decide_eq_false h1;have h2:=of_decide_eq_false h2;lia
noncomputable def FP:KeyOrd:=⟨List Int,ft,jh,pR,vd,ka⟩
noncomputable def tG (h:UU)(v:R6):List Int:=match v with
 | .ref a=>match h.get? a with
  |some o=>match o.data with
   | .seq ax _=>ax.toList.map numOf
   |_=>[]
  |none=>[]
 |_=>[]
def vf (h:UU)(v:R6):Prop:=∃a ax ns,v=.ref a/\h.IsTuple a ax/\WE ax.toList ns/\ns≠[]
theorem vg:∀{vs:List R6} {ns:List Int},WE vs ns->vs.map numOf=ns
 |_,_,.nil=>rfl
 |_,_,.cons n t r=>by rw[RY,vg r];rfl
theorem lq {ax:Array R6}(t:h.IsTuple a ax)(i:WE ax.toList ns):tG h (.ref a)=ns:=by
 obtain⟨o,e,_,n,d⟩:=t;unfold tG;dsimp only;rw[e];dsimp only;rw[d];exact vg i
section
variable {w:Tq}{A:S2}{b fin:Bool}{Q:Bool->Sk->Prop}
theorem vh:∀{xs ys:List R6} {ns ms:List Int} {i:Nat},WE xs ns->WE ys ms->fin=decide (ns.length<ms.length)->Q (ft ns ms) s->KatLex prog w A b fin Q (xs.zip ys) i s
 |_,_,_,_,i,.nil,.nil,hf,h=>by subst hf;exact kat_nil h
 |_,_,_,_,i,.nil,.cons m t r,hf,h=>by subst hf;exact kat_nil (by rw[show decide (([]:List Int).length<(m::_).length)=true from hJ (by simp)];exact h)
 |_,_,_,_,i,.cons n t r,.nil,hf,h=>by subst hf;exact kat_nil (by rw[show decide ((n::_).length<([]:List Int).length)=false from hV (by simp)];exact h)
 |_,_,_,_,i,.cons n t r,.cons m u q,hf,h=>by
  refine kat_cons (wpAny_eqBool_int ?_);unfold ft at h;by_cases e:n=m
  ·subst e;rw[h9 rfl] at h;rw[beq_self_eq_true];refine kat_yes (vh r q ?_ h);rw[hf];simp
  ·rw[hZ e] at h;rw[show (n==m)=false from beq_eq_false_iff_ne.mpr e];refine kat_no ?_;cases hb:(b&&i==0) with
   |true=>exact oneLt_int h
   |false=>exact kat_one _ _ (lt_int h)
theorem FQ {hp:UU}(keep:∀v,vf hp v->vf s.heap v/\tG s.heap v=tG hp v):C8 (SN prog w) A E s FP (λx=>tG hp x.1) (tuples' true) (λx=>vf hp x.1) where
 lt:=λx y st Q dx dy kd q=>by
  obtain⟨k1,k2⟩:=keep _ dx;obtain⟨k3,k4⟩:=keep _ dy;obtain⟨a,xs,ns,e1,t1,i1,_⟩:=k1;obtain⟨c,ys,ms,e2,t2,i2,_⟩:=k3;rw[←k2,←k4,e1,e2,lq t1 i1,lq t2 i2] at q;rw[lt'_eq];refine Tp (wpS_get ?_);rw[kd,e1,e2];obtain⟨o1,g1,_,n1,d1⟩:=t1;obtain⟨o2,g2,_,n2,d2⟩:=t2;refine Tp (wpS_lift (U_ (kat_lt g1 d1 g2 d2 (vh i1 i2 ?_ ⟨rfl,?_⟩))))
  ·rw[←i1.length,←i2.length,SM,SM]
  ·exact Uj q
end
end Hc.Ts
namespace Hc.Dw
open PySem.W PySem.Calls
section
variable {w:Tq}{A:S2}{d r I:Sr}
theorem JW (hh:A.handled=none)(Er:d≠I):Walks prog w A I [I,d] [I] ds.size (λi v=>∃e,ds[i]? = some e/\v=e.key) (λi h=>h.IsKeyIter I d i ds.size ep/\gf h d ds ep) where
 sub:=λb hb=>by simp at hb;simp[hb]
 frame:=λ_ _ _ st hk=>⟨st.1.at λo e=>hk I (by simp) o e,st.2.at λo e=>hk d (by simp) o e⟩
 item:=λi s Q E hi st hQ=>Mr st.1 st.2 hi λh' t' sb=>hQ _ h' s.toks ⟨_,getElem?_pos ds i hi,rfl⟩ ⟨t',st.2.at λo e=>sb.extBut _ _ Er e⟩ λb o hb e=>sb.extBut b o (λh=>hb (by simp[h])) e
 done:=λs Q E st hQ=>Ms hh st.1 st.2 (Sb _) λh' eb=>hQ h' s.toks λb o hb e=>eb b o (λh=>hb (by simp[h])) e
 self:=λ_ _ _ _ st hQ=>wpAny_pyIter_keyiter st.1 hQ
theorem JX (hh:A.handled=none)(Er:d≠I):Walks prog w A I [I,d] [I] ds.size (λi v=>∃e,ds[i]? = some e/\v=e.val) (λi h=>h.IsValIter I d i ds.size ep/\gf h d ds ep) where
 sub:=λb hb=>by simp at hb;simp[hb]
 frame:=λ_ _ _ st hk=>⟨st.1.at λo e=>hk I (by simp) o e,st.2.at λo e=>hk d (by simp) o e⟩
 item:=λi s Q E hi st hQ=>HN st.1 st.2 hi λh' t' sb=>hQ _ h' s.toks ⟨_,getElem?_pos ds i hi,rfl⟩ ⟨t',st.2.at λo e=>sb.extBut _ _ Er e⟩ λb o hb e=>sb.extBut b o (λh=>hb (by simp[h])) e
 done:=λs Q E st hQ=>HP hh st.1 st.2 (Sb _) λh' eb=>hQ h' s.toks λb o hb e=>eb b o (λh=>hb (by simp[h])) e
 self:=λ_ _ _ _ st hQ=>wpAny_pyIter_valiter st.1 hQ
theorem OR (lo:(d==Tr)=false):KdlSrc prog w "dict" d d ds.size (λi v=>∃e,ds[i]? = some e/\v=e.key) (λh=>gf h d ds ep) where
 type:=λ_ hm=>hm.ty
 there:=λ_ hm=>⟨hm.lt,hm.lt⟩
 keep:=λ_ _ hm hk=>hm.at λo e=>hk d (.inl rfl) o e
 notList:=by decide
 notTuple:=by decide
 hint:=λ_ _ _ _ hm hq=>kdl_hint_dict hm.ty hq
 iter:=λ_ s hh hm=>⟨_,_,(λ_ _ hq=>Mq lo hm hq),JW hh (SJ hm.lt),⟨⟨_,R9 _ rfl,rfl,rfl⟩,hm.at λo e=>R4 _ e⟩⟩
theorem vi {P:Nat->R6->Prop}{OK:UU->Prop}(K:KdlSrc prog w T r d n P OK)(hh:A.handled=none)(hok:OK s.heap)(hn:n<=R3){Q:List R6->Sk->Prop}(q:∀h' tk b8,(∀b o,s.heap.get? b=some o->h'.get? b=some o)->ItemsOf P b8 n->Q b8.toList {s with heap:=h',toks:=tk}):Sv (SN prog w) A (collect (.ref r)) Q E s:=by
 have lt:=K.there _ hok;unfold collect;refine RW (wpAny_runValue (WI PySem.F.entry_proto_collect ?_));rw[Vd PySem.F.plain_proto_collect _];change Sv _ A.in1 (newList [] >>= λl=>again (.builtin "list.__iadd__" ⟨[l,.ref r],[]⟩)) _ _ s;refine RW (SG (RZ ⟨plainId_quiet PySem.F.plain_list_iadd _,WI PySem.F.entry_list_iadd ?_⟩));rw[Vd PySem.F.plain_list_iadd _];have hS:(s.heap.push {cls:=.type "list",data:=.seq ([]:List R6).toArray}).get? s.heap.objs.size=some {cls:=.type "list",data:=.seq #[] 0}:=R9 _ rfl;change Sv _ A.in1 (WJ (.ref s.heap.objs.size) (.ref r) (.ref s.heap.objs.size)) _ _ _;refine kdl_extend (A:=A) (R:=λx s'=>match x with
  | .ok (.ret v)=>Sv (SN prog w) A (match v with
   | .ref a=>do match (←load a).data with
    | .seq xs _=>pure xs.toList
    |_=>unsupported "internal:collect"
   |_=>unsupported "internal:collect") Q E s'
  | .ok _=>False
  | .error e=>E e s') (s:={s with heap:=s.heap.push {cls:=.type "list",data:=.seq ([]:List R6).toArray}}) K hh (K.keep _ _ hok λb _ o e=>R4 _ e) _ (WX lt.1) (WX lt.2) _ 0 hS (λh' tk b8 c' k' Nr nM=>?_) hn
 change Sv _ A (load s.heap.objs.size >>= _) _ _ _;refine RW (wpAny_load Nr ?_);exact RZ (q h' tk b8 (λb o e=>k' b o (SJ (Sl e)) (R4 _ e)) nM)
end
end Hc.Dw
namespace L2
open Hc.Dw Hc.Ts
noncomputable def vj:V->Int
 | .int i=>i
 |_=>0
noncomputable def gS (H:Hp)(b:Sr):List Int:=match H b with
 |some (.tup xs)=>xs.map vj
 |_=>[]
theorem vk (ns:List Int):(ns.map V.int).map vj=ns:=by
 induction ns with
 |nil=>rfl
 |cons n r ih=>rw[RY,RY,ih];rfl
def JY (K:R1)(H:Hp)(p:Sr)(bs:List Sr):Prop:=eN K H p (bs.map V.ref)\/fF K H p (bs.map V.ref)\/∃ep es,H p=some (DN p ep es)/\es.map (·.2.1)=bs
theorem mf:∀{bs:List Sr} {ax:List R6},aO (bs.map V.ref) ax->ax=bs.map Value.ref
 | [],_,.nil=>rfl
 |b::bs,_,.cons r t=>by rw[RY,mf t];cases r;rfl
theorem rM:∀(bs:List Sr),aO (bs.map V.ref) (bs.map Value.ref)
 | []=>.nil
 |b::bs=>.cons rfl (rM bs)
theorem Ap {bs:List Sr}{out:List R6}(h:out.Perm (bs.map Value.ref)):∃mE:List Sr,out=mE.map Value.ref/\mE.Perm bs:=by
 let g:R6->Sr:=λv=>match v with
  | .ref a=>a
  |_=>0
 refine⟨out.map g,?_,?_⟩
 ·rw[Sg]
  conv=>lhs;rw[←V7 out]
  apply Si;intro v hv;obtain⟨b,_,rfl⟩:=So.mp (h.mem_iff.mp hv);rfl
 ·have:=h.map g;rw[Sg] at this;have e:bs.map (g∘Value.ref)=bs:=by
   conv=>rhs;rw[←V7 bs]
   apply Si;intro b _;rfl
  rw[e] at this;exact this
theorem FR (I:ay X pins σ H s)(h:H b=some (.tup (ns.map V.int)))(n:ns≠[]):vf s.heap (.ref b)/\tG s.heap (.ref b)=gS H b:=by
 obtain⟨_,ax,rv,it,_⟩:=I.hok b _ h;have ia:=j4 rv;refine⟨⟨b,ax.toArray,ns,rfl,it,by simpa using ia,n⟩,?_⟩;rw[lq it (by simpa using ia)];unfold gS;rw[h];exact (vk ns).symm
theorem rN {v:R6}(t:vf h v)(k:∀b ax,h.IsTuple b ax->h'.IsTuple b ax):vf h' v/\tG h' v=tG h v:=by
 obtain⟨a,ax,ns,rfl,q,i,n⟩:=t;refine⟨⟨a,ax,ns,rfl,k a ax q,i,n⟩,?_⟩;rw[lq q i,lq (k a ax q) i]
theorem y3 {h:UU}:∀{vs:List R6},(∀v∈vs,vf h v)->∃fs,PySem.W.KatTups h vs fs/\fs.length=vs.length/\∀f∈fs,∃n t,f=.int n t
 | [],_=>⟨[],.nil,rfl,λf hf=>by cases hf⟩
 |v::vs,hv=>by
  obtain⟨fs,k1,k2,k3⟩:=y3 (vs:=vs) λu hu=>hv u (Sn _ hu);obtain⟨a,ax,ns,rfl,⟨o,e,c,n,d⟩,i,ne⟩:=hv v Sd;have:∃m t r,ax.toList=.int m t::r:=by
   generalize ax.toList=l at i;cases i with
   |nil=>exact absurd rfl ne
   |cons m t r=>exact⟨m,t,_,rfl⟩
  obtain⟨m,t,r,el⟩:=this;refine⟨.int m t::fs,.cons e c d (by rw[←Tc,el];rfl) k1,by rw[Sj,Sj,k2],λf hf=>?_⟩;rcases Ss.mp hf with rfl|hf
  ·exact⟨m,t,rfl⟩
  ·exact k3 f hf
noncomputable def ME:R6->Sr
 | .ref a=>a
 |_=>0
theorem xr {O:KeyOrd}{p:Sr}{bs:List Sr}{Q:VK}(kf:Sr->O.α)(knd:SortKind)(I:ay X pins σ H s)(hz:bs.length<64)(hu:X.A.units+64<Uu)
  (kk:∀(A:S2) (E:R6->Sk->Prop) (nq:List Sr) (s6:Sk) (Q6:SortKind->Sk->Prop),nq.Perm bs->2<=nq.length->(∀b o,s.heap.get? b=some o->s6.heap.get? b=some o)->Q6 knd s6->Sv (SN X.prog X.w) A (keyKind' (nq.map Value.ref).toArray) Q6 E s6)
  (kc:2<=bs.length->∀(A:S2) (E:R6->Sk->Prop) (s6:Sk),A.units<Uu->(∀b o,s.heap.get? b=some o->s6.heap.get? b=some o)->C8 (SN X.prog X.w) A E s6 O (λx=>kf (ME x.1)) knd (λx=>∃b∈bs,x.1=.ref b))
  (col:∀(Q:List R6->Sk->Prop) (E:R6->Sk->Prop),(∀h1 tk (nq:List Sr),nq.Perm bs->(∀b o,s.heap.get? b=some o->h1.get? b=some o)->Q (nq.map Value.ref) {s with heap:=h1,toks:=tk})->Sv (SN X.prog X.w) X.A.in1 (collect (.ref p)) Q E s)
  (q:∀(l:Sr) (mE:List Sr),H l=none->mE.Perm bs->mE.Pairwise (λx y=>O.blt (kf y) (kf x)=false)->Q (.ref l) (cu H l (.lst (mE.map V.ref)))) :
  Sv (SN X.prog X.w) X.A (call (.builtin "sorted") [.ref p]) (EP X pins σ Q) X.xe s:=by
 refine Xd kind_sorted plain_sorted entry_sorted (args_sorted1 _) ?_;unfold Builtin.«sorted»;refine RW (m:=checkCount "sorted" 1 1 _) (RZ ?_);refine RW (col _ _ λh1 tk nq AO k1=>?_);have hz:nq.length<64:=by rw[AO.length_eq];exact hz
 have Es:nq.length<=R3:=by rw[Ut];lia
 have I1:ay X pins σ H {s with heap:=h1,toks:=tk}:=I.kept (t':=tk) k1;refine RW (wpAny_newList ?_ (by rw[RX];exact Es));have KD:(h1.push {cls:=.type "list",data:=.seq (nq.map Value.ref).toArray}).get? h1.objs.size=some (W6 "list" (nq.map Value.ref).toArray 0):=R9 _ rfl;have kt:∀(h6:UU),(∀b o,b≠h1.objs.size->(h1.push {cls:=.type "list",data:=.seq (nq.map Value.ref).toArray}).get? b=some o->h6.get? b=some o)->∀b o,s.heap.get? b=some o->h6.get? b=some o:=λh6 k6 b o e=>
  k6 b o (SJ (Sl (k1 b o e))) (R4 _ (k1 b o e))
 refine RW (S7 (SI slot_list_sort ⟨_,KD,rfl⟩ entry_list_sort (De (s:={s with heap:=h1.push {cls:=.type "list",data:=.seq (nq.map Value.ref).toArray},toks:=tk}) (O:=O) (key:=λx=>kf (ME x.1)) (knd:=knd) (D:=λx=>∃b∈bs,x.1=.ref b) KD (by rw[RX];exact hz)
  (λh2 h6 Q6 k6 q6=>kk _ _ nq _ _ AO (by rw[RX] at h2;exact h2) (kt h6 k6) q6) (λh2 h6 k6=>kc (by rw[RX] at h2;rw[←AO.length_eq];exact h2) _ _ _ (by show X.A.units+1+1<Uu;lia) (kt h6 k6)) (λv hv=>by
   obtain⟨b,hb,rfl⟩:=So.mp hv;exact⟨b,AO.mem_iff.mp hb,rfl⟩) λout hp hw=>⟨_,rfl,?_⟩) (args_list_sort _)))
 obtain⟨mE,e,zF⟩:=Ap hp;subst e;obtain⟨ee,he⟩:=sortedHeap_at (out:=(mE.map Value.ref).toArray) KD;have keep:∀b o,h1.get? b=some o->(sortedHeap (h1.push {cls:=.type "list",data:=.seq (nq.map Value.ref).toArray}) h1.objs.size (nq.map Value.ref) (mE.map Value.ref).toArray).get? b=some o:=λb o e=>by
  have hb:=Sl e;rw[sortedHeap_old (SJ hb) (by rw[Xc];exact V0 hb)];exact R4 _ e
 have A5:(mE.map V.ref).length<=R3:=by rw[RX,zF.length_eq];exact Es
 refine RZ ⟨_,rfl,.ref h1.objs.size,_,I1.laid (t':=tk) keep (Sb _) (show bz X.prog X.w _ _ _ (.lst _) from ⟨A5,mE.map Value.ref,ee,rM mE,by simpa using he⟩),rfl,q _ mE (I1.hok.fresh (Sb _)) (zF.trans AO) ?_⟩;exact V6.mp hw
theorem vn {p:Sr}{bs:List Sr}{Q:VK}(I:ay X pins σ H s)(hz:bs.length<64)(hu:X.A.units+64<Uu)(tu:∀b∈bs,∃ns:List Int,H b=some (.tup (ns.map V.int))/\ns≠[])
  (col:∀(Q:List R6->Sk->Prop) (E:R6->Sk->Prop),(∀h1 tk (nq:List Sr),nq.Perm bs->(∀b o,s.heap.get? b=some o->h1.get? b=some o)->Q (nq.map Value.ref) {s with heap:=h1,toks:=tk})->Sv (SN X.prog X.w) X.A.in1 (collect (.ref p)) Q E s)
  (q:∀(l:Sr) (mE:List Sr),H l=none->mE.Perm bs->mE.Pairwise (λx y=>ft (gS H y) (gS H x)=false)->Q (.ref l) (cu H l (.lst (mE.map V.ref)))) :
  Sv (SN X.prog X.w) X.A (call (.builtin "sorted") [.ref p]) (EP X pins σ Q) X.xe s:=by
 have tI:∀b∈bs,vf s.heap (.ref b)/\tG s.heap (.ref b)=gS H b:=λb hb=>by
  obtain⟨ns,e,ne⟩:=tu b hb;exact FR I e ne
 have kt:∀(h6:UU),(∀b o,s.heap.get? b=some o->h6.get? b=some o)->∀b ax,s.heap.IsTuple b ax->h6.IsTuple b ax:=λh6 k6 b ax ⟨o,e,z⟩=>⟨o,k6 b o e,z⟩;refine xr (O:=FP) (gS H) (tuples' true) I hz hu (λA E nq s6 Q6 AO h2 k6 q6=>?_) (λ_ A E s6 hA k6=>?_) col q
 ·obtain⟨fs,f1,f2,f3⟩:=y3 (h:=s6.heap) (vs:=nq.map Value.ref) λv hv=>by
   obtain⟨b,hb,rfl⟩:=So.mp hv;exact (rN (tI b (AO.mem_iff.mp hb)).1 (kt _ k6)).1
  exact PySem.W.kat_kind (T:=.type "int") f1 (by rw[f2,RX];lia) (λv hv=>by
   obtain⟨n,t,rfl⟩:=f3 v hv;exact PySem.W.Looks.of_pure rfl) (by decide) q6
 ·have c:=FQ (prog:=X.prog) (w:=X.w) (A:=A) (E:=E) (s:=s6) (hp:=s.heap) λv hv=>rN hv (kt _ k6);refine⟨λx y st Q dx dy kd qq=>?_⟩;obtain⟨b,hb,e1⟩:=dx;obtain⟨d,hd,e2⟩:=dy;refine c.lt x y st Q (by rw[e1];exact (tI b hb).1) (by rw[e2];exact (tI d hd).1) kd ?_;rw[e1,e2,(tI b hb).2,(tI d hd).2];rw[e1,e2] at qq;exact qq
theorem tH (hc:X.calm=true)(hu:X.A.units+64<Uu):dW X (.builtin "sorted") (λxs H Q=>∃(p:Sr) (bs:List Sr),xs=[.ref p]/\JY X.K H p bs/\bs.length<64/\(∀b∈bs,∃ns:List Int,H b=some (.tup (ns.map V.int))/\ns≠[])/\
  ∀(l:Sr) (mE:List Sr),H l=none->mE.Perm bs->mE.Pairwise (λx y=>ft (gS H y) (gS H x)=false)->Q (.ref l) (cu H l (.lst (mE.map V.ref)))):=by
 intro pins s σ H xs us Q I r h;obtain⟨p,bs,rfl,Nt,hz,tu,q⟩:=h;obtain⟨u,rfl,rx⟩:=iX r;cases rx;have Es:bs.length<=R3:=by rw[Ut];lia
 have col:∀(Q:List R6->Sk->Prop) (E:R6->Sk->Prop),(∀h1 tk (nq:List Sr),nq.Perm bs->(∀b o,s.heap.get? b=some o->h1.get? b=some o)->Q (nq.map Value.ref) {s with heap:=h1,toks:=tk})->Sv (SN X.prog X.w) X.A.in1 (collect (.ref p)) Q E s:=by
  intro Q E hq;rcases Nt with hs|hs|⟨ep,es,hs,rfl⟩
  ·obtain⟨ax,rv,pl,_⟩:=I.list hs;obtain⟨o,e,c,n,d⟩:=pl.isList;have e2:=mf rv;subst e2;exact Xn p (.inl rfl) e c d (λh1 k1=>by simpa using hq h1 s.toks bs (T_ _) k1) (by rw[R7,RX];exact Es)
  ·obtain⟨ax,rv,pl,_⟩:=I.tuple hs;obtain⟨o,e,c,n,d⟩:=pl;have e2:=mf rv;subst e2;exact Xn p (.inr rfl) e c d (λh1 k1=>by simpa using hq h1 s.toks bs (T_ _) k1) (by rw[R7,RX];exact Es)
  ·obtain⟨lo,ds,rd,n,at_⟩:=I.rawD hs;refine vi (A:=X.A.in1) (OR lo) (I.ok.hd hc) rd (by rw[n];rw[RX] at Es;exact Es) λh1 tk b8 k1 ia=>?_;have e:b8.toList=(es.map (·.2.1)).map Value.ref:=by
    apply List.ext_getElem?;intro i;rw[Tc,Sg,R_];by_cases hi:i<b8.size
    ·rw[getElem?_pos b8 i hi];obtain⟨en,e1,e2⟩:=ia.2 i _ (getElem?_pos b8 i hi);have NA:i<ds.size:=by rw[←ia.1];exact hi
     rw[getElem?_pos ds i NA] at e1;cases e1;obtain⟨x,m,ek,_⟩:=at_ i NA;rw[m,e2,ek];rfl
    ·rw[getElem?_neg b8 i hi,List.getElem?_eq_none (by rw[←n,←ia.1];lia)];rfl
   rw[e];exact hq h1 tk _ (T_ _) k1
 exact vn I hz hu tu col q
end L2
namespace Hc.Dw
open PySem.W
section
variable {w:Tq}{K:Type}[DecidableEq K]{knd:HeapKind prog w K}{A:S2}
noncomputable def mj (ys:List (K×Sr×R6))(x:K×Sr×R6):Bool:=match atKey ys x.1 with
 |some p=>numOf x.2.2==numOf p.2
 |none=>false
def vo (xs:List (K×Sr×R6)):Prop:=∀x∈xs,∃n t,x.2.2=.int n t
theorem xt {nm:String}{xs ys:List (K×Sr×R6)}{Q:Bool->Sk->Prop}(la:(a==Tr)=false)(lb:(b==Tr)=false)(hu:knd.room A)(da:s.heap.DictOfH knd a xs)(db:s.heap.DictOfH knd b ys)(nx:vo xs)(ny:vo ys)(h:Q (xs.length==ys.length&&xs.all (mj ys)) s):Sv (SN prog w) A (Builtin.Dict.samePairs nm a b) Q E s:=by
 obtain⟨oa,es,ep,a1,_,a2,a3,a4,a5⟩:=da;obtain⟨ob,fs,eq,b1,_,b2,b3,b4,b5⟩:=db;have n1:es.size=xs.length:=by rw[←SM,a3,RX]
 have n2:fs.size=ys.length:=by rw[←SM,b3,RX]
 have Rh:∀i (hi:i<es.size) (hx:i<xs.length),es[i]=entryOfKey knd xs[i]:=λi hi hx=>by
  have e:es.toList[i]? = some es[i]:=by rw[Tc];exact getElem?_pos es i hi
  rw[a3,R_,R5 hx] at e;injection e with e
  exact e.symm
 have Pm:∀(j:Nat) y,ys[j]? = some y->fs[j]? = some (entryOfKey knd y):=λj y e=>by
  rw[←Tc,b3,R_,e];rfl
 unfold Builtin.Dict.samePairs TY;rw[hZ (by rw[la];exact R0),hZ (by rw[lb];exact R0)];refine RW (RZ (RW (RZ (RW (S5 a1 a2 (RW (S5 b1 b2 ?_)))))));by_cases c:es.size=fs.size
 ·rw[hZ (by rw[c];simp)];have h':Q (xs.all (mj ys)) s:=by
   have:(xs.length==ys.length)=true:=by rw[←n1,←n2,c];exact beq_self_eq_true _
   rw[this,Bool.true_and] at h;exact h
  refine RW (TM a1 a2 (RW ?_));rw[Std.Legacy.Range.forIn_eq_forIn_range'];simp only[Std.Legacy.Range.size,Nat.sub_zero,Nat.add_sub_cancel,Nat.div_one];refine wpAny_forIn_list _ (λl q s'=>s'=s/\q=(none,())/\∃i,l=List.range' i (es.size-i)/\i<=es.size/\xs.all (mj ys)=(xs.drop i).all (mj ys)) _ ?_ ?_ _ _ ⟨rfl,rfl,0,by simp,WG _,rfl⟩
  ·rintro k l q s' ⟨rfl,rfl,i,hl,hi,ha⟩;have lt:i<es.size:=by
    rcases Wj i es.size with z|z
    ·exact z
    ·rw[Nat.sub_eq_zero_of_le z] at hl;simp at hl
   obtain⟨m,hm⟩:∃m,es.size-i=m+1:=⟨es.size-(i+1),by lia⟩;rw[hm,List.range'_succ] at hl;injection hl with e1 e2
   subst e1;have hx:k<xs.length:=by rw[←n1];exact lt
   refine RW (S5 a1 a2 ?_);rw[TJ lt];change Sv _ _ (holding [es[k].key,es[k].val] _ >>= _) _ _ _;rw[Rh k lt hx];rw[Tj hx,Tx] at ha;obtain⟨nn,nt,en⟩:=nx xs[k] (S6 hx);refine RW (S7 (RW (wpAny_dictFind_heap hu (a4 _ (S6 hx)) b1 b2 b3 b4 b5 (λno=>?_) λj p hj=>?_)))
   ·have e:mj ys xs[k]=false:=by unfold mj;rw[atKey_none_of_get no]
    rw[e,W_] at ha;rw[ha] at h';refine RZ ?_;change Sv _ _ (if (!false)=true then _ else _) _ _ _;rw[h9 (by decide)];exact RZ (RZ h')
   ·have N6:=Pm j _ hj;obtain⟨mn,mt,em⟩:=ny _ (Uo hj);have e:mj ys xs[k]=(nn==mn):=by
     unfold mj;rw[atKey_of_get b5 hj];dsimp only;rw[en,show p.2=.int mn mt from em];rfl
    rw[e] at ha;refine RW (S5 b1 b2 ?_);rw[N6];change Sv _ _ (holding [p.2] (eqBool xs[k].2.2 p.2)) _ _ _;rw[en,show p.2=.int mn mt from em];refine S7 (wpAny_eqBool_int ?_);cases z:(nn==mn) with
    |false=>
     rw[z,W_] at ha;rw[ha] at h';change Sv _ _ (if (!false)=true then _ else _) _ _ _;rw[h9 (by decide)];exact RZ (RZ h')
    |true=>
     rw[z,Bool.true_and] at ha;change Sv _ _ (if (!true)=true then _ else _) _ _ _;rw[hZ (by decide)];refine RW (TM a1 a2 ?_);rw[hZ (by simp)];exact RZ ⟨rfl,rfl,k+1,by rw[e2];congr 1;lia,lt,ha⟩
  ·rintro q s' ⟨rfl,rfl,i,hl,hi,ha⟩;have e:i=es.size:=by
    rcases Wj i es.size with z|z
    ·obtain⟨m,hm⟩:∃m,es.size-i=m+1:=⟨es.size-(i+1),by lia⟩;rw[hm,List.range'_succ] at hl;cases hl
    ·lia
   rw[e,n1,US] at ha;rw[ha] at h';exact RZ h'
 ·rw[h9 (by simpa using c)];have e:(xs.length==ys.length)=false:=by rw[←n1,←n2];simpa using c
  rw[e,W_] at h;exact RW (wpAny_rule (RZ h))
theorem QE {xs ys:List (K×Sr×R6)}(la:(a==Tr)=false)(lb:(b==Tr)=false)(hu:knd.room A.in1)(hc:A.units<Uu)(da:s.heap.DictOfH knd a xs)(db:s.heap.DictOfH knd b ys)(nx:vo xs)(ny:vo ys)(h:Q (.bool (xs.length==ys.length&&xs.all (mj ys))) s):Sv (SN prog w) A (TB .Eq (.ref a) (.ref b)) Q E s:=by
 refine wpAny_richCompare_same_room (op:=.Eq) da.typeIs db.typeIs PySem.F.slot_dict_eq (SI PySem.F.slot_dict_eq da.typeIs PySem.F.entry_dict_eq ?_ (PySem.F.args_dict_eq_2 _ _)) hc;change Sv _ _ (Xg "__eq__" ⟨[.ref a,.ref b],[]⟩ >>= _) _ _ s;refine RW ?_;unfold Xg;refine RW (U3 da.typeIs ?_);change Sv _ _ (pure (Value.ref a,Value.ref b)) _ _ s;refine RZ (RW (Vl (T:="dict") db.typeIs PySem.F.sub_dict_dict ?_));simp only[Up,SQ,if_false];refine RW (RZ (RW (RZ (RW (xt la lb hu da db nx ny (RZ ⟨_,rfl,(?_:_/\_)⟩))))));refine⟨λx=>?_,by simpa using h⟩;cases x
end
end Hc.Dw
namespace L2
open Hc.Dw Hc.Ts
noncomputable def aw (ns:List Int):U:=.tup (ns.map .int)
noncomputable def FT:U->Option (List Int)
 | .tup xs=>match cP xs with
  |some (n::ns)=>some (n::ns)
  |_=>none
 |_=>none
noncomputable def pS:List U->Option (List (List Int))
 | []=>some []
 |u::us=>match FT u,pS us with
  |some ns,some nss=>some (ns::nss)
  |_,_=>none
noncomputable def Aq (x:List Int):List (List Int)->List (List Int)
 | []=>[x]
 |y::r=>if ft y x=true then y::Aq x r else x::y::r
noncomputable def bS (l:List (List Int)):List (List Int):=l.foldr Aq []
theorem ml (x:List Int):∀l,(Aq x l).Perm (x::l)
 | []=>.refl _
 |y::r=>by
  unfold Aq;split
  ·exact ((ml x r).cons y).trans (.swap x y r)
  ·exact .refl _
theorem bh:∀l,(bS l).Perm l
 | []=>.refl _
 |x::l=>(ml x _).trans ((bh l).cons x)
def JZ (l:List (List Int)):Prop:=l.Pairwise λx y=>ft y x=false
theorem y4 (x:List Int):∀{l},JZ l->JZ (Aq x l)
 | [],_=>VJ _ _
 |y::r,h=>by
  obtain⟨h1,h2⟩:=T3.mp h;unfold Aq;split
  ·rename_i c;refine T3.mpr ⟨λz hz=>?_,y4 x h2⟩;rcases Ss.mp ((ml x r).mem_iff.mp hz) with rfl|hz
   ·exact KeyOrd.klt_asymm (O:=FP) c
   ·exact h1 z hz
  ·rename_i c;have c:ft y x=false:=by simpa using c
   refine T3.mpr ⟨λz hz=>?_,h⟩;rcases Ss.mp hz with rfl|hz
   ·exact c
   ·exact Vm (O:=FP) (a:=x) (b:=y) (c:=z) c (h1 z hz)
theorem gT:∀l,JZ (bS l)
 | []=>List.Pairwise.nil
 |x::l=>y4 x (gT l)
theorem nW:∀{l m:List (List Int)},l.Perm m->JZ l->JZ m->l=m
 | [],m,p,_,_=>(List.nil_perm.mp p).symm
 |x::l,[],p,_,_=>absurd p.length_eq (by simp)
 |x::l,y::m,p,h1,h2=>by
  obtain⟨a1,a2⟩:=T3.mp h1;obtain⟨b1,b2⟩:=T3.mp h2;have e:x=y:=by
   have hx:x∈y::m:=p.mem_iff.mp Sd;have hy:y∈x::l:=p.mem_iff.mpr Sd;rcases Ss.mp hx with rfl|hx
   ·rfl
   ·rcases Ss.mp hy with rfl|hy
    ·rfl
    ·exact ka x y (b1 x hx) (a1 y hy)
  subst e;rw[nW (p.cons_inv) a2 b2]
theorem FU (h:FT u=some ns):u=aw ns/\ns≠[]:=by
 unfold FT at h;split at h
 ·split at h
  ·rename_i xs n r e;cases h;rw[iz e];exact⟨rfl,by simp⟩
  ·cases h
 ·cases h
theorem lu:∀{us:List U} {nss:List (List Int)},pS us=some nss->us=nss.map aw/\∀ns∈nss,ns≠[]
 | [],_,h=>by cases h;exact⟨rfl,λns hn=>by cases hn⟩
 |u::us,nss,h=>by
  unfold pS at h;split at h
  ·rename_i ns r e1 e2;cases h;obtain⟨e3,n3⟩:=FU e1;obtain⟨e4,n4⟩:=lu e2;refine⟨by rw[RY,←e3,←e4],λz hz=>?_⟩;rcases Ss.mp hz with rfl|hz
   ·exact n3
   ·exact n4 z hz
  ·cases h
theorem J0 (h:Rp K H A (aw ns) v):∃b,v=.ref b/\H b=some (.tup (ns.map V.int))/\ns.length<=R3:=by
 unfold aw Rp at h;obtain⟨b,ys,e,q,l,r⟩:=h;rw[r.toI] at q;exact⟨b,e,q,by simpa using l⟩
theorem J2 (q:H b=some (.tup (ns.map V.int)))(l:ns.length<=R3):Rp K H A (aw ns) (.ref b):=by
 unfold aw Rp;exact⟨b,_,rfl,q,by simpa using l,kX ns⟩
theorem y6 (q:H b=some (.tup (ns.map V.int))):gS H b=ns:=by unfold gS;rw[q];exact vk ns
theorem lx:∀{nss:List (List Int)} {xs:List V},aC K H A (nss.map aw) xs->∃bs:List Sr,xs=bs.map V.ref/\bs.map (gS H)=nss/\∀b∈bs,H b=some (.tup ((gS H b).map V.int))/\(gS H b).length<=R3
 | [],xs,h=>by rw[Tb] at h;unfold aC at h;subst h;exact⟨[],rfl,rfl,λb hb=>by cases hb⟩
 |ns::nss,xs,h=>by
  rw[RY] at h;unfold aC at h;obtain⟨x,r,rfl,h1,h2⟩:=h;obtain⟨b,rfl,q,l⟩:=J0 h1;obtain⟨bs,rfl,e,z⟩:=lx h2;refine⟨b::bs,rfl,by rw[RY,e,y6 q],λc hc=>?_⟩;rcases Ss.mp hc with rfl|hc
  ·rw[y6 q];exact⟨q,l⟩
  ·exact z c hc
theorem Dg {bs:List Sr}(h:∀b∈bs,H b=some (.tup ((gS H b).map V.int))/\(gS H b).length<=R3):aC K H A ((bs.map (gS H)).map aw) (bs.map V.ref):=by
 induction bs with
 |nil=>exact aC.nil
 |cons b bs ih=>exact aC.cons (J2 (h b Sd).1 (h b Sd).2) (ih λc hc=>h c (Sn _ hc))
noncomputable def fL (us:List U):R U:=match pS us with
 |some nss=>if nss.length<64 then .ok (.lst ((bS nss).map aw)) else .stk
 |none=>.stk
noncomputable def xu:List U->R U:=λus=>match us with
 | [.lst xs]=>fL xs
 | [.tup xs]=>fL xs
 | [.dct ks _]=>if pP ks=true then fL ks else .stk
 |_=>.stk
def tJ (K:R1):List V->Hp->VK->Prop:=λxs H Q=>∃(p:Sr) (bs:List Sr),xs=[.ref p]/\JY K H p bs/\bs.length<64/\(∀b∈bs,∃ns:List Int,H b=some (.tup (ns.map V.int))/\ns≠[])/\
  ∀(l:Sr) (mE:List Sr),H l=none->mE.Perm bs->mE.Pairwise (λx y=>ft (gS H y) (gS H x)=false)->Q (.ref l) (cu H l (.lst (mE.map V.ref)))
theorem Ar:l6 K (tJ K) .O xu:=λA H vs us z Q h mu e q=>by
 have fin:∀(xs:List U) (p:Sr) (bs:List Sr),fL xs=.ok z->aC K H A xs (bs.map V.ref)->JY K H p bs->tJ K [.ref p] H Q:=by
  intro xs p bs e r Nt;unfold fL at e;split at e
  ·rename_i nss e1;split at e
   ·rename_i hz;cases e;obtain⟨e2,ne⟩:=lu e1;subst e2;obtain⟨nq,e3,e4,e5⟩:=lx r;have e6:bs=nq:=by
     have:Function.Injective V.ref:=λa b h=>by cases h;rfl
     exact (List.map_inj_right λ_ _ h=>by cases h;rfl).mp e3
    subst e6;have n1:bs.length=nss.length:=by rw[←e4,RX]
    refine⟨p,bs,rfl,Nt,by lia,λb hb=>⟨_,(e5 b hb).1,ne _ (by rw[←e4];exact Sy hb)⟩,λl mE hn hp hw=>?_⟩;have e7:mE.map (gS H)=bS nss:=nW ((hp.map (gS H)).trans (by rw[e4];exact (bh nss).symm)) (V6.mpr hw) (gT nss);refine q _ _ (b_ hn _) ⟨l,rfl,hn,?_⟩;rw[←e7];refine bF mu (Dg λb hb=>e5 b (hp.mem_iff.mp hb)) hn ?_;have:R3=16777216:=rfl;rw[RX,RX,hp.length_eq];lia
   ·cases e
  ·cases e
 unfold xu at e;split at e
 ·obtain⟨v,rfl,p⟩:=h.one;unfold Pk at p;obtain⟨a,ys,rfl,h1,l1,r1⟩:=p;have e':=e;unfold fL at e';split at e'
  ·rename_i nss e1;have r2:=r1;rw[(lu e1).1] at r2;obtain⟨bs,rfl,_⟩:=lx r2;exact fin _ a bs e r1 (.inl (eN.of h1))
  ·cases e'
 ·obtain⟨v,rfl,p⟩:=h.one;unfold Pk at p;obtain⟨a,ys,rfl,h1,l1,r1⟩:=p;have e':=e;unfold fL at e';split at e'
  ·rename_i nss e1;have r2:=r1;rw[(lu e1).1] at r2;obtain⟨bs,rfl,_⟩:=lx r2;exact fin _ a bs e r1 (.inr (.inl (fF.of h1)))
  ·cases e'
 ·rename_i ks ws;split at e
  ·rename_i c;obtain⟨v,rfl,p⟩:=h.one;unfold Pk at p;obtain⟨a,ys,rfl,h1,l1,r1⟩:=p;obtain⟨es,ep,q1,kt,e1,e2⟩:=tm c h1;refine fin ks a (es.map (·.2.1)) e ?_ (.inr (.inr ⟨ep,es,q1,rfl⟩));subst e1;clear e fin e2 r1 h1 c q1 h
   induction es with
   |nil=>exact aC.nil
   |cons x es ih=>exact aC.cons (HQ (kt x Sd)) (ih λy hy=>kt y (Sn _ hy))
  ·cases e
 ·cases e
def Dh (K:R1):List V->Hp->VK->Prop:=λxs H Q=>∃(p:Sr) (ns:List Int),xs=[.ref p]/\(eN K H p (ns.map V.int)\/fF K H p (ns.map V.int))/\ns.length<64/\
  ∀(l:Sr) (r_:List Int),H l=none->r_.Perm ns->r_.Pairwise (·<=·)->Q (.ref l) (cu H l (.lst (r_.map V.int)))
noncomputable def gU:List U->R U:=λus=>match o9 us with
 | .ok z=>.ok z
 |_=>xu us
theorem ji:l6 K (λxs H Q=>Dh K xs H Q\/tJ K xs H Q) .O gU:=λA H vs us z Q h mu e q=>by
 unfold gU at e;split at e
 ·rename_i z' e1;cases e;exact .inl (Ac A H vs us _ Q h mu e1 q)
 ·exact .inr (Ar A H vs us z Q h mu e q)
theorem gW (hc:X.calm=true)(hu:X.A.units+64<Uu):dW X (.builtin "sorted") (λxs H Q=>Dh X.K xs H Q\/tJ X.K xs H Q):=by
 intro pins s σ H xs us Q I r h;rcases h with h|h
 ·exact sG pins s σ H xs us Q I r h
 ·exact tH hc hu pins s σ H xs us Q I r h
end L2
namespace L2
open Hc.Dw Hc.Ts
def HX:R2:=λx y H Q=>∃(p:Sr) (xs:List V) (n:Int),x=.ref p/\y=.int n/\H p=some (.lst xs)/\0<=n/\n<=100000/\xs≠[]/\xs.length*n.toNat<=100000/\∀l,H l=none->Q (.ref l) (cu H l (.lst (SE n.toNat xs).flatten))
theorem y7:ig X (U7 .Mult) HX:=by
 intro pins s σ H x y v u Q I rx ry h;obtain⟨p,xs,n,rfl,rfl,hp,h0,h1,Er,hs,q⟩:=h;obtain rfl:v=Value.ref p:=rx;obtain⟨tk,rfl⟩:∃t,u=.int n t:=ry;obtain⟨_,ax,n0,rv,hl,ho⟩:=I.lstM hp;have hl:xs.length=ax.length:=rv.length;have he:ax.toArray.isEmpty=false:=by cases ax with
  |nil=>cases xs with
   |nil=>exact absurd rfl Er
   |cons=>simp at hl
  |cons=>simp
 have sl:R3=16777216:=rfl;refine wpAny_binaryOp_repeat_ref (T:="list") (U:="int") (by decide) ⟨_,ho,rfl⟩ (λs'=>typeIs_int s' n tk) noFill_list_mul PySem.F.fills_int_mul PySem.F.slot_int_rmul repeat_list PySem.F.slot_int_index.lookup
  (call_meets PySem.F.slot_int_rmul (typeIs_int s n tk) PySem.F.entry_int_rmul (PySem.F.args_int_rmul_2 _ _) (int___rmul___int_list n tk p ax.toArray n0)
   ⟨ho,rfl,⟨_,ho,rfl⟩,call_meets PySem.F.slot_list_mul ⟨_,ho,rfl⟩ PySem.F.entry_list_mul (PySem.F.args_list_mul_2 _ _)
    (AutoListH.list___mul___list_int_3 p ax.toArray n0 n tk ?c0 ?c1 ?c2) ⟨ho,?_⟩⟩)
 case c0=>unfold Builtin.List.listFitsIndex;simp;lia
 case c1=>rw[R7,←hl];lia
 case c2=>rw[R7,←hl,oz (by rw[sl];lia)];exact R0
 rw[he,hZ R0,listMul_foldl];have el:(#[]:Array R6).toList=[]:=rfl;simp only[el,Uv];have z2:(SE n.toNat xs).flatten.length<=R3:=by rw[yD,sl];lia
 exact⟨.ref s.heap.objs.size,_,I.laid (a:=s.heap.objs.size) (o:=.lst (SE n.toNat xs).flatten) (t':=s.toks) (λ_ _ e=>R4 _ e) (Sb _) ⟨z2,_,0,uW rv n.toNat,by
  have:=R9 s.heap (o:={cls:=Value.type "list",data:=Data.seq (SE n.toNat ax.toArray.toList).flatten.toArray}) rfl;simpa using this⟩,rfl,q _ (I.hok.fresh (Sb _))⟩
noncomputable def vp:U->U->R U:=λu w=>match u,w with
 | .lst us,.int n=>if 0<=n/\n<=100000/\us.length*n.toNat<=100000/\us.isEmpty=false then .ok (.lst (SE n.toNat us).flatten) else .stk
 |_,_=>.stk
theorem vq:dq K HX .O vp:=λA H x y u w z Q hx hy mu e q=>by
 unfold vp at e;split at e
 ·rename_i us n;split at e
  ·rename_i c;cases e;unfold Pk at hx hy;obtain⟨a,xs,rfl,h1,l1,r1⟩:=hx;subst hy;have hl:=r1.length;refine⟨a,xs,n,rfl,rfl,h1,c.1,c.2.1,λz=>?_,by rw[←hl];exact c.2.2.1,λl hn=>?_⟩
   ·have:us=[]:=Wr (by rw[hl,z];rfl);have c4:=c.2.2.2;rw[this] at c4;cases c4
   ·refine q _ _ (b_ hn _) ⟨l,rfl,hn,bF mu (yE r1 _) hn ?_⟩;rw[yD];have:R3=16777216:=rfl;lia
  ·cases e
 ·cases e
def VW (l a:Sr)(h:UU):Prop:=h.IsValuesView l a
section
variable {e:T6}{tl:TE}{cL cpos p1:Pos}{b1:Bool}{m1:Md}{g1:Ev->R (U×Ev)}
def MF (tl:TE):TE:=λσ H Q=>tl σ H λx H1=>∃a ep es,x=.ref a/\H1 a=some (DN a ep es)/\∀l,H1 l=none->Q (.ref l) (cu H1 l (.ext (VW l a)))
theorem As (hl:PE X e tl)(m:M0 X e "values" cL cpos):PE X (.Call (.Attribute e "values" cL) [] [] cpos) (MF tl):=by
 intro pins s σ H Q I h;refine V1 m.base m.few m.line UO UJ Xp (cM (hl pins s σ H _ I h) λv s1 ⟨x,H1,I1,r1,a,ep,es,ex,hq,q⟩=>?_);subst ex;cases r1;obtain⟨t1,t2⟩:=xl I1 hq;refine⟨t1,t2,?_⟩;rw[m.trees];obtain⟨lo,ds,rd,n,_⟩:=I1.rawD hq;refine Uw rfl (Vb ?_);refine SI UJ t1 Xf (HL lo rd λh1 vw k1=>?_) (WT _);exact⟨.ref s1.heap.objs.size,_,I1.laid (a:=s1.heap.objs.size) (o:=.ext (VW s1.heap.objs.size a)) (t':=s1.toks) k1 (Sb _) ⟨vw,by obtain⟨o,z,_⟩:=vw;exact⟨o,z⟩,λg1 g2 x kp=>by obtain⟨o,z,r⟩:=x;exact⟨o,kp _ z,r⟩⟩,rfl,q _ (I1.hok.fresh (Sb _))⟩
noncomputable def ke (ns:List Int):Bool:=decide (ns.length<=1000000)&&ns.all λn=>decide (0<=n/\n<=1000000000)
theorem jj (ns:List Int):∀j,j<=ns.length->preSum (λi=>ns.getD i 0) j=(ns.take j).sum
 |0,_=>rfl
 |j+1,h=>by
  unfold preSum;rw[jj ns j (by lia),Sw (show j<ns.length by lia),List.sum_append];simp[List.getD,R5 (show j<ns.length by lia)]
theorem rO:∀{ns:List Int},(ns.all λn=>decide (0<=n/\n<=1000000000))=true->0<=ns.sum/\ns.sum<=ns.length*1000000000
 | [],_=>by simp
 |n::ns,h=>by
  rw[Tx,Sa] at h;obtain⟨a,b⟩:=rO h.2;have:=of_decide_eq_true h.1;rw[SA,Sj];constructor
  ·lia
  ·push_cast;lia
def MG:List V->Hp->VK->Prop:=λxs H Q=>∃l a ep es ns,xs=[.ref l]/\H l=some (.ext (VW l a))/\H a=some (DN a ep es)/\es.map (·.2.2)=ns.map V.int/\ke ns=true/\Q (.int ns.sum) H
theorem Au (hc:X.calm=true):dW X (.builtin "sum") MG:=by
 intro pins s σ H xs us Q I r h;obtain⟨l,a,ep,es,ns,rfl,hl,ha,ev,sm,q⟩:=h;obtain⟨u,rfl,rx⟩:=iX r;cases rx;obtain⟨vw,_,_⟩:=I.hok l _ hl;obtain⟨lo,ds,rd,n,at_⟩:=I.rawD ha;have vw:s.heap.IsValuesView l a:=vw;unfold ke at sm;rw[Sa] at sm;have s1:=of_decide_eq_true sm.1;have nn:es.length=ns.length:=by have:=congrArg List.length ev;simpa using this
 have lt:a<s.heap.objs.size:=rd.lt;refine call_sum_walk (HM vw rd ⟨s.heap.objs.size,[s.heap.objs.size,a],[s.heap.objs.size],ds.size,_,_,λi=>ns.getD i 0,rfl,JX (I.ok.hd hc) (SJ lt),⟨⟨_,R9 _ rfl,rfl,rfl⟩,rd.at λo z=>R4 _ z⟩,?_,?_,?_,λh' tk t' k=>?_⟩)
 ·intro b hb;show b<(s.heap.push _).objs.size;rw[Xc];simp only[Ss,List.not_mem_nil,or_false] at hb;rcases hb with rfl|rfl
  ·exact Nat.lt_succ_self _
  ·exact V0 lt
 ·rintro i v ⟨e,e1,rfl⟩;have hi:i<ds.size:=by
   rcases Wj i ds.size with z|z
   ·exact z
   ·rw[UZ z] at e1;cases e1
  rw[getElem?_pos ds i hi] at e1;cases e1;obtain⟨x,m,_,rv⟩:=at_ i hi;have e2:(es.map (·.2.2))[i]? = some x.2.2:=by rw[R_,m];rfl
  rw[ev,R_] at e2;have Ql:i<ns.length:=by lia
  rw[R5 Ql] at e2;injection e2 with e2
  rw[←e2] at rv;obtain⟨t,et⟩:=rv;exact⟨t,by rw[et];simp[List.getD,R5 Ql]⟩
 ·intro j hj;have N6:j<ns.length:=by lia
  have al:=sm.2;refine⟨?_,?_⟩
  ·have:=S4.mp al ns[j] (S6 N6);have:=of_decide_eq_true this;unfold InLong;simp only[List.getD,R5 N6,Option.getD_some];lia
  ·rw[jj ns (j+1) (by lia)];have Ri:((ns.take (j+1)).all λn=>decide (0<=n/\n<=1000000000))=true:=S4.mpr λx hx=>S4.mp al x (Wu hx);obtain⟨p1,p2⟩:=rO Ri;have:(ns.take (j+1)).length<=1000000:=by rw[SF];lia
   unfold InLong;lia
 ·have e:preSum (λi=>ns.getD i 0) ds.size=ns.sum:=by rw[jj ns ds.size (by lia),n,nn,Th]
  rw[e];refine⟨.int ns.sum,H,I.kept (t':=tk) λb o z=>?_,⟨t',rfl⟩,q⟩;refine k b o (λhb=>?_) (R4 _ z);have:b=s.heap.objs.size:=by simpa using hb
  exact absurd (Sl z) (by rw[this];exact TZ _)
noncomputable def y8 (g:Ev->R (U×Ev)):Ev->R (U×Ev):=λρ=>(g ρ).bind λx=>match x.1 with
 | .dct ks us=>if pP ks=true then (match cP us with
  |some ns=>if ke ns=true then .ok (.int ns.sum,x.2) else .stk
  |none=>.stk) else .stk
 |_=>.stk
theorem y9 (hc:X.calm=true)(h:DE X G e b1 m1 g1)(hm:X.mg "sum"=none)(hg:Gl X "sum":=by rfl)(m:M0 X e "values" cL cpos:=by exact⟨rfl,rfl,rfl,rfl⟩)
  (N5:Sq [.Call (.Attribute e "values" cL) [] [] cpos] X.env=(false,VP (.Call (.Attribute e "values" cL) [] [] cpos) X.env)::Sq [] X.env:=by rfl) (Ej:(Ux pos (Sq [] X.env)).any (·.1)=false:=by rfl) :
  DE X G (.Call (.Name "sum" p1) [.Call (.Attribute e "values" cL) [] [] cpos] [] pos) b1 .S (y8 g1):=⟨(ou (Au hc) hg hm Jn (eK (As h.un m) j3 N5) (by decide) (by decide) N5 Ej).to λσ H Q h00=>by
 obtain⟨Z,A,ρ,q,f⟩:=h00;refine⟨Z,A,ρ,q,?_⟩;unfold y8 at f;cases e1:g1 ρ with
 |stk=>rw[e1] at f;exact f.elim
 |exc=>rw[e1] at f;exact f.elim
 |ok y=>
  obtain⟨u,ρ1⟩:=y;rw[e1] at f;intro v H1 q1 x1 s1 vm;cases u with
  |dct ks us=>
   dsimp only[L2.R.bind] at f;by_cases c:pP ks=true
   ·rw[h9 c] at f;cases e2:cP us with
    |none=>rw[e2] at f;exact f.elim
    |some ns=>
     rw[e2] at f;dsimp only at f;by_cases c2:ke ns=true
     ·rw[h9 c2] at f;have pk:=vm.pk;unfold Pk at pk;obtain⟨a,xs,rfl,d,l,r⟩:=pk;obtain⟨es,ep,hq,kt,e3,e4⟩:=tm c d;rw[iz e2] at r;have r2:=r.toI;rw[e4] at r2;refine⟨a,ep,es,rfl,hq,λl hn=>?_⟩;have ne:a≠l:=λz=>by rw[←z,hq] at hn;cases hn
      have sm:=b_ hn (.ext (VW l a));exact⟨l,a,ep,es,ns,rfl,bo,by rw[aL ne];exact hq,r2,c2,f _ _ (q1.same sm) (x1.trans (dQ.same sm)) (j6 s1 sm) (show Rp X.K _ A _ _ from dG)⟩
     ·rw[hZ c2] at f;exact f.elim
   ·rw[hZ c] at f;exact f.elim
  |_=>exact f.elim⟩
end
end L2
namespace L2
open Hc.Dw Hc.Ts
noncomputable def Di (ls ws:List U)(p:U×U):Bool:=match gc ls ws p.1 with
 |some w=>decide (w=p.2)
 |none=>false
noncomputable def xv (ks us ls ws:List U):Bool:=ks.length==ls.length&&(ks.zip us).all (Di ls ws)
noncomputable def y_ (f:Bool->Bool):U->U->R U:=λu w=>match u,w with
 | .dct ks us,.dct ls ws=>if (pP ks&&pP ls&&(cP us).isSome&&(cP ws).isSome)=true then .ok (.bl (f (xv ks us ls ws))) else .stk
 |_,_=>.stk
noncomputable def xw (fs:List (List U×Sr×V))(e:List U×Sr×V):Bool:=match iV fs e.1 with
 |some v=>decide (vj v=vj e.2.2)
 |none=>false
def xx (es:List (List U×Sr×V)):Prop:=∃ns:List Int,es.map (·.2.2)=ns.map V.int
theorem pT (h:xx es){e:List U×Sr×V}(m:e∈es):∃n,e.2.2=.int n:=by
 obtain⟨ns,z⟩:=h;have:e.2.2∈ns.map V.int:=by rw[←z];exact Sy m
 obtain⟨n,_,q⟩:=So.mp this;exact⟨n,q.symm⟩
def HY (f:Bool->Bool):R2:=λx y H Q=>∃a b es fs,x=.ref a/\y=.ref b/\fG H a es/\fG H b fs/\xx es/\xx fs/\Q (.bl (f (es.length==fs.length&&es.all (xw fs)))) H
theorem za {fs:List (List U×Sr×V)}{k:List U}(h:iV fs k=some v):∃e∈fs,e.2.2=v:=by
 unfold iV at h;obtain⟨e,h1,h2⟩:=VT.mp h;exact⟨e,List.mem_of_find?_eq_some h1,h2⟩
theorem zc {xs:List (List U×Sr×R6)}(p:Ws Eo es xs)(h:xx es):vo xs:=by
 intro x hx;obtain⟨e,he,r⟩:=j5 p hx;obtain⟨n,en⟩:=pT h he;have:=r.2.2;rw[en] at this;obtain⟨t,z⟩:=this;exact⟨n,t,z⟩
theorem Dj {fs:List (List U×Sr×V)}{ys:List (List U×Sr×R6)}(pf:Ws Eo fs ys)(hf:xx fs):∀{xs:List (List U×Sr×R6)},Ws Eo es xs->xx es->xs.all (mj ys)=es.all (xw fs):=by
 intro xs p h;have one:∀e x,Eo e x->(∃n,e.2.2=.int n)->mj ys x=xw fs e:=by
  rintro e x ⟨r1,r2,r3⟩ ⟨n,en⟩;rw[en] at r3;obtain⟨t,ex⟩:=r3;unfold mj xw;rw[←r1];have rel:=i5 e.1 pf;cases c:atKey ys e.1 with
  |none=>
   rw[c] at rel;cases d:iV fs e.1 with
   |none=>rfl
   |some v=>rw[d] at rel;exact rel.elim
  |some q=>
   rw[c] at rel;cases d:iV fs e.1 with
   |none=>rw[d] at rel;exact rel.elim
   |some v=>
    rw[d] at rel;obtain⟨g,gm,gv⟩:=za d;obtain⟨m,em⟩:=pT hf gm;rw[gv] at em;subst em;obtain⟨t2,eq⟩:∃t,q.2=.int m t:=rel;dsimp only;rw[ex,eq,en];show (n==m)=decide (m=n);by_cases z:n=m
    ·subst z;simp
    ·rw[beq_eq_false_iff_ne.mpr z,hV (λq=>z q.symm)]
 obtain⟨ns,hn⟩:=h
 induction p generalizing ns with
 |nil=>rfl
 | @cons e x es xs r t ih=>
  cases ns with
  |nil=>cases hn
  |cons n ns=>
   rw[RY,RY] at hn;injection hn with h1 h2
   rw[Tx,Tx,one e x r ⟨n,h1⟩,ih ns h2]
theorem FV (hu:X.A.units+64<Uu):ig X (TB .Eq) (HY id):=by
 intro pins s σ H x y v u Q I rx ry h;obtain⟨a,b,es,fs,rfl,rfl,da,db,ie,jf,q⟩:=h;cases rx;cases ry;obtain⟨xs,p1,d1⟩:=da.of I.hok;obtain⟨ys,p2,d2⟩:=db.of I.hok;have l1:es.length=xs.length:=U6 p1;have l2:fs.length=ys.length:=U6 p2;refine QE (da.lo I.hok) (db.lo I.hok) (sH hu) (by lia) d1 d2 (zc p1 ie) (zc p2 jf) ⟨.bl (xs.length==ys.length&&xs.all (mj ys)),H,I,rfl,?_⟩;rw[Dj p2 jf p1 ie,←l1,←l2];exact q
theorem zd {ls ws:List U}{fs:List (List U×Sr×V)}{H:Hp}{A:Sr->Prop}(rl:aC K H A ws (fs.map (·.2.2)))(el:ls=fs.map (λp=>.tup p.1))(jf:xx fs):∀{es:List (List U×Sr×V)} {ns:List Int},es.map (·.2.2)=ns.map V.int->
  ((es.map λp=>U.tup p.1).zip (ns.map U.int)).all (Di ls ws)=es.all (xw fs)
 | [],[],_=>rfl
 | [],_::_,h=>by cases h
 |_::_,[],h=>by cases h
 |e::es,n::ns,h=>by
  rw[RY,RY] at h;injection h with h1 h2
  rw[RY,RY,W7,Tx,Tx,zd rl el jf h2];congr 1;unfold Di xw;subst el;obtain⟨g1,g2⟩:=s_ (k:=e.1) rl;dsimp only;cases c:gc (fs.map λp=>U.tup p.1) ws (.tup e.1) with
  |none=>rw[g2 c]
  |some w=>
   obtain⟨v,d,rp⟩:=g1 w c;rw[d];obtain⟨g,gm,gv⟩:=za d;obtain⟨m,em⟩:=pT jf gm;rw[gv] at em;subst em;have ew:w=.int m:=by
    cases w<;>unfold Rp at rp<;>first|(cases rp;rfl)|(cases rp;done)|(obtain⟨_,_,z,_⟩:=rp;cases z;done)|(obtain⟨_,_,_,_,z,_⟩:=rp;cases z)
   subst ew;rw[h1];show decide (U.int m=U.int n)=decide (vj (V.int m)=vj (V.int n));by_cases z:m=n
   ·subst z;simp
   ·rw[hV (p:=U.int m=U.int n) (λq=>z (by cases q;rfl)),hV (p:=vj (V.int m)=vj (V.int n)) z]
theorem Dk {f:Bool->Bool}:dq K (HY f) .S (y_ f):=λA H x y u w z Q hx hy mu e q=>by
 unfold y_ at e;split at e
 ·rename_i ks us ls ws;split at e
  ·rename_i c;cases e;rw[Sa,Sa,Sa] at c;obtain⟨⟨⟨c1,c2⟩,c3⟩,c4⟩:=c;obtain⟨ns,e3⟩:=Vt.mp c3;obtain⟨ms,e4⟩:=Vt.mp c4;unfold Pk at hx hy;obtain⟨a,xs,rfl,d1,_,r1⟩:=hx;obtain⟨b,ys,rfl,d2,_,r2⟩:=hy;have Qm:∀{a:Sr} {ks:List U} {xs:List V},pP ks=true->sJ H a ks xs->∃es,fG H a es/\ks=es.map (λp=>.tup p.1)/\xs=es.map (·.2.2):=by
    intro a ks xs w d;rcases d with⟨aP,h,rfl,rfl⟩|⟨es,n,h,e1,e2⟩
    ·obtain⟨es,ep,q1,_⟩:=tm w (.inl ⟨aP,h,rfl,rfl⟩);rw[h] at q1;cases q1
    ·exact⟨es,h,e1,e2⟩
   obtain⟨es,n1,f1,g1⟩:=Qm c1 d1;obtain⟨fs,n2,f2,g2⟩:=Qm c2 d2;have eu:=iz e3;have ew:=iz e4;subst eu ew;have t1:=r1.toI;have t2:=r2.toI;rw[g1] at t1;rw[g2] at t2;rw[g2] at r2;refine⟨a,b,es,fs,rfl,rfl,n1,n2,⟨ns,t1⟩,⟨ms,t2⟩,q _ H (aJ.refl _) (show Rp K H A _ _ from ?_)⟩;have:xv ks (ns.map .int) ls (ms.map .int)=(es.length==fs.length&&es.all (xw fs)):=by
    unfold xv;rw[f1,zd r2 f2 ⟨ms,t2⟩ t1,f2,RX,RX]
   rw[this];exact eh
  ·cases e
 ·cases e
end L2
namespace L2
open Hc.Dw Hc.Ts
noncomputable def J3:U->U->R Bool
 | .int a,.int b=>.ok (a==b)
 | .bl a,.bl b=>.ok (a==b)
 | .str a,.str b=>.ok (a==b)
 |_,_=>.stk
noncomputable def pU (f:Bool->Bool):U->U->R U:=λu w=>(J3 u w).bind λb=>.ok (.bl (f b))
theorem nX:dq K Pt .S (pU id):=λA H x y u w z Q hx hy mu e q=>by
 unfold pU at e;obtain⟨b,e1,e2⟩:=R.bind_ok e;unfold J3 at e1;split at e1
 ·cases e1;cases e2;rw[hx.int,hy.int];refine⟨rfl,?_⟩;rw[nN];exact q _ H (aJ.refl _) (show Rp K H A _ _ from eh)
 ·cases e1;cases e2;rw[hx.bl,hy.bl];refine⟨rfl,?_⟩;rw[sx];exact q _ H (aJ.refl _) (show Rp K H A _ _ from eh)
 ·cases e1;cases e2;rw[hx.str,hy.str];refine⟨rfl,?_⟩;rw[nO];exact q _ H (aJ.refl _) (show Rp K H A _ _ from eh)
 ·cases e1
theorem FW:dq K Pu .S (pU not):=λA H x y u w z Q hx hy mu e q=>by
 unfold pU at e;obtain⟨b,e1,e2⟩:=R.bind_ok e;unfold J3 at e1;split at e1
 ·cases e1;cases e2;rw[hx.int,hy.int];refine⟨rfl,?_⟩;rw[nN];exact q _ H (aJ.refl _) (show Rp K H A _ _ from eh)
 ·cases e1;cases e2;rw[hx.bl,hy.bl];refine⟨rfl,?_⟩;rw[sx];exact q _ H (aJ.refl _) (show Rp K H A _ _ from eh)
 ·cases e1;cases e2;rw[hx.str,hy.str];refine⟨rfl,?_⟩;rw[nO];exact q _ H (aJ.refl _) (show Rp K H A _ _ from eh)
 ·cases e1
end L2
noncomputable section
namespace Hc
open PySem L2
noncomputable abbrev kg:Gm:=⟨[false,false,false],false,λ_=>False⟩
noncomputable def dM:Ev->SR:=(aA (bg 0 (jM z_ (ae (af 0) ak)))
 (aA (bg 1 (jM z_ (ae (af 1) ak)))
 (aA (gE (gB (a9 (pU not) (af 1) (gC (.int 0))))
 (aA (bg 2 (a9 qE (af 0) (af 1)))
 (aA (bg 0 (af 1))
 (bg 1 (af 2)))) 1000000000000)
 (bf (af 0)))))
noncomputable def aN:List U->R U:=dh .S 3 dM
noncomputable abbrev FX:Gm:=⟨[false,false,false],false,λ_=>False⟩
noncomputable def tK:Ev->SR:=(aA (bg 2 (dI 2 aN (ae (af 0) (ae (af 1) ak))))
 (aA (lQ (gB (a9 LS (af 1) (gC (.int 0)))) (bg 2 (NL Fs (af 2))) bZ)
 (bf (cE (ae (a9 gq (af 0) (af 2)) (ae (a9 gq (af 1) (af 2)) ak))))))
noncomputable def jB:List U->R U:=dh .S 3 tK
noncomputable abbrev nD:Gm:=⟨[false,false,false],false,λ_=>False⟩
noncomputable def eA:Ev->SR:=(bg 1 (a9 gq (a9 fm (af 1) (a9 nC (af 2) (gC (.int 1)))) (dI 2 aN (ae (af 1) (ae (a9 nC (af 2) (gC (.int 1))) ak)))))
noncomputable def fc:Ev->SR:=(aA (bg 1 (gC (.int 1)))
 (aA (i7 (j8 (af 0)) (bH 2)
 eA)
 (bf (af 1))))
noncomputable def bT:List U->R U:=dh .S 3 fc
noncomputable abbrev xy:Gm:=⟨[false],false,λ_=>False⟩
noncomputable def kh:Ev->SR:=(bf (Fd (rA "int" (af 0)) (Jt (rA "bool" (af 0)))))
noncomputable def eB:List U->R U:=dh .S 1 kh
noncomputable abbrev xA:Gm:=⟨[false,false],false,λ_=>False⟩
noncomputable def ki:Ev->SR:=(aA (lQ (oK (gB (rA "tuple" (af 0)))) (bf (gC (.bl false))) bZ)
 (bf (Fd (jM uP (ae (kT (j8 (af 0)) [none] (bH 0) dA (dI 1 eB (ae (af 0) ak))) ak)) (a9 (B1 id) (jM gU (ae (af 0) ak)) (yy (ae (af 1) ak))))))
noncomputable def cy:List U->R U:=dh .S 2 ki
noncomputable abbrev xB:Gm:=⟨[false,false],false,λ_=>False⟩
noncomputable def iE:Ev->SR:=(bf (jM e_ (ae (kT (j8 (af 1)) [none,some 0] (bH 0) dA (a9 nC (af 1) (af 0))) ak)))
noncomputable def cz:List U->R U:=dh .S 2 iE
noncomputable abbrev J5:Gm:=⟨[false,false],false,λ_=>False⟩
noncomputable def xC:Ev->SR:=(bf (dI 2 cz (ae (af 0) (ae (af 1) ak))))
noncomputable def kj:List U->R U:=dh .S 2 xC
noncomputable abbrev tL:Gm:=⟨[false,false],false,λ_=>False⟩
noncomputable def iF:Ev->SR:=(aA (lQ (AV (oK (gB (rA "tuple" (af 0)))) (oK (gB (sM NO NO (gC (.int 1)) (jM l8 (ae (af 0) ak)) (gC (.int 24)))))) (bf (gC (.bl false))) bZ)
 (bf (jM uP (ae (kT (j8 (af 0)) [none,some 1] (bH 0) dA (dI 2 cy (ae (af 0) (ae (af 1) ak)))) ak))))
noncomputable def c6:List U->R U:=dh .S 2 iF
noncomputable abbrev Av:Gm:=⟨[false,true,false],false,λ_=>False⟩
noncomputable def mq:Ev->SR:=(aA (bg 1 JJ)
 (aA (i7 (j8 (af 0)) (bH 2)
 (fJ 1 (a9 cv (iB 1 (af 2) (gC (.int 0))) (gC (.int 1))) (af 2)))
 (bf (af 1))))
noncomputable def bD:List U->R U:=dh .O 3 mq
noncomputable abbrev Dl:Gm:=⟨[false,false,true,false,false,false,false,false],false,λ_=>False⟩
noncomputable def mv:Ev->SR:=(aA (bg 7 (dI 2 cz (ae (af 5) (ae (af 3) ak))))
 (fJ 2 (a9 cv (iB 2 (af 7) (gC (.int 0))) (a9 fm (af 6) (af 4))) (af 7)))
noncomputable def jC:Ev->SR:=(i7 (HV (af 0)) (du 2 (aK (bH 5) (aK (bH 6) cK)))
 mv)
noncomputable def pV:Ev->SR:=(aA (bg 2 JJ)
 (aA (i7 (HV (dI 1 bD (ae (af 1) ak))) (du 2 (aK (bH 3) (aK (bH 4) cK)))
 jC)
 (bf (af 2))))
noncomputable def jk:List U->R U:=dh .O 8 pV
noncomputable abbrev xD:Gm:=⟨[false,false,false,true,false,false,false],false,λ_=>False⟩
noncomputable def eW:Ev->SR:=(fJ 3 (a9 fm (a9 nC (af 5) (gC (.int 0))) (a9 gq (af 2) (a9 nC (af 5) (gC (.int 1))))) (af 4))
noncomputable def kl:Ev->SR:=(aA (bg 2 (dI 1 bT (ae (kT (j8 (af 0)) [none,none] (du 2 (aK (bH 0) (aK (bH 1) cK))) dA (af 1)) ak)))
 (aA (bg 3 JJ)
 (aA (i7 (j8 (af 0)) (du 2 (aK (bH 4) (aK (bH 5) cK)))
 eW)
 (xn 3 (aA (bg 6 (dI 2 jk (ae (af 3) (ae (af 1) ak))))
 (bf (kT (j8 (jM gU (ae (af 6) ak))) [none,some 6,some 2,some 1] (bH 0) dA (cE (ae (af 0) (ae (dI 2 jB (ae (a9 uU (af 1) (af 0)) (ae (a9 fm (af 2) (jM l8 (ae (af 3) ak))) ak))) ak))))))))))
noncomputable def aZ:List U->R U:=dh .O 7 kl
noncomputable abbrev xE:Gm:=⟨[false,false,false,true,false],false,λ_=>False⟩
noncomputable def km:Ev->SR:=(aA (bg 1 (gC (.int 0)))
 (aA (i7 (OP (af 0)) (bH 2)
 (bg 1 (dI 2 aN (ae (af 1) (ae (af 2) ak)))))
 (aA (bg 3 JJ)
 (aA (i7 (HV (af 0)) (du 2 (aK (bH 4) (aK (bH 2) cK)))
 (fJ 3 (a9 gq (af 2) (af 1)) (af 4)))
 (bf (af 3))))))
noncomputable def bY:List U->R U:=dh .O 5 km
noncomputable abbrev J6:Gm:=⟨[false,false],false,λ_=>False⟩
noncomputable def xF:Ev->SR:=(bf (a9 (y_ id) (dI 1 bY (ae (dI 1 bD (ae (af 0) ak)) ak)) (dI 1 bY (ae (dI 1 bD (ae (af 1) ak)) ak))))
noncomputable def iG:List U->R U:=dh .S 2 xF
noncomputable abbrev Dm:Gm:=⟨[false,false,true,false,false,false,false,false,false,true],false,λ_=>False⟩
noncomputable def tM:Ev->SR:=(aA (bg 7 (dI 2 kj (ae (af 3) (ae (af 5) ak))))
 (fJ 2 (a9 cv (iB 2 (af 7) (gC (.int 0))) (a9 fm (af 4) (af 6))) (af 7)))
noncomputable def nY:Ev->SR:=(i7 (HV (dI 1 bD (ae (af 1) ak))) (du 2 (aK (bH 5) (aK (bH 6) cK)))
 tM)
noncomputable def tN:Ev->SR:=(oP (gM "list" 9 fq (ae (a9 vp (fh (ae (af 7) ak)) (a9 uU (af 8) (af 7))) ak)))
noncomputable def pW:Ev->SR:=(aA (bg 2 JJ)
 (aA (i7 (HV (dI 1 bD (ae (af 0) ak))) (du 2 (aK (bH 3) (aK (bH 4) cK)))
 nY)
 (xn 2 (aA (bg 8 (dI 1 bY (ae (af 2) ak)))
 (aA (lQ (gB (a9 OG (y8 (af 8)) (gC (.int 24)))) (λ_=>.exc "TooMany" .non) bZ)
 (aA (bg 9 (fh ak))
 (aA (i7 (j8 (jM gU (ae (af 8) ak))) (bH 7)
 tN)
 (bf (jM e_ (ae (af 9) ak))))))))))
noncomputable def cA:List U->R U:=dh .S 10 pW
noncomputable abbrev pX:Gm:=⟨[false,false],false,λ_=>False⟩
noncomputable def dY:Ev->SR:=(aA (lQ (gB (a9 LS (af 1) (jM l8 (ae (af 0) ak)))) (bf (a9 nC (af 0) (af 1))) bZ)
 (bf (gC (.int 0))))
noncomputable def cg:List U->R U:=dh .S 2 dY
noncomputable abbrev tP:Gm:=⟨[false,false,false],false,λ_=>False⟩
noncomputable def fu:Ev->SR:=(aA (bg 2 (dI 2 cg (ae (af 0) (ae (af 1) ak))))
 (aA (lQ (gB (a9 OH (af 2) (a9 Fq (gC (.int 10)) (gC (.int 18))))) (bf (fh (ae (a9 z9 (af 2) (a9 Fq (gC (.int 10)) (gC (.int 18)))) (ae (gC (.bl true)) ak)))) bZ)
 (bf (fh (ae (a9 qE (af 2) (gC (.int 2147483647))) (ae (gC (.bl false)) ak))))))
noncomputable def c7:List U->R U:=dh .O 3 fu
noncomputable abbrev vt:Gm:=⟨[true,false,false,false],true,λ_=>False⟩
noncomputable def gr:Ev->SR:=(aA (lQ (gB (a9 nC (af 0) (gC (.int 1)))) (aA (bg 2 (a9 qE (a9 nC (af 0) (gC (.int 0))) (af 1)))
 (aA (ym 0 (a9 gq (a9 nC (af 0) (gC (.int 0))) (af 1)) (gC (.int 0)))
 (bf (af 2)))) bZ)
 (aA (ym 0 (a9 qE (a9 cv (a9 fm (a9 nC (af 0) (gC (.int 0))) (gC (.int 48271))) (gC (.int 29))) (gC (.int 2147483647))) (gC (.int 0)))
 (aA (bg 3 (a9 qE (a9 cv (a9 cv (a9 fm (a9 nC (af 0) (gC (.int 0))) (a9 nC (af 0) (gC (.int 0)))) (a9 fm (gC (.int 39373)) (a9 nC (af 0) (gC (.int 0))))) (gC (.int 7))) (gC (.int 2147483629))))
 (aA (bg 3 (a9 qE (a9 cv (a9 fm (af 3) (af 3)) (a9 fm (gC (.int 16807)) (af 3))) (gC (.int 2147483587))))
 (bf (a9 qE (a9 gq (af 3) (gC (.int 8))) (af 1)))))))
noncomputable def aE:List U->R (U×U):=wY 4 gr
noncomputable abbrev iH:Gm:=⟨[true,false,true],true,λ_=>False⟩
noncomputable def iI:Ev->SR:=(aA (bg 2 (yy (ae (af 1) ak)))
 (bf (jM e_ (ae (sU iH (fj (ae (af 1) ak)) [none,some 2,some 0] (bH 0) dA (gM "list" 1 l_ (ae (nR 2 2 aE (ae (jM l8 (ae (af 1) ak)) ak)) ak))) ak))))
noncomputable def cB:List U->R (U×U):=wY 3 iI
noncomputable abbrev fM:Gm:=⟨[true,false,false,false,false,false,false,false,false,true],true,λ_=>False⟩
noncomputable def bN:Ev->SR:=(aA (bg 2 (uR (ae (af 1) ak)))
 (aA (bg 3 (nR 2 0 aE (ae (gC (.int 6)) ak)))
 (aA (lQ (gB (a9 (pU id) (af 3) (gC (.int 0)))) (bf (jM e_ (ae (kT (fj (ae (af 1) ak)) [none,some 2] (bH 0) dA (a9 cv (oN mL (af 1) (cG (af 0)) c_) (oN mL (af 1) c_ (cG (af 0))))) ak))) bZ)
 (aA (lQ (gB (a9 (pU id) (af 3) (gC (.int 1)))) (aA (bg 4 (nR 2 0 cB (ae (af 1) ak)))
 (bf (cE (ae (af 2) (ae (af 4) ak))))) bZ)
 (aA (lQ (gB (a9 (pU id) (af 3) (gC (.int 2)))) (aA (bg 5 (a9 gq (af 1) (gC (.int 2))))
 (bf (cE (ae (af 2) (ae (a9 cv (a9 cv (oN mL (af 2) (cG (af 5)) (cG (a9 fm (gC (.int 2)) (af 5)))) (oN mL (af 2) c_ (cG (af 5)))) (oN mL (af 2) (cG (a9 fm (gC (.int 2)) (af 5))) c_)) ak))))) bZ)
 (aA (lQ (gB (a9 (pU id) (af 3) (gC (.int 3)))) (aA (bg 6 (fh (ae (cE ak) ak)))
 (aA (bg 7 (jM uM (ae (af 1) (ae (a9 cv (gC (.int 2)) (nR 2 0 aE (ae (gC (.int 3)) ak))) ak))))
 (aA (i7 (fj (ae (af 7) ak)) (bH 8)
 (aA (bg 9 (fh ak))
 (aA (i7 (j8 (af 6)) (bH 4)
 (oP (gM "list" 9 fq (ae (kT (fj (ae (a9 cv (af 8) (gC (.int 1))) ak)) [none,some 4,some 8] (bH 0) dA (a9 cv (a9 cv (oN mL (af 1) c_ (cG (af 0))) (cE (ae (af 2) ak))) (oN mL (af 1) (cG (af 0)) c_))) ak))))
 (uI 6 9))))
 (bf (jM e_ (ae (kT (j8 (af 6)) [none,some 2,some 7] (bH 0) dA (a9 cv (af 0) (oN mL (af 1) (cG (af 2)) c_))) ak)))))) bZ)
 (bf (jM e_ (ae (sU fM (fj (ae (a9 cv (gC (.int 1)) (nR 2 0 aE (ae (gC (.int 4)) ak))) ak)) [none,some 0,some 1] (bH 0) dA (nR 2 1 cB (ae (af 2) ak))) ak)))))))))
noncomputable def aD:List U->R (U×U):=wY 10 bN
noncomputable abbrev eC:Gm:=⟨[true,false,false],true,λ_=>False⟩
noncomputable def iJ:Ev->SR:=(aA (bg 2 (nR 2 0 aE (ae (gC (.int 4)) ak)))
 (aA (lQ (gB (a9 LS (af 2) (gC (.int 2)))) (bf (jM e_ (ae (sU eC (fj (ae (af 1) ak)) [none,some 0] (bH 0) dA (nR 2 1 aE (ae (gC (.int 2)) ak))) ak))) bZ)
 (bf (jM e_ (ae (sU eC (fj (ae (af 1) ak)) [none,some 0,some 2] (bH 0) dA (nR 2 1 aE (ae (a9 nC (fh (ae (gC (.int 3)) (ae (gC (.int 10)) ak))) (a9 z9 (af 2) (gC (.int 2)))) ak))) ak)))))
noncomputable def dN:List U->R (U×U):=wY 3 iJ
noncomputable def az:List U->R U:=λus=>match us with
 | [a,b]=>match cO a||cO b with
  |true=>.ok .non
  |false=>match cA [a,b] with
   | .ok z=>.ok z
   | .exc _ _=>.ok .non
   |_=>.stk
 |_=>.stk
noncomputable abbrev tQ:Gm:=⟨[false,false,false,false,false],false,λ_=>False⟩
noncomputable def iK:Ev->SR:=(aA (bg 3 (dI 2 az (ae (dI 2 az (ae (af 0) (ae (af 1) ak))) (ae (af 2) ak))))
 (aA (bg 4 (dI 2 az (ae (af 0) (ae (dI 2 az (ae (af 1) (ae (af 2) ak))) ak))))
 (bf (NK (a9 (nB id) (af 3) (gC .non)) (NK (a9 (nB id) (af 4) (gC .non)) (a9 (B1 id) (af 3) (af 4)))))))
noncomputable def c8:List U->R U:=dh .S 5 iK
noncomputable abbrev vv:Gm:=⟨[false,false,true,false,false,false,false,false,false,false],false,λ_=>False⟩
noncomputable def pY:Ev->SR:=(aA (bg 2 (dI 2 c7 (ae (af 0) (ae (af 1) ak))))
 (aA (bg 3 (a9 cv (gC (.int 1)) (nR 2 2 aE (ae (gC (.int 6)) ak))))
 (aA (Fh (uH 3 (aK (bH 4) (aK (bH 5) (aK (bH 6) cK)))) (sU vv (fj (ae (gC (.int 3)) ak)) [none,some 2,some 3] (bH 0) dA (nR 2 1 aD (ae (af 2) ak))))
 (aA (bg 7 (nR 2 2 dN (ae (af 3) ak)))
 (aA (bg 8 (dI 2 az (ae (af 4) (ae (af 5) ak))))
 (aA (lQ (gB (a9 (nB not) (af 8) (gC .non))) (aA (lQ (AV (gB (a9 (w5 not) (dI 2 c6 (ae (af 8) (ae (af 3) ak))) (gC (.bl true)))) (gB (a9 (B1 not) (jM gU (ae (af 8) ak)) (jM oZ (ae (af 8) ak))))) (bf (gC (.bl false))) bZ)
 (lQ (gB (a9 (B1 not) (dI 2 aZ (ae (dI 2 aZ (ae (fh (ae (cE (ae (af 7) (ae (cE (ae (gC (.int 1)) (ae (gC (.int 1)) ak))) ak))) ak)) (ae (af 4) ak))) (ae (af 5) ak))) (dI 2 aZ (ae (fh (ae (cE (ae (af 7) (ae (cE (ae (gC (.int 1)) (ae (gC (.int 1)) ak))) ak))) ak)) (ae (af 8) ak))))) (bf (gC (.bl false))) bZ)) bZ)
 (aA (lQ (oK (gB (dI 3 c8 (ae (af 4) (ae (af 5) (ae (af 6) ak)))))) (bf (gC (.bl false))) bZ)
 (aA (bg 9 (cE (ae (uR (ae (af 3) ak)) ak)))
 (aA (lQ (AV (gB (a9 (w5 not) (dI 2 cy (ae (a9 nC (af 9) (gC (.int 0))) (ae (af 3) ak))) (gC (.bl true)))) (AV (oK (gB (dI 2 iG (ae (dI 2 cA (ae (af 4) (ae (af 9) ak))) (ae (af 4) ak))))) (oK (gB (dI 2 iG (ae (dI 2 cA (ae (af 9) (ae (af 4) ak))) (ae (af 4) ak))))))) (bf (gC (.bl false))) bZ)
 (lQ (BK (gB (dI 2 iG (ae (af 4) (ae (af 5) ak)))) (gB (a9 (B1 not) (dI 2 aZ (ae (fh (ae (cE (ae (af 7) (ae (cE (ae (gC (.int 1)) (ae (gC (.int 1)) ak))) ak))) ak)) (ae (af 4) ak))) (dI 2 aZ (ae (fh (ae (cE (ae (af 7) (ae (cE (ae (gC (.int 1)) (ae (gC (.int 1)) ak))) ak))) ak)) (ae (af 5) ak)))))) (bf (gC (.bl false))) bZ))))))))))
noncomputable def Dn:Ev->SR:=(aA (i7 (fj (ae (jM yv (ae (gC (.int 1)) (ae (jM uM (ae (jM l8 (ae (af 0) ak)) (ae (gC (.int 3)) ak))) ak))) ak)) (bH 1)
 pY)
 (bf (gC (.bl true))))
noncomputable def vx:List U->R U:=dh .S 10 Dn
end Hc
end
namespace Hc
open L2
noncomputable abbrev bM:Wv:=top 4
noncomputable abbrev mw:Wv:=top 5
noncomputable abbrev cJ:Wv:=top 6
noncomputable abbrev gX:Wv:=top 8
noncomputable abbrev fN:Wv:=top 9
noncomputable abbrev fO:Wv:=top 10
noncomputable abbrev rP:Wv:=top 11
noncomputable abbrev dO:Wv:=top 14
noncomputable abbrev gY:Wv:=top 15
noncomputable abbrev jD:Wv:=top 16
noncomputable abbrev dR:Wv:=top 17
noncomputable abbrev fz:Wv:=top 18
noncomputable abbrev rQ:Wv:=top 19
noncomputable abbrev lz:Wv:=top 20
noncomputable abbrev eD:Wv:=top 22
noncomputable abbrev fA:Wv:=top 23
noncomputable abbrev gZ:Wv:=top 24
noncomputable abbrev eE:Wv:=top 25
noncomputable abbrev bJ:Wv:=top 26
noncomputable abbrev gu:Wv:=top 27
noncomputable abbrev g7:Wv:=top 28
noncomputable abbrev fB:Wv:=top 29
noncomputable abbrev tR:Wv:=top 30
abbrev Bd (x:Str)(ps:List Str)(s:Wv):Prop:=∀(kV ku pm:R6) (an:Option Sr) (bx ct:R6) (us:List R6),us.length=ps.length->bindArgs (TU x x (dD s) (bC s) (aj s) .none kV ku pm an bx ct) ⟨us,[]⟩=pure (ps.zip us)
theorem pZ {P:List Str}{sc:Scope}(a:sc.kind=.function:=by rfl)(b:sc.isCoroutine=false:=by rfl)(c:sc.isGenerator=false:=by rfl)(d:N.Nodup:=by decide+kernel)(e:N.take P.length=P:=by rfl)(f:∀x∈P,sc.names.lookup x=some .local\/sc.names.lookup x=some .cell:=by decide+kernel)(g:∀y∈sc.names,y.2≠.free:=by decide+kernel):aQ N P sc:=⟨a,b,c,d,e,f,g⟩
theorem rm {A:S2}(r:dE k A)(h:j<=k:=by first|decide|lia):dE j A:=r.mono h
theorem bj:aQ ["one","other","rest"] ["one","other"] (aj bM):=pZ
theorem jN:Bd "greatest_divisor" ["one","other"] bM:=λ_ _ _ _ _ _ us hl=>match us,hl with|[_,_],_=>rfl
theorem p0:aQ ["top","bottom","divisor"] ["top","bottom"] (aj mw):=pZ
theorem Dp:Bd "ratio" ["top","bottom"] mw:=λ_ _ _ _ _ _ us hl=>match us,hl with|[_,_],_=>rfl
theorem c9:aQ ["some","bottom","fraction"] ["some"] (aj cJ):=pZ
theorem my:Bd "common_bottom" ["some"] cJ:=λ_ _ _ _ _ _ us hl=>match us,hl with|[_],_=>rfl
theorem vy:aQ ["thing"] ["thing"] (aj gX):=pZ
theorem vz:Bd "is_whole" ["thing"] gX:=λ_ _ _ _ _ _ us hl=>match us,hl with|[_],_=>rfl
theorem vA:aQ ["thing","many"] ["thing","many"] (aj fN):=pZ
theorem vB:Bd "is_order" ["thing","many"] fN:=λ_ _ _ _ _ _ us hl=>match us,hl with|[_,_],_=>rfl
theorem vC:aQ ["row","places"] ["row","places"] (aj fO):=pZ
theorem vD:Bd "cards_at" ["row","places"] fO:=λ_ _ _ _ _ _ us hl=>match us,hl with|[_,_],_=>rfl
theorem FY:aQ ["one","other"] ["one","other"] (aj rP):=pZ
theorem FZ:Bd "then" ["one","other"] rP:=λ_ _ _ _ _ _ us hl=>match us,hl with|[_,_],_=>rfl
theorem qG:aQ ["thing","many"] ["thing","many"] (aj dO):=pZ
theorem qH:Bd "is_shuffle" ["thing","many"] dO:=λ_ _ _ _ _ _ us hl=>match us,hl with|[_,_],_=>rfl
theorem kn:aQ ["shuffle","often","order"] ["shuffle"] (aj gY):=pZ
theorem xG:Bd "counted" ["shuffle"] gY:=λ_ _ _ _ _ _ us hl=>match us,hl with|[_],_=>rfl
theorem eF:aQ ["weights","shuffle","gathered","order","often","row","weight","changed"] ["weights","shuffle"] (aj jD):=pZ
theorem Aw:Bd "spread" ["weights","shuffle"] jD:=λ_ _ _ _ _ _ us hl=>match us,hl with|[_,_],_=>rfl
theorem dS:aQ ["mix","shuffle","bottom","weights","row","chance","gathered"] ["mix","shuffle"] (aj dR):=pZ
theorem vE:Bd "shuffled" ["mix","shuffle"] dR:=λ_ _ _ _ _ _ us hl=>match us,hl with|[_,_],_=>rfl
theorem cQ:aQ ["often","divisor","number","least","order"] ["often"] (aj fz):=pZ
theorem vF:Bd "lessened" ["often"] fz:=λ_ _ _ _ _ _ us hl=>match us,hl with|[_],_=>rfl
theorem F0:aQ ["one","other"] ["one","other"] (aj rQ):=pZ
theorem F2:Bd "same" ["one","other"] rQ:=λ_ _ _ _ _ _ us hl=>match us,hl with|[_,_],_=>rfl
theorem bE:aQ ["one","other","often","first","number","second","more","order","least","orders"] ["one","other"] (aj lz):=pZ
theorem ze:Bd "both" ["one","other"] lz:=λ_ _ _ _ _ _ us hl=>match us,hl with|[_,_],_=>rfl
theorem nE:aQ ["script","k"] ["script","k"] (aj eD):=pZ
theorem nF:Bd "_law_cell_at" ["script","k"] eD:=λ_ _ _ _ _ _ us hl=>match us,hl with|[_,_],_=>rfl
theorem jU:aQ ["script","k","cell"] ["script","k"] (aj fA):=pZ
theorem qI:Bd "_law_state" ["script","k"] fA:=λ_ _ _ _ _ _ us hl=>match us,hl with|[_,_],_=>rfl
theorem fw:aQ ["state","many","found","mixed"] ["state","many"] (aj gZ):=pZ
theorem tS:Bd "_law_take" ["state","many"] gZ:=λ_ _ _ _ _ _ us hl=>match us,hl with|[_,_],_=>rfl
theorem jV:aQ ["state","many","left"] ["state","many"] (aj eE):=pZ
theorem qJ:Bd "_law_order" ["state","many"] eE:=λ_ _ _ _ _ _ us hl=>match us,hl with|[_,_],_=>rfl
theorem aV:aQ ["state","many","stays","way","order","half","some","size","k","longer"] ["state","many"] (aj bJ):=pZ
theorem nG:Bd "_law_shuffle" ["state","many"] bJ:=λ_ _ _ _ _ _ us hl=>match us,hl with|[_,_],_=>rfl
theorem ng:aQ ["state","many","way"] ["state","many"] (aj gu):=pZ
theorem vG:Bd "_law_row" ["state","many"] gu:=λ_ _ _ _ _ _ us hl=>match us,hl with|[_,_],_=>rfl
theorem dZ:aQ ["one","other","found"] ["one","other"] (aj g7):=pZ
theorem tT:Bd "_law_both" ["one","other"] g7:=λ_ _ _ _ _ _ us hl=>match us,hl with|[_,_],_=>rfl
theorem gH:aQ ["one","other","third","left","right"] ["one","other","third"] (aj fB):=pZ
theorem qK:Bd "_law_three" ["one","other","third"] fB:=λ_ _ _ _ _ _ us hl=>match us,hl with|[_,_,_],_=>rfl
theorem gI:aQ ["script","k","state","many","one","other","third","row","found","stays"] ["script"] (aj tR):=pZ
structure Txt (mg:Str->Option R6):Prop where
 zmq:mg "abs"=none
 zkq:mg "all"=none
 zfq:mg "bool"=none
 zlq:mg "int"=none
 zbq:mg "isinstance"=none
 znq:mg "len"=none
 zgq:mg "list"=none
 zjq:mg "max"=none
 zhq:mg "min"=none
 zeq:mg "range"=none
 zcq:mg "sorted"=none
 ziq:mg "sum"=none
 zdq:mg "tuple"=none
 zaq:∃tk,mg "MOST_ORDERS"=some (.int 24 tk)
end Hc
namespace Hc
open L2
structure NW (K:R1)(mg:Str->Option R6)(C:Sr):Prop where
 cls:mg "TooMany"=some (.ref C)
 exc:PySem.W.excIn K C uX "ValueError.__new__"=true
 own:PySem.W.exmOne K (.ref C) (.ref C)=some true
theorem PS.nox {t:TS}(h:PS X.nox st t):PS X st t:=λpins s σ H D I hw=>
 S8 (h pins s σ H D (I.wish _) hw) (λ_ _ q=>q.unwish) λ_ _ z=>Ui z
section
variable {w:Tq}{base:UU}
theorem xH (T:Txt mg)(XT:NW K mg C)(ju:Fn P w K mg base "then" 2 ["one","other"] (fi K 2 kj .S))(bc:Fn P w K mg base "counted" 1 ["shuffle"] (fi K 1 bD .O))(bG:Fn P w K mg base "lessened" 2 ["often"] (fi K 1 bY .O))(d:Df K mg "both" lz) :
  ∃(f:Sr) (fd:Vk),mg "both"=some (.ref f)/\T9 K (.ref f)=true/\kE K fd ["one","other"] []/\il P w K mg base (Ak P w C) 3 f fd ["one","other"] (PD K 2 C λus=>∃c u,cA us=.exc c u):=by
 obtain⟨ed,zaq⟩:=T.zaq;refine Df.fnX (N:=["one","other","often","first","number","second","more","order","least","orders"]) (ps:=["one","other"]) (st:=lz) (k:=2) Dm .S pW d bE ze rfl (by decide) ?_;intro f bx A outer s0 H E hr;have hu:=hr.units;have og:=cN hr;exact (ah (dX (i:=2) (h0:=λ_=>by decide) bE.nd gR)
 (ah (dg Xq rfl (fK (au bc (hr.mono (by first|decide|lia)) (aa (ai 0) ag))) (ir rfl (ba (aI (i:=3) bE.nd) (ba (aI (i:=4) bE.nd) eL)))
 (ao (dg Xq rfl (fK (au bc (hr.mono (by first|decide|lia)) (aa (ai 1) ag))) (ir rfl (ba (aI (i:=5) bE.nd) (ba (aI (i:=6) bE.nd) eL)))
 (ah (aW (i:=7) bE.nd (au ju (hr.mono (by first|decide|lia)) (aa (ai 3) (aa (ai 5) ag))))
 (ao (jz (j:=2) hu (aU bP bQ (k7 (j:=2) hu (ai 7) aq) (aU ei cY (ai 4) (ai 6))) (ai 7)))))))
 (tq 2 (hi:=λ_=>by decide) (ah (aW (i:=8) bE.nd (au bG (hr.mono (by first|decide|lia)) (aa (ai 2) ag)))
 (ah (dz (bX GK B7 (y9 rfl (ai 8) T.ziq) (oI (i:=24) rfl zaq) (bA _)) (ao (C7 XT.cls XT.exc hr.hd (eK (L4 (xY (v:=.int 24) rfl zaq ⟨_,rfl⟩)) j3) (λσ H Q h=>⟨24,rfl,by decide,by decide+kernel,λy=>h _ _ (show 1<=R3 by decide) (λ_ _ e=>e)⟩) (λ_ z=>z))) bw)
 (ah (dX (i:=9) (h0:=λ_=>by decide) bE.nd (er ag))
 (ah (dg Xq rfl (eZ (m1:=.O) (bB (gW rfl hu) ji (by rfl) T.zcq gP (aa (ai 8) ag))) (aI (i:=7) bE.nd)
 (ao (sP (sO (i:=9) UQ Vx Vy sZ j9 (aa (aU y7 vq (er (aa (ai 7) ag)) (xf hu (ai 8) (ai 7))) ag)))))
 (ao (aY (cI bu cZ (by rfl) T.zdq cD (aa (gA 9) ag)))))))))))
end
noncomputable abbrev GB:Gm:=⟨[false,false,false],false,λ_=>False⟩
noncomputable def vH:Ev->SR:=lQ (AV (gB (a9 (nB id) (af 0) (gC .non))) (gB (a9 (nB id) (af 1) (gC .non)))) (bf (gC .non)) bZ
noncomputable def Dq:Ev->SR:=bg 2 (gC .non)
noncomputable def zf:Ev->SR:=bg 2 (dI 2 cA (ae (af 0) (ae (af 1) ak)))
theorem xI {a b:U}(o:Option U):vH [some a,some b,o]=match cO a||cO b with
  |true=>.rt .non [some a,some b,o]
  |false=>.nx [some a,some b,o]:=by
 cases ha:cO a<;>cases hb:cO b<;>(unfold vH lQ AV gB a9 nB af gC;simp[R.bind,SR.of,ha,hb,bf,bZ,gC])
theorem J7 {a b z:U}(h:(cO a||cO b)=false)(e:cA [a,b]=.ok z):dh .S 3 (aA vH (aA Dq (aA zf (bf (af 2))))) [a,b]=.ok z:=by
 have e1:dI 2 cA (ae (af 0) (ae (af 1) ak)) [some a,some b,some .non]=(cA [a,b]).bind λz=>.ok (z,[some a,some b,some .non]):=rfl;have e2:zf [some a,some b,some .non]=.nx [some a,some b,some z]:=by unfold zf bg;rw[e1,e];rfl
 have e3:aA zf (bf (af 2)) [some a,some b,some .non]=.rt z [some a,some b,some z]:=by unfold aA;rw[e2];rfl
 have e4:vH [some a,some b,none]=.nx [some a,some b,none]:=by rw[xI,h]
 have e5:aA vH (aA Dq (aA zf (bf (af 2)))) [some a,some b,none]=.rt z [some a,some b,some z]:=by
  show (match vH [some a,some b,none] with|.nx ρ'=>aA Dq (aA zf (bf (af 2))) ρ'|r=>r)=_;rw[e4];exact e3
 unfold dh;show (match aA vH (aA Dq (aA zf (bf (af 2)))) [some a,some b,none] with
  | .rt u _=>R.ok u
  | .nx _=>if Md.S=Md.S then .ok .non else .stk
  | .exc c u=>.exc c u
  |_=>.stk)=_
 rw[e5]
theorem F3 {a b:U}(h:(cO a||cO b)=true):dh .S 3 (aA vH (aA Dq (aA zf (bf (af 2))))) [a,b]=.ok .non:=by
 have e5:aA vH (aA Dq (aA zf (bf (af 2)))) [some a,some b,none]=.rt .non [some a,some b,none]:=by
  show (match vH [some a,some b,none] with|.nx ρ'=>aA Dq (aA zf (bf (af 2))) ρ'|r=>r)=_;rw[xI,h]
 unfold dh;show (match aA vH (aA Dq (aA zf (bf (af 2)))) [some a,some b,none] with
  | .rt u _=>R.ok u
  | .nx _=>if Md.S=Md.S then .ok .non else .stk
  | .exc c u=>.exc c u
  |_=>.stk)=_
 rw[e5]
section
variable {w:Tq}{base:UU}
theorem Dr (T:Txt mg)(XT:NW K mg C)(ju:Fn P w K mg base "then" 2 ["one","other"] (fi K 2 kj .S))(bc:Fn P w K mg base "counted" 1 ["shuffle"] (fi K 1 bD .O))(bG:Fn P w K mg base "lessened" 2 ["often"] (fi K 1 bY .O))(qt:Fn P w K mg base "both" 3 ["one","other"] (fi K 2 cA .S))(d1:Df K mg "both" lz)(d:Df K mg "_law_both" g7):Fn P w K mg base "_law_both" 4 ["one","other"] (fi K 2 az .S):=by
 obtain⟨f1,fd1,a1,b1,c1,F1⟩:=xH (P:=P) (w:=w) (base:=base) T XT ju bc bG d1;have hl:∀(us:List U) (A:Sr->Prop) (H:Hp) (Q:VK),z6 K .S A H (uG 2 az us) Q->us.length=2:=λus A H Q h=>by
  unfold uG at h;split at h
  ·assumption
  ·exact h.elim
 refine Df.fn (N:=["one","other","found"]) (k:=3) d dZ tT (λvs H Q E ⟨us,A,r,_,h⟩=>by rw[←r.length];exact hl us A H Q h) λf bx A outer s H vs Q E hr ⟨us,A0,r,mu,h⟩=>?_;have l:=hl us A0 H Q h;have own:∀i,i<2->GB.is i=false:=λi hi=>match i,hi with|0,_=>rfl|1,_=>rfl
 match us,l with
 | [a,b],_=>
  have h:z6 K .S A0 H (az [a,b]) Q:=h;have key:dh .S 3 (aA vH (aA Dq (aA zf (bf (af 2))))) [a,b]=az [a,b]\/∃c u,(cO a||cO b)=false/\cA [a,b]=.exc c u:=by
   unfold az at h ⊢;dsimp only at h ⊢;cases hn:cO a||cO b with
   |true=>rw[F3 hn];exact .inl rfl
   |false=>
    rw[hn] at h;dsimp only at h ⊢;cases hb:cA [a,b] with
    |ok z=>rw[J7 hn hb];exact .inl rfl
    |stk=>rw[hb] at h;exact h.elim
    |exc c u=>exact .inr ⟨c,u,rfl,rfl⟩
  rcases key with e|⟨c,u,hn,hb⟩
  ·refine (oV (ps:=["one","other"]) (N:=["one","other","found"]) (st:=g7) (x:="_law_both") (k:=3) GB .S (aA vH (aA Dq (aA zf (bf (af 2))))) rfl own ?_).2 f bx A outer s H vs Q E hr ⟨[a,b],A0,r,mu,?_⟩
   ·intro f bx A outer s0 H E hr;exact ah (dz (DW.dt (rn (bX lT jy (ai 0) gD (bA _)) (oM (bX lT jy (ai 1) gD (bA _))))) (ao (aY gD)) bw)
     (ah (aW (i:=2) dZ.nd gD) (ah (FG (ao (aW (i:=2) dZ.nd (au qt (hr.mono (by decide)) (aa (ai 0) (aa (ai 1) ag)))))) (ao (aY (ai 2)))))
   ·show z6 K .S A0 H (dh .S 3 (aA vH (aA Dq (aA zf (bf (af 2))))) [a,b]) Q;rw[e];exact h
  ·have h:z6 K .S A0 H (.ok .non) Q:=by
    have e:az [a,b]=.ok .non:=by unfold az;dsimp only;rw[hn];dsimp only;rw[hb]
    rw[←e];exact h
   refine⟨_,kD (PS.nox (DS.un (G:=GB) (m:=.S) (g:=vH) (dz (DW.dt (rn (bX lT jy (ai 0) gD (bA _)) (oM (bX lT jy (ai 1) gD (bA _))))) (ao (aY gD)) bw)))
    (kD (oj (i:=2) dZ.nd rfl (Or.inl rfl) wy)
    (kD (FN F1 (hr.mono (by decide)) a1 b1 c1 rfl rfl XT.cls XT.own (eK (pv 0) (eK (pv 1) j3)) (λea=>su (oj (i:=2) dZ.nd rfl (Or.inl rfl) wy)))
    (su (sv (pv 2))))),?_⟩
   have rl:=rD (G:=GB) (N:=["one","other","found"]) r mu rfl own;refine⟨⟨A0,H,0⟩,A0,_,rl,?_⟩;have h1:vH (b7 (["one","other","found"]:List Str).length [a,b])=.nx [some a,some b,none]:=by
    show vH [some a,some b,none]=_;rw[xI,hn]
   rw[h1];intro A1 σ1 H1 q1;obtain⟨v0,g0,r0⟩:=q1.val (i:=0) rfl rfl;obtain⟨v1,g1,r1⟩:=q1.val (i:=1) rfl rfl;have l3:σ1.length=3:=q1.len.symm;refine⟨v0,by rw[SD (by decide)];exact g0,v1,by rw[SD (by decide)];exact g1,[a,b],A1,aC.cons r0 (aC.cons r1 aC.nil),q1.mu,rfl,⟨c,u,hb⟩,λH' sm ea Rj=>?_⟩;refine⟨.non,by rw[UX (by rw[Tu];lia)],?_⟩;exact h .non _ (λb o e=>(sm.updN Rj) b o (q1.bas b o e)) (show Rp K (cu H' ea (JS ea C)) A0 .non .non by unfold Rp;rfl)
end
end Hc
namespace Hc
open L2
section
variable {w:Tq}{base:UU}
theorem jO (T:Txt mg)  (bO:Df K mg "greatest_divisor" bM):Fn P w K mg base "greatest_divisor" 1 ["one","other"] (fi K 2 aN .S):=by
 refine Df.fnD (N:=["one","other","rest"]) (ps:=["one","other"]) (st:=bM) (k:=0) kg .S dM bO bj jN rfl (by decide) ?_;intro f bx A outer s0 H E hr;have hu:=hr.units;have og:=cN hr;exact (ah (aW (i:=0) bj.nd (bB uq yu (by rfl) T.zmq BD (aa (ai 0) ag)))
 (ah (aW (i:=1) bj.nd (bB uq yu (by rfl) T.zmq BD (aa (ai 1) ag)))
 (ah (BV S_ (bX Lk FW (ai 1) aq (bA _))
 (ah (aW (i:=2) bj.nd (aU j0 iw (ai 0) (ai 1)))
 (ah (aW (i:=0) bj.nd (ai 1))
 (ao (aW (i:=1) bj.nd (ai 2))))))
 (ao (aY (ai 0))))))
theorem Ds (T:Txt mg)(aT:Fn P w K mg base "greatest_divisor" 1 ["one","other"] (fi K 2 aN .S))(lP:Df K mg "ratio" mw):Fn P w K mg base "ratio" 2 ["top","bottom"] (fi K 2 jB .S):=by
 refine Df.fnD (N:=["top","bottom","divisor"]) (ps:=["top","bottom"]) (st:=mw) (k:=1) FX .S tK lP p0 Dp rfl (by decide) ?_;intro f bx A outer s0 H E hr;have hu:=hr.units;have og:=cN hr;exact (ah (aW (i:=2) p0.nd (au aT (rm hr) (aa (ai 0) (aa (ai 1) ag))))
 (ah (dz (bX Be w_ (ai 1) aq (bA _)) (ao (aW (i:=2) p0.nd (LN IT Ft (ai 2)))) bw)
 (ao (aY (dH (aa (aU dP eS (ai 0) (ai 2)) (aa (aU dP eS (ai 1) (ai 2)) ag)))))))
theorem mz (T:Txt mg)(aT:Fn P w K mg base "greatest_divisor" 1 ["one","other"] (fi K 2 aN .S))(cH:Df K mg "common_bottom" cJ):Fn P w K mg base "common_bottom" 2 ["some"] (fi K 1 bT .S):=by
 refine Df.fnD (N:=["some","bottom","fraction"]) (ps:=["some"]) (st:=cJ) (k:=1) nD .S fc cH c9 my rfl (by decide) ?_;intro f bx A outer s0 H E hr;have hu:=hr.units;have og:=cN hr;exact (ah (aW (i:=1) c9.nd aq)
 (ah (dg S_ rfl (eZ (ai 0)) (aI (i:=2) c9.nd)
 (ao (aW (i:=1) c9.nd (aU dP eS (aU ei cY (ai 1) (fH dF dJ (ai 2) aq (λ_ _=>rfl))) (au aT (rm hr) (aa (ai 1) (aa (fH dF dJ (ai 2) aq (λ_ _=>rfl)) ag)))))))
 (ao (aY (ai 1)))))
theorem vI (T:Txt mg)  (fU:Df K mg "is_whole" gX):Fn P w K mg base "is_whole" 1 ["thing"] (fi K 1 eB .S):=by
 refine Df.fnD (N:=["thing"]) (ps:=["thing"]) (st:=gX) (k:=0) xy .S kh fU vy vz rfl (by decide) ?_;intro f bx A outer s0 H E hr;have hu:=hr.units;have og:=cN hr;exact (ao (aY (BN (ha:=(nU (T:="int") (by decide) (ai 0) T.zbq T.zlq Jl)) (hb:=(wU (Ju (nU (T:="bool") (by decide) (ai 0) T.zbq T.zfq E2)))))))
theorem vJ (T:Txt mg)(ky:Fn P w K mg base "is_whole" 1 ["thing"] (fi K 1 eB .S))(fV:Df K mg "is_order" fN):Fn P w K mg base "is_order" 2 ["thing","many"] (fi K 2 cy .S):=by
 refine Df.fnD (N:=["thing","many"]) (ps:=["thing","many"]) (st:=fN) (k:=1) xA .S ki fV vA vB rfl (by decide) ?_;intro f bx A outer s0 H E hr;have hu:=hr.units;have og:=cN hr;exact (ah (dz (l4 (j7 (nU (T:="tuple") (by decide) (ai 0) T.zbq T.zdq cD))) (ao (aY iR)) bw)
 (ao (aY (BN (ha:=(bB (rg rfl) yw (by rfl) T.zkq BE (aa (i9 (aj fN) ["thing","many"] ["place"] [none] rfl (eZ (ai 0)) (λY=>⟨(aI (i:=0) (show (["place"]:List Str).Nodup by decide+kernel)),cf,(au ky (rm hr) (aa (ai 0) ag))⟩)) ag))) (hb:=(wU (oJ (BA hu) (oW (f:=id)) (bB (gW rfl hu) ji (by rfl) T.zcq gP (aa (ai 0) ag)) (yz rfl (aa (ai 1) ag) T.zgq T.zeq) (bA _))))))))
theorem vK (T:Txt mg)  (fW:Df K mg "cards_at" fO):Fn P w K mg base "cards_at" 1 ["row","places"] (fi K 2 cz .S):=by
 refine Df.fnD (N:=["row","places"]) (ps:=["row","places"]) (st:=fO) (k:=0) xB .S iE fW vC vD rfl (by decide) ?_;intro f bx A outer s0 H E hr;have hu:=hr.units;have og:=cN hr;exact (ao (aY (cI bu cZ (by rfl) T.zdq cD (aa (i9 (aj fO) ["row","places"] ["place","row"] [none,some 0] rfl (eZ (ai 1)) (λY=>⟨(aI (i:=0) (show (["place","row"]:List Str).Nodup by decide+kernel)),cf,(fH dF dJ (ai 1) (ai 0) (λ_ _=>rfl))⟩)) ag))))
theorem F4 (T:Txt mg)(eJ:Fn P w K mg base "cards_at" 1 ["row","places"] (fi K 2 cz .S))(qu:Df K mg "then" rP):Fn P w K mg base "then" 2 ["one","other"] (fi K 2 kj .S):=by
 refine Df.fnD (N:=["one","other"]) (ps:=["one","other"]) (st:=rP) (k:=1) J5 .S xC qu FY FZ rfl (by decide) ?_;intro f bx A outer s0 H E hr;have hu:=hr.units;have og:=cN hr;exact (ao (aY (au eJ (rm hr) (aa (ai 0) (aa (ai 1) ag)))))
theorem qL (T:Txt mg)(iQ:Fn P w K mg base "is_order" 2 ["thing","many"] (fi K 2 cy .S))(d7:Df K mg "is_shuffle" dO):Fn P w K mg base "is_shuffle" 3 ["thing","many"] (fi K 2 c6 .S):=by
 obtain⟨ed,zaq⟩:=T.zaq;refine Df.fnD (N:=["thing","many"]) (ps:=["thing","many"]) (st:=dO) (k:=2) tL .S iF d7 qG qH rfl (by decide) ?_;intro f bx A outer s0 H E hr;have hu:=hr.units;have og:=cN hr;exact (ah (dz (DW.dt (rn (l4 (j7 (nU (T:="tuple") (by decide) (ai 0) T.zbq T.zdq cD))) (oM (l4 (BO GJ B6 GJ B6 aq (bB iY kW (by rfl) T.znq oB (aa (ai 0) ag)) (oI (i:=24) rfl zaq)))))) (ao (aY iR)) bw)
 (ao (aY (bB (rg rfl) yw (by rfl) T.zkq BE (aa (i9 (aj dO) ["thing","many"] ["part","many"] [none,some 1] rfl (eZ (ai 0)) (λY=>⟨(aI (i:=0) (show (["part","many"]:List Str).Nodup by decide+kernel)),cf,(au iQ (rm hr) (aa (ai 0) (aa (ai 1) ag)))⟩)) ag)))))
theorem xJ (T:Txt mg)  (ib:Df K mg "counted" gY):Fn P w K mg base "counted" 1 ["shuffle"] (fi K 1 bD .O):=by
 refine Df.fnD (N:=["shuffle","often","order"]) (ps:=["shuffle"]) (st:=gY) (k:=0) Av .O mq ib kn xG rfl (by decide) ?_;intro f bx A outer s0 H E hr;have hu:=hr.units;have og:=cN hr;exact (ah (dX (i:=1) kn.nd gR)
 (ah (dg S_ rfl (eZ (ai 0)) (aI (i:=2) kn.nd)
 (ao (jz (j:=1) hu (aU bP bQ (k7 (j:=1) hu (ai 2) aq) aq) (ai 2))))
 (ao (sR (i:=1) (hi:=by decide)))))
theorem Ax (T:Txt mg)(eJ:Fn P w K mg base "cards_at" 1 ["row","places"] (fi K 2 cz .S))(bc:Fn P w K mg base "counted" 1 ["shuffle"] (fi K 1 bD .O))(jv:Df K mg "spread" jD):Fn P w K mg base "spread" 2 ["weights","shuffle"] (fi K 2 jk .O):=by
 refine Df.fnD (N:=["weights","shuffle","gathered","order","often","row","weight","changed"]) (ps:=["weights","shuffle"]) (st:=jD) (k:=1) Dl .O pV jv eF Aw rfl (by decide) ?_;intro f bx A outer s0 H E hr;have hu:=hr.units;have og:=cN hr;exact (ah (dX (i:=2) eF.nd gR)
 (ah (dg S_ rfl (fK (au bc (rm hr) (aa (ai 1) ag))) (ir rfl (ba (aI (i:=3) eF.nd) (ba (aI (i:=4) eF.nd) eL)))
 (ao (dg S_ rfl (fK (ai 0)) (ir rfl (ba (aI (i:=5) eF.nd) (ba (aI (i:=6) eF.nd) eL)))
 (ah (aW (i:=7) eF.nd (au eJ (rm hr) (aa (ai 5) (aa (ai 3) ag))))
 (ao (jz (j:=2) hu (aU bP bQ (k7 (j:=2) hu (ai 7) aq) (aU ei cY (ai 6) (ai 4))) (ai 7)))))))
 (ao (sR (i:=2) (hi:=by decide)))))
theorem vL (T:Txt mg)(ud:Fn P w K mg base "ratio" 2 ["top","bottom"] (fi K 2 jB .S))(ff:Fn P w K mg base "common_bottom" 2 ["some"] (fi K 1 bT .S))(qv:Fn P w K mg base "spread" 2 ["weights","shuffle"] (fi K 2 jk .O))(fX:Df K mg "shuffled" dR):Fn P w K mg base "shuffled" 3 ["mix","shuffle"] (fi K 2 aZ .O):=by
 refine Df.fnD (N:=["mix","shuffle","bottom","weights","row","chance","gathered"]) (ps:=["mix","shuffle"]) (st:=dR) (k:=2) xD .O kl fX dS vE rfl (by decide) ?_;intro f bx A outer s0 H E hr;have hu:=hr.units;have og:=cN hr;exact (ah (aW (i:=2) dS.nd (au ff (rm hr) (aa (i9 (aj dR) ["mix","shuffle","bottom","weights","row","chance","gathered"] ["row","chance"] [none,none] rfl (eZ (ai 0)) (λY=>⟨(ir rfl (ba (aI (i:=0) (show (["row","chance"]:List Str).Nodup by decide+kernel)) (ba (aI (i:=1) (show (["row","chance"]:List Str).Nodup by decide+kernel)) eL))),cf,(ai 1)⟩)) ag)))
 (ah (dX (i:=3) dS.nd gR)
 (ah (dg S_ rfl (eZ (ai 0)) (ir rfl (ba (aI (i:=4) dS.nd) (ba (aI (i:=5) dS.nd) eL)))
 (ao (jz (j:=3) hu (aU ei cY (fH dF dJ (ai 5) aq (λ_ _=>rfl)) (aU dP eS (ai 2) (fH dF dJ (ai 5) aq (λ_ _=>rfl)))) (ai 4))))
 (tq 3 (ah (aW (i:=6) dS.nd (au qv (rm hr) (aa (ai 3) (aa (ai 1) ag))))
 (ao (sQ (i9 (aj dR) ["mix","shuffle","bottom","weights","row","chance","gathered"] ["row","gathered","bottom","shuffle"] [none,some 6,some 2,some 1] rfl (eZ (m1:=.O) (bB (gW rfl hu) ji (by rfl) T.zcq gP (aa (ai 6) ag))) (λY=>⟨(aI (i:=0) (show (["row","gathered","bottom","shuffle"]:List Str).Nodup by decide+kernel)),cf,(dH (aa (ai 0) (aa (au ud (rm hr) (aa (xf hu (ai 1) (ai 0)) (aa (aU ei cY (ai 2) (bB iY kW (by rfl) T.znq oB (aa (ai 3) ag))) ag))) ag)))⟩)))))))))
theorem vM (T:Txt mg)(aT:Fn P w K mg base "greatest_divisor" 1 ["one","other"] (fi K 2 aN .S))(fY:Df K mg "lessened" fz):Fn P w K mg base "lessened" 2 ["often"] (fi K 1 bY .O):=by
 refine Df.fnD (N:=["often","divisor","number","least","order"]) (ps:=["often"]) (st:=fz) (k:=1) xE .O km fY cQ vF rfl (by decide) ?_;intro f bx A outer s0 H E hr;have hu:=hr.units;have og:=cN hr;exact (ah (aW (i:=1) cQ.nd aq)
 (ah (dg S_ rfl (FK (ai 0)) (aI (i:=2) cQ.nd)
 (ao (aW (i:=1) cQ.nd (au aT (rm hr) (aa (ai 1) (aa (ai 2) ag))))))
 (ah (dX (i:=3) cQ.nd gR)
 (ah (dg S_ rfl (fK (ai 0)) (ir rfl (ba (aI (i:=4) cQ.nd) (ba (aI (i:=2) cQ.nd) eL)))
 (ao (jz (j:=3) hu (aU dP eS (ai 2) (ai 1)) (ai 4))))
 (ao (sR (i:=3) (hi:=by decide)))))))
theorem F5 (T:Txt mg)(bc:Fn P w K mg base "counted" 1 ["shuffle"] (fi K 1 bD .O))(bG:Fn P w K mg base "lessened" 2 ["often"] (fi K 1 bY .O))(qw:Df K mg "same" rQ):Fn P w K mg base "same" 3 ["one","other"] (fi K 2 iG .S):=by
 refine Df.fnD (N:=["one","other"]) (ps:=["one","other"]) (st:=rQ) (k:=2) J6 .S xF qw F0 F2 rfl (by decide) ?_;intro f bx A outer s0 H E hr;have hu:=hr.units;have og:=cN hr;exact (ao (aY (oJ (FV hu) Dk (au bG (rm hr) (aa (au bc (rm hr) (aa (ai 0) ag)) ag)) (au bG (rm hr) (aa (au bc (rm hr) (aa (ai 1) ag)) ag)) (bA _))))
theorem F6 (T:Txt mg)(ju:Fn P w K mg base "then" 2 ["one","other"] (fi K 2 kj .S))(bc:Fn P w K mg base "counted" 1 ["shuffle"] (fi K 1 bD .O))(bG:Fn P w K mg base "lessened" 2 ["often"] (fi K 1 bY .O))(mF:Df K mg "both" lz):Fn P w K mg base "both" 3 ["one","other"] (fi K 2 cA .S):=by
 obtain⟨ed,zaq⟩:=T.zaq;refine Df.fnD (N:=["one","other","often","first","number","second","more","order","least","orders"]) (ps:=["one","other"]) (st:=lz) (k:=2) Dm .S pW mF bE ze rfl (by decide) ?_;intro f bx A outer s0 H E hr;have hu:=hr.units;have og:=cN hr;exact (ah (dX (i:=2) bE.nd gR)
 (ah (dg S_ rfl (fK (au bc (rm hr) (aa (ai 0) ag))) (ir rfl (ba (aI (i:=3) bE.nd) (ba (aI (i:=4) bE.nd) eL)))
 (ao (dg S_ rfl (fK (au bc (rm hr) (aa (ai 1) ag))) (ir rfl (ba (aI (i:=5) bE.nd) (ba (aI (i:=6) bE.nd) eL)))
 (ah (aW (i:=7) bE.nd (au ju (rm hr) (aa (ai 3) (aa (ai 5) ag))))
 (ao (jz (j:=2) hu (aU bP bQ (k7 (j:=2) hu (ai 7) aq) (aU ei cY (ai 4) (ai 6))) (ai 7)))))))
 (tq 2 (ah (aW (i:=8) bE.nd (au bG (rm hr) (aa (ai 2) ag)))
 (ah (dz (bX GK B7 (y9 rfl (ai 8) T.ziq) (oI (i:=24) rfl zaq) (bA _)) (ao (JQ λ_=>⟨_,_,rfl⟩)) bw)
 (ah (dX (i:=9) bE.nd (er ag))
 (ah (dg S_ rfl (eZ (m1:=.O) (bB (gW rfl hu) ji (by rfl) T.zcq gP (aa (ai 8) ag))) (aI (i:=7) bE.nd)
 (ao (sP (sO (i:=9) UQ Vx Vy sZ j9 (aa (aU y7 vq (er (aa (ai 7) ag)) (xf hu (ai 8) (ai 7))) ag)))))
 (ao (aY (cI bu cZ (by rfl) T.zdq cD (aa (gA 9) ag)))))))))))
theorem nH (T:Txt mg)  (cT:Df K mg "_law_cell_at" eD):Fn P w K mg base "_law_cell_at" 1 ["script","k"] (fi K 2 cg .S):=by
 refine Df.fnD (N:=["script","k"]) (ps:=["script","k"]) (st:=eD) (k:=0) pX .S dY cT nE nF rfl (by decide) ?_;intro f bx A outer s0 H E hr;have hu:=hr.units;have og:=cN hr;exact (ah (dz (bX Be w_ (ai 1) (bB iY kW (by rfl) T.znq oB (aa (ai 0) ag)) (bA _)) (ao (aY (fH dF dJ (ai 0) (ai 1) (λ_ _=>rfl)))) bw)
 (ao (aY aq)))
theorem qM (T:Txt mg)(fZ:Fn P w K mg base "_law_cell_at" 1 ["script","k"] (fi K 2 cg .S))(d8:Df K mg "_law_state" fA):Fn P w K mg base "_law_state" 2 ["script","k"] (fi K 2 c7 .O):=by
 refine Df.fnD (N:=["script","k","cell"]) (ps:=["script","k"]) (st:=fA) (k:=1) tP .O fu d8 jU qI rfl (by decide) ?_;intro f bx A outer s0 H E hr;have hu:=hr.units;have og:=cN hr;exact (ah (aW (i:=2) jU.nd (au fZ (rm hr) (aa (ai 0) (aa (ai 1) ag))))
 (ah (dz (bX Ll JI (ai 2) (aU Bc yq aq aq) (bA _)) (ao (sQ (er (aa (aU Bb yp (ai 2) (aU Bc yq aq aq)) (aa iR ag))))) bw)
 (ao (sQ (er (aa (aU j0 iw (ai 2) aq) (aa iR ag)))))))
theorem tU (T:Txt mg)  (eY:Df K mg "_law_take" gZ):Fn P w K mg base "_law_take" 1 ["state","many"] (BP K 2 aE):=by
 refine Df.fnI (N:=["state","many","found","mixed"]) (ps:=["state","many"]) (st:=gZ) (k:=0) vt gr eY fw tS rfl rfl (by decide) ?_;intro f bx A outer s0 H E hr;have hu:=hr.units;have og:=cN hr;exact (ah (dz (j7 (fH dF dJ (gA 0) aq (λ_ _=>rfl))) (ah (aW (i:=2) fw.nd (aU j0 iw (fH dF dJ (gA 0) aq (λ_ _=>rfl)) (ai 1)))
 (ah (yn (i:=0) (aU dP eS (fH dF dJ (gA 0) aq (λ_ _=>rfl)) (ai 1)) aq)
 (ao (aY (ai 2))))) bw)
 (ah (yn (i:=0) (aU j0 iw (aU bP bQ (aU ei cY (fH dF dJ (gA 0) aq (λ_ _=>rfl)) aq) aq) aq) aq)
 (ah (aW (i:=3) fw.nd (aU j0 iw (aU bP bQ (aU bP bQ (aU ei cY (fH dF dJ (gA 0) aq (λ_ _=>rfl)) (fH dF dJ (gA 0) aq (λ_ _=>rfl))) (aU ei cY aq (fH dF dJ (gA 0) aq (λ_ _=>rfl)))) aq) aq))
 (ah (aW (i:=3) fw.nd (aU j0 iw (aU bP bQ (aU ei cY (ai 3) (ai 3)) (aU ei cY aq (ai 3))) aq))
 (ao (aY (aU j0 iw (aU dP eS (ai 3) aq) (ai 1))))))))
theorem qN (T:Txt mg)(a8:Fn P w K mg base "_law_take" 1 ["state","many"] (BP K 2 aE))(d9:Df K mg "_law_order" eE):Fn P w K mg base "_law_order" 2 ["state","many"] (BP K 2 cB):=by
 refine Df.fnI (N:=["state","many","left"]) (ps:=["state","many"]) (st:=eE) (k:=1) iH iI d9 jV qJ rfl rfl (by decide) ?_;intro f bx A outer s0 H E hr;have hu:=hr.units;have og:=cN hr;exact (ah (dX (i:=2) jV.nd (yz rfl (aa (ai 1) ag) T.zgq T.zeq))
 (ao (aY (cI bu cZ (by rfl) T.zdq cD (aa (oU (aj eE) ["state","many","left"] ["k","left","state"] [none,some 2,some 0] rfl (cW (aa (ai 1) ag) T.zeq) (λY=>⟨(aI (i:=0) (show (["k","left","state"]:List Str).Nodup by decide+kernel)),cf,(sO (i:=1) UQ PySem.F.slot_list_pop PySem.F.type_list_pop Bo Ad (aa (cF (i:=2) a8 (rm hr) (aa (bB iY kW (by rfl) T.znq oB (aa (gA 1) ag)) ag)) ag))⟩)) ag)))))
theorem nI (T:Txt mg)(a8:Fn P w K mg base "_law_take" 1 ["state","many"] (BP K 2 aE))(fy:Fn P w K mg base "_law_order" 2 ["state","many"] (BP K 2 cB))(cU:Df K mg "_law_shuffle" bJ):Fn P w K mg base "_law_shuffle" 3 ["state","many"] (BP K 2 aD):=by
 refine Df.fnI (N:=["state","many","stays","way","order","half","some","size","k","longer"]) (ps:=["state","many"]) (st:=bJ) (k:=2) fM bN cU aV nG rfl rfl (by decide) ?_;intro f bx A outer s0 H E hr;have hu:=hr.units;have og:=cN hr;exact (ah (aW (i:=2) aV.nd (yA rfl (aa (ai 1) ag) T.zdq T.zeq))
 (ah (aW (i:=3) aV.nd (cF (i:=0) a8 (rm hr) (aa aq ag)))
 (ah (dz (bX yb nX (ai 3) aq (bA _)) (ao (aY (cI bu cZ (by rfl) T.zdq cD (aa (i9 (aj bJ) ["state","many","stays","way","order","half","some","size","k","longer"] ["k","stays"] [none,some 2] rfl (cW (aa (ai 1) ag) T.zeq) (λY=>⟨(aI (i:=0) (show (["k","stays"]:List Str).Nodup by decide+kernel)),cf,(aU bP bQ (eQ eT jb (ai 1) (fo (ai 0)) iq) (eQ eT jb (ai 1) iq (fo (ai 0))))⟩)) ag)))) bw)
 (ah (dz (bX yb nX (ai 3) aq (bA _)) (ah (aW (i:=4) aV.nd (cF (i:=0) fy (rm hr) (aa (ai 1) ag)))
 (ao (aY (dH (aa (ai 2) (aa (ai 4) ag)))))) bw)
 (ah (dz (bX yb nX (ai 3) aq (bA _)) (ah (aW (i:=5) aV.nd (aU dP eS (ai 1) aq))
 (ao (aY (dH (aa (ai 2) (aa (aU bP bQ (aU bP bQ (eQ eT jb (ai 2) (fo (ai 5)) (fo (aU ei cY aq (ai 5)))) (eQ eT jb (ai 2) iq (fo (ai 5)))) (eQ eT jb (ai 2) (fo (aU ei cY aq (ai 5))) iq)) ag)))))) bw)
 (ah (dz (bX yb nX (ai 3) aq (bA _)) (ah (aW (i:=6) aV.nd (er (aa (dH ag) ag)))
 (ah (aW (i:=7) aV.nd (bB (qS rfl) uN (by rfl) T.zhq BC (aa (ai 1) (aa (aU bP bQ aq (cF (i:=0) a8 (rm hr) (aa aq ag))) ag))))
 (ah (dg S_ rfl (cW (aa (ai 7) ag) T.zeq) (aI (i:=8) aV.nd)
 (ah (dX (i:=9) aV.nd (er ag))
 (ah (dg S_ rfl (eZ (ai 6)) (aI (i:=4) aV.nd)
 (ao (sP (sO (i:=9) UQ Vx Vy sZ j9 (aa (i9 (aj bJ) ["state","many","stays","way","order","half","some","size","k","longer"] ["j","order","k"] [none,some 4,some 8] rfl (cW (aa (aU bP bQ (ai 8) aq) ag) T.zeq) (λY=>⟨(aI (i:=0) (show (["j","order","k"]:List Str).Nodup by decide+kernel)),cf,(aU bP bQ (aU bP bQ (eQ eT jb (ai 1) iq (fo (ai 0))) (dH (aa (ai 2) ag))) (eQ eT jb (ai 1) (fo (ai 0)) iq))⟩)) ag)))))
 (ao (Fg (i:=6) (j:=9) aV.nd)))))
 (ao (aY (cI bu cZ (by rfl) T.zdq cD (aa (i9 (aj bJ) ["state","many","stays","way","order","half","some","size","k","longer"] ["order","stays","size"] [none,some 2,some 7] rfl (eZ (ai 6)) (λY=>⟨(aI (i:=0) (show (["order","stays","size"]:List Str).Nodup by decide+kernel)),cf,(aU bP bQ (ai 0) (eQ eT jb (ai 1) (fo (ai 2)) iq))⟩)) ag))))))) bw)
 (ao (aY (cI bu cZ (by rfl) T.zdq cD (aa (oU (aj bJ) ["state","many","stays","way","order","half","some","size","k","longer"] ["k","state","many"] [none,some 0,some 1] rfl (cW (aa (aU bP bQ aq (cF (i:=0) a8 (rm hr) (aa aq ag))) ag) T.zeq) (λY=>⟨(aI (i:=0) (show (["k","state","many"]:List Str).Nodup by decide+kernel)),cf,(cF (i:=1) fy (rm hr) (aa (ai 2) ag))⟩)) ag))))))))))
theorem vN (T:Txt mg)(a8:Fn P w K mg base "_law_take" 1 ["state","many"] (BP K 2 aE))(f6:Df K mg "_law_row" gu):Fn P w K mg base "_law_row" 2 ["state","many"] (BP K 2 dN):=by
 refine Df.fnI (N:=["state","many","way"]) (ps:=["state","many"]) (st:=gu) (k:=1) eC iJ f6 ng vG rfl rfl (by decide) ?_;intro f bx A outer s0 H E hr;have hu:=hr.units;have og:=cN hr;exact (ah (aW (i:=2) ng.nd (cF (i:=0) a8 (rm hr) (aa aq ag)))
 (ah (dz (bX Be w_ (ai 2) aq (bA _)) (ao (aY (cI bu cZ (by rfl) T.zdq cD (aa (oU (aj gu) ["state","many","way"] ["k","state"] [none,some 0] rfl (cW (aa (ai 1) ag) T.zeq) (λY=>⟨(aI (i:=0) (show (["k","state"]:List Str).Nodup by decide+kernel)),cf,(cF (i:=1) a8 (rm hr) (aa aq ag))⟩)) ag)))) bw)
 (ao (aY (cI bu cZ (by rfl) T.zdq cD (aa (oU (aj gu) ["state","many","way"] ["k","state","way"] [none,some 0,some 2] rfl (cW (aa (ai 1) ag) T.zeq) (λY=>⟨(aI (i:=0) (show (["k","state","way"]:List Str).Nodup by decide+kernel)),cf,(cF (i:=1) a8 (rm hr) (aa (fH dF dJ (er (aa aq (aa aq ag))) (aU Bb yp (ai 2) aq) (λ_ _=>rfl)) ag))⟩)) ag))))))
theorem qO (T:Txt mg)(cV:Fn P w K mg base "_law_both" 4 ["one","other"] (fi K 2 az .S))(d_:Df K mg "_law_three" fB):Fn P w K mg base "_law_three" 5 ["one","other","third"] (fi K 3 c8 .S):=by
 refine Df.fnD (N:=["one","other","third","left","right"]) (ps:=["one","other","third"]) (st:=fB) (k:=4) tQ .S iK d_ gH qK rfl (by decide) ?_;intro f bx A outer s0 H E hr;have hu:=hr.units;have og:=cN hr;exact (ah (aW (i:=3) gH.nd (au cV (rm hr) (aa (au cV (rm hr) (aa (ai 0) (aa (ai 1) ag))) (aa (ai 2) ag))))
 (ah (aW (i:=4) gH.nd (au cV (rm hr) (aa (ai 0) (aa (au cV (rm hr) (aa (ai 1) (aa (ai 2) ag))) ag))))
 (ao (aY (GV (ha:=(oJ lT jy (ai 3) gD (bA _))) (hb:=(GV (ha:=(oJ lT jy (ai 4) gD (bA _))) (hb:=(wU (oJ (BA hu) (oW (f:=id)) (ai 3) (ai 4) (bA _)))))))))))
theorem J8 (T:Txt mg){cX:Sr}(XT:NW K mg cX)(FL:En K "law" "law" tR f fd)(bO:Df K mg "greatest_divisor" bM)(lP:Df K mg "ratio" mw)(cH:Df K mg "common_bottom" cJ)(fU:Df K mg "is_whole" gX)(fV:Df K mg "is_order" fN)(fW:Df K mg "cards_at" fO)(qu:Df K mg "then" rP)(d7:Df K mg "is_shuffle" dO)(ib:Df K mg "counted" gY)(jv:Df K mg "spread" jD)(fX:Df K mg "shuffled" dR)(fY:Df K mg "lessened" fz)(qw:Df K mg "same" rQ)(mF:Df K mg "both" lz)(cT:Df K mg "_law_cell_at" eD)(d8:Df K mg "_law_state" fA)(eY:Df K mg "_law_take" gZ)(d9:Df K mg "_law_order" eE)(cU:Df K mg "_law_shuffle" bJ)(f6:Df K mg "_law_row" gu)(jw:Df K mg "_law_both" g7)(d_:Df K mg "_law_three" fB)(hp:∀ns:List Int,ns.length<=63->vx [.scr (ns.map .int)]=.ok (.bl true)):il P w K mg base uu 6 f fd ["script"] (uJ K):=by
 have aT:=jO (P:=P) (w:=w) (base:=base) T  bO;have ud:=Ds (P:=P) (w:=w) (base:=base) T aT lP;have ff:=mz (P:=P) (w:=w) (base:=base) T aT cH;have ky:=vI (P:=P) (w:=w) (base:=base) T  fU;have iQ:=vJ (P:=P) (w:=w) (base:=base) T ky fV;have eJ:=vK (P:=P) (w:=w) (base:=base) T  fW;have ju:=F4 (P:=P) (w:=w) (base:=base) T eJ qu;have ue:=qL (P:=P) (w:=w) (base:=base) T iQ d7;have bc:=xJ (P:=P) (w:=w) (base:=base) T  ib;have qv:=Ax (P:=P) (w:=w) (base:=base) T eJ bc jv;have f7:=vL (P:=P) (w:=w) (base:=base) T ud ff qv fX;have bG:=vM (P:=P) (w:=w) (base:=base) T aT fY;have xV:=F5 (P:=P) (w:=w) (base:=base) T bc bG qw;have qt:=F6 (P:=P) (w:=w) (base:=base) T ju bc bG mF;have fZ:=nH (P:=P) (w:=w) (base:=base) T  cT;have uf:=qM (P:=P) (w:=w) (base:=base) T fZ d8;have a8:=tU (P:=P) (w:=w) (base:=base) T  eY;have fy:=qN (P:=P) (w:=w) (base:=base) T a8 d9;have qx:=nI (P:=P) (w:=w) (base:=base) T a8 fy cU;have xW:=vN (P:=P) (w:=w) (base:=base) T a8 f6;have cV:=Dr (P:=P) (w:=w) (base:=base) T XT ju bc bG qt mF jw;have ug:=qO (P:=P) (w:=w) (base:=base) T cV d_;refine JG (f:=vx) ?_ hp;refine En.okD (N:=["script","k","state","many","one","other","third","row","found","stays"]) (ps:=["script"]) (st:=tR) (k:=5) vv .S Dn FL gI rfl (by decide) ?_;intro f bx A outer s0 H E hr;have hu:=hr.units;have og:=cN hr;exact (ah (dg S_ rfl (cW (aa (bB (zO rfl) B4 (by rfl) T.zjq Jm (aa aq (aa (bB (qS rfl) uN (by rfl) T.zhq BC (aa (bB iY kW (by rfl) T.znq oB (aa (ai 0) ag)) (aa aq ag))) ag))) ag) T.zeq) (aI (i:=1) gI.nd)
 (ah (dX (i:=2) gI.nd (au uf (rm hr) (aa (ai 0) (aa (ai 1) ag))))
 (ah (aW (i:=3) gI.nd (aU bP bQ aq (cF (i:=2) a8 (rm hr) (aa aq ag))))
 (ah (Jz (oU (aj tR) ["script","k","state","many","one","other","third","row","found","stays"] ["turn","state","many"] [none,some 2,some 3] rfl (cW (aa aq ag) T.zeq) (λY=>⟨(aI (i:=0) (show (["turn","state","many"]:List Str).Nodup by decide+kernel)),cf,(cF (i:=1) qx (rm hr) (aa (ai 2) ag))⟩)) (Jx rfl (ba (aI (i:=4) gI.nd) (ba (aI (i:=5) gI.nd) (ba (aI (i:=6) gI.nd) eL)))))
 (ah (aW (i:=7) gI.nd (cF (i:=2) xW (rm hr) (aa (ai 3) ag)))
 (ah (aW (i:=8) gI.nd (au cV (rm hr) (aa (ai 4) (aa (ai 5) ag))))
 (ah (dz (bX EI B2 (ai 8) gD (bA _)) (ah (dz (DW.dt (rn (bX oX oY (au ue (rm hr) (aa (ai 8) (aa (ai 3) ag))) iR (bA _)) (oM (bX (wM hu) (oW (f:=not)) (bB (gW rfl hu) ji (by rfl) T.zcq gP (aa (ai 8) ag)) (cI sC B3 (by rfl) T.zgq yg (aa (ai 8) ag)) (bA _))))) (ao (aY iR)) bw)
 (ao (dz (bX (wM hu) (oW (f:=not)) (au f7 (rm hr) (aa (au f7 (rm hr) (aa (er (aa (dH (aa (ai 7) (aa (dH (aa aq (aa aq ag))) ag))) ag)) (aa (ai 4) ag))) (aa (ai 5) ag))) (au f7 (rm hr) (aa (er (aa (dH (aa (ai 7) (aa (dH (aa aq (aa aq ag))) ag))) ag)) (aa (ai 8) ag))) (bA _)) (ao (aY iR)) bw))) bw)
 (ah (dz (l4 (j7 (au ug (rm hr) (aa (ai 4) (aa (ai 5) (aa (ai 6) ag)))))) (ao (aY iR)) bw)
 (ah (aW (i:=9) gI.nd (dH (aa (yA rfl (aa (ai 3) ag) T.zdq T.zeq) ag)))
 (ah (dz (DW.dt (rn (bX oX oY (au iQ (rm hr) (aa (fH dF dJ (ai 9) aq (λ_ _=>rfl)) (aa (ai 3) ag))) iR (bA _)) (rn (l4 (j7 (au xV (rm hr) (aa (au qt (rm hr) (aa (ai 4) (aa (ai 9) ag))) (aa (ai 4) ag))))) (oM (l4 (j7 (au xV (rm hr) (aa (au qt (rm hr) (aa (ai 9) (aa (ai 4) ag))) (aa (ai 4) ag))))))))) (ao (aY iR)) bw)
 (ao (dz (DW.dt (Js (j7 (au xV (rm hr) (aa (ai 4) (aa (ai 5) ag)))) (Fc (bX (wM hu) (oW (f:=not)) (au f7 (rm hr) (aa (er (aa (dH (aa (ai 7) (aa (dH (aa aq (aa aq ag))) ag))) ag)) (aa (ai 4) ag))) (au f7 (rm hr) (aa (er (aa (dH (aa (ai 7) (aa (dH (aa aq (aa aq ag))) ag))) ag)) (aa (ai 5) ag))) (bA _))))) (ao (aY iR)) bw))))))))))))
 (ao (aY iR)))
end
inductive nJ (K:R1)(x:Str)(st:Wv):Prop
 |mk {f:Sr} {od an:Option Sr} {sl:Array (Option R6)} {oc kV dc pm cd ct:R6}:Tw K SS x=some (some (.ref f))->K.lookup f=some ⟨oc,od,.func (TU x x (dD st) (bC st) (aj st) .none kV dc pm an cd ct),sl⟩->Xb K cd x=true->T9 K (.ref f)=true->nJ K x st
theorem de (q:nJ K x st)(X:K.In h)(G:h.Ns SS mg):Df K mg x st:=by
 obtain⟨a,l,c,k⟩:=q;exact⟨_,_,PySem.W.mg_of X G a,Bq (st:=st) l c k⟩
theorem all_mk {w:Tq}{fa:Sr}(X:K.In h)(G:h.Ns SS mg)(Rk:mg "law"=some (.ref fa))(q0:nJ K "greatest_divisor" bM)(q1:nJ K "ratio" mw)(q2:nJ K "common_bottom" cJ)(q3:nJ K "is_whole" gX)(q4:nJ K "is_order" fN)(q5:nJ K "cards_at" fO)(q6:nJ K "then" rP)(q7:nJ K "is_shuffle" dO)(q8:nJ K "counted" gY)(q9:nJ K "spread" jD)(Rl:nJ K "shuffled" dR)(Rm:nJ K "lessened" fz)(Rn:nJ K "same" rQ)(Ro:nJ K "both" lz)(Rq:nJ K "_law_cell_at" eD)(Rr:nJ K "_law_state" fA)(Rt:nJ K "_law_take" gZ)(Ru:nJ K "_law_order" eE)(Rv:nJ K "_law_shuffle" bJ)(Rx:nJ K "_law_row" gu)(Ry:nJ K "_law_both" g7)(Rz:nJ K "_law_three" fB)(RA:nJ K "law" tR)(zmq:Tw K SS "abs"=some none)(zkq:Tw K SS "all"=some none)(zfq:Tw K SS "bool"=some none)(zlq:Tw K SS "int"=some none)(zbq:Tw K SS "isinstance"=some none)(znq:Tw K SS "len"=some none)(zgq:Tw K SS "list"=some none)(zjq:Tw K SS "max"=some none)(zhq:Tw K SS "min"=some none)(zeq:Tw K SS "range"=some none)(zcq:Tw K SS "sorted"=some none)(ziq:Tw K SS "sum"=some none)(zdq:Tw K SS "tuple"=some none){ed:Tok}(zaq:Tw K SS "MOST_ORDERS"=some (some (.int 24 ed))){ic:Sr}(mG:Tw K SS "TooMany"=some (some (.ref ic)))(Ek:PySem.W.excIn K ic uX "ValueError.__new__"=true)(El:PySem.W.exmOne K (.ref ic) (.ref ic)=some true)(hp:∀ns:List Int,ns.length<=63->vx [.scr (ns.map .int)]=.ok (.bl true))
  : ∃fd:Vk,(∀(s:Sk) (v:R6),BindsTo s fd ⟨[v],[]⟩ [("script",v)])/\∀base:UU,K.In base->base.Ns SS mg->il PySem.Challenge.pw_hushcards_k16_whole_shuffles_one_behind w K mg base uu 6 fa fd ["script"] (uJ K):=by
 obtain @⟨f_,od_,an22,sl_,oc_,kV22,dc22,pm22,cd22,ct22,a22,l22,c22,k22⟩:=RA;have e:=Rk.symm.trans (PySem.W.mg_of X G a22);cases e;have T:Txt mg:=⟨S1 X G zmq,S1 X G zkq,S1 X G zfq,S1 X G zlq,S1 X G zbq,S1 X G znq,S1 X G zgq,S1 X G zjq,S1 X G zhq,S1 X G zeq,S1 X G zcq,S1 X G ziq,S1 X G zdq,⟨_,PySem.W.mg_of X G zaq⟩⟩;have bO:=de q0 X G;have lP:=de q1 X G;have cH:=de q2 X G;have fU:=de q3 X G;have fV:=de q4 X G;have fW:=de q5 X G;have qu:=de q6 X G;have d7:=de q7 X G;have ib:=de q8 X G;have jv:=de q9 X G;have fX:=de Rl X G;have fY:=de Rm X G;have qw:=de Rn X G;have mF:=de Ro X G;have cT:=de Rq X G;have d8:=de Rr X G;have eY:=de Rt X G;have d9:=de Ru X G;have cU:=de Rv X G;have f6:=de Rx X G;have jw:=de Ry X G;have d_:=de Rz X G;have FL:=Bq (st:=tR) l22 c22 k22;refine⟨TU "law" "law" (dD tR) (bC tR) (aj tR) .none kV22 dc22 pm22 an22 cd22 ct22,λs v=>.of_eq rfl,λbase _ _=>?_⟩;have XT:NW K mg ic:=⟨PySem.W.mg_of X G mG,Ek,El⟩;exact J8 (P:=PySem.Challenge.pw_hushcards_k16_whole_shuffles_one_behind) (w:=w) (base:=base) T XT FL bO lP cH fU fV fW qu d7 ib jv fX fY qw mF cT d8 eY d9 cU f6 jw d_ hp
end Hc
namespace Hc
open L2
end Hc
namespace Hc
open L2
theorem HZ {f:Bool->Bool}{u w:U}:pU f u w=(J3 u w).bind λb=>.ok (.bl (f b)):=nr rfl
theorem fx {a b:Int}:J3 (.int a) (.int b)=.ok (a==b):=nr rfl
theorem Dt {a b:Bool}:J3 (.bl a) (.bl b)=.ok (a==b):=nr rfl
theorem zg {a b:Str}:J3 (.str a) (.str b)=.ok (a==b):=nr rfl
theorem cR:type_of% @RY.{0,0}/\type_of% @Tb.{0,0}/\type_of% @Sj.{0}/\type_of% @VG.{0}/\type_of% @Wn.{0}/\type_of% @Uv.{0}/\type_of% @Tv.{0}/\type_of% @List.replicate_zero.{0}/\type_of% @List.getElem?_cons_zero.{0}/\type_of% @T2.{0}/\type_of% @List.set_cons_zero.{0}/\type_of% @List.set_cons_succ.{0}/\type_of% @Option.getD_some.{0}/\type_of% @Wm.{0}/\type_of% @if_true.{1}/\type_of% @if_false.{1}/\type_of% @SQ/\type_of% @G9/\type_of% @Up/\type_of% @Bool.not_false/\type_of% @HZ/\type_of% @fx/\type_of% @Dt/\type_of% @zg:=
 ⟨@RY.{0,0},@Tb.{0,0},@Sj.{0},@VG.{0},@Wn.{0},@Uv.{0},@Tv.{0},@List.replicate_zero.{0},@List.getElem?_cons_zero.{0},@T2.{0},@List.set_cons_zero.{0},@List.set_cons_succ.{0},@Option.getD_some.{0},@Wm.{0},@if_true.{1},@if_false.{1},@SQ,@G9,@Up,@Bool.not_false,@HZ,@fx,@Dt,@zg⟩
end Hc
namespace Hc.Cn
open L2 Hc.Ts
noncomputable abbrev Rw:=List Int
noncomputable abbrev Dc:=List (Rw×Int)
noncomputable def aS (d:Dc)(k:Rw):Int:=((d.find? λp=>decide (p.1=k)).map (·.2)).getD 0
noncomputable def gj (d:Dc)(k:Rw)(v:Int):Dc:=if k∈d.map (·.1) then d.map (λp=>if p.1=k then (p.1,v) else p) else d++[(k,v)]
noncomputable def jP (d:Dc)(k:Rw)(w:Int):Dc:=gj d k (aS d k+w)
noncomputable def bR (d:Dc)(f:Rw->Int):Int:=(d.map λp=>p.2*f p.1).sum
def Nd (d:Dc):Prop:=(d.map (·.1)).Nodup
def Ps (d:Dc):Prop:=∀p∈d,1<=p.2
theorem eG (p:Rw×Int)(d:Dc)(k:Rw):aS (p::d) k=if p.1=k then p.2 else aS d k:=by
 unfold aS;rw[TF];by_cases c:p.1=k
 ·rw[hJ c,h9 c];rfl
 ·rw[hV c,hZ c]
theorem dB:∀{d:Dc} {k:Rw},k∉d.map (·.1)->aS d k=0
 | [],_,_=>rfl
 |p::d,k,h=>by
  rw[RY,Ss,not_or] at h;rw[eG,hZ (λe=>h.1 e.symm),dB h.2]
theorem d4:∀{d:Dc} {p:Rw×Int},Nd d->p∈d->aS d p.1=p.2
 |q::d,p,n,h=>by
  unfold Nd at n;rw[RY,T1] at n;rw[eG];rcases Ss.mp h with rfl|h
  ·rw[h9 rfl]
  ·have:q.1≠p.1:=λe=>n.1 (e▸Sy h);rw[hZ this];exact d4 n.2 h
theorem eI {d:Dc}{k:Rw}(h:k∈d.map (·.1)):(k,aS d k)∈d:=by
 induction d with
 |nil=>cases h
 |cons q d ih=>
  rw[eG];by_cases c:q.1=k
  ·rw[h9 c,←c];exact Sd
  ·rw[hZ c];rw[RY,Ss] at h;rcases h with h|h
   ·exact absurd h.symm c
   ·exact Sn _ (ih h)
theorem lA (d:Dc)(k:Rw)(v:Int):(gj d k v).map (·.1)=if k∈d.map (·.1) then d.map (·.1) else d.map (·.1)++[k]:=by
 unfold gj;split
 ·rw[Sg];apply Si;intro p _;show (if p.1=k then (p.1,v) else p).1=p.1;split<;>rfl
 ·rw[Su];rfl
theorem J9 {d:Dc}(k:Rw)(v:Int)(h:Nd d):Nd (gj d k v):=by
 unfold Nd at h ⊢;rw[lA];split
 ·exact h
 ·rename_i c;exact Xo.mpr ⟨h,by simp,λa ha b hb=>by
   rw[Ta] at hb;subst hb;exact λe=>c (e▸ha)⟩
theorem J_ {d:Dc}{k:Rw}{v:Int}(h:Ps d)(hv:1<=v):Ps (gj d k v):=by
 unfold gj;intro p hp;split at hp
 ·obtain⟨q,hq,rfl⟩:=So.mp hp;split
  ·exact hv
  ·exact h q hq
 ·rcases Tz.mp hp with hp|hp
  ·exact h p hp
  ·rw[Ta] at hp;subst hp;exact hv
theorem bV {d:Dc}(h:Ps d)(k:Rw):0<=aS d k:=by
 by_cases c:k∈d.map (·.1)
 ·have:=h _ (eI c);lia
 ·rw[dB c];exact Int.le_refl _
theorem sum_append (a b:List Int):(a++b).sum=a.sum+b.sum:=List.sum_append
theorem vO:∀{d:Dc} {k:Rw} {v:Int} (f:Rw->Int),Nd d->k∈d.map (·.1)->bR (d.map λp=>if p.1=k then (p.1,v) else p) f=bR d f+(v-aS d k)*f k
 |q::d,k,v,f,n,h=>by
  unfold Nd at n;rw[RY,T1] at n;unfold bR;rw[RY,RY,RY,SA,SA,eG];by_cases c:q.1=k
  ·rw[h9 c,h9 c];have e:(d.map λp=>if p.1=k then (p.1,v) else p)=d:=by
    conv=>rhs;rw[←V7 d]
    apply Si;intro p hp;rw[hZ (λz=>n.1 (by rw[c,←z];exact Sy hp))];rfl
   rw[e,c];show v*f k+_=q.2*f k+_+(v-q.2)*f k;rw[Int.sub_mul];lia
  ·rw[hZ c,hZ c];have h':k∈d.map (·.1):=by
    rw[RY,Ss] at h;rcases h with h|h
    ·exact absurd h.symm c
    ·exact h
   have:=vO (v:=v) f n.2 h';unfold bR at this;rw[this];lia
theorem Du {d:Dc}(k:Rw)(w:Int)(f:Rw->Int)(n:Nd d):bR (jP d k w) f=bR d f+w*f k:=by
 unfold jP gj;split
 ·rename_i c;rw[vO f n c];congr 2;lia
 ·rename_i c;unfold bR;rw[Su,sum_append,dB c];simp
noncomputable def aF (d:Dc)(ws:List (Rw×Int)):Dc:=ws.foldl (λd p=>jP d p.1 p.2) d
theorem fD:∀(ws:List (Rw×Int)) {d:Dc},Nd d->Ps d->(∀p∈ws,1<=p.2)->Nd (aF d ws)/\Ps (aF d ws)/\∀f,bR (aF d ws) f=bR d f+(ws.map λp=>p.2*f p.1).sum
 | [],d,n,p,_=>⟨n,p,λf=>by show bR d f=_;simp⟩
 |q::ws,d,n,p,h=>by
  have n1:Nd (jP d q.1 q.2):=J9 _ _ n;have p1:Ps (jP d q.1 q.2):=J_ p (by have:=bV p q.1;have:=h q Sd;lia);obtain⟨a,b,c⟩:=fD ws n1 p1 λx hx=>h x (Sn _ hx);refine⟨a,b,λf=>?_⟩;show bR (aF (jP d q.1 q.2) ws) f=_;rw[c f,Du _ _ _ n,RY,SA];lia
theorem jl {d:Dc}(n:Nd d)(k:Rw):bR d (λx=>if x=k then 1 else 0)=aS d k:=by
 induction d with
 |nil=>rfl
 |cons q d ih=>
  have n':=n;unfold Nd at n';rw[RY,T1] at n';have:=ih n'.2;unfold bR at this ⊢;rw[RY,SA,this,eG];show q.2*(if q.1=k then 1 else 0)+_=_;by_cases c:q.1=k
  ·rw[h9 c,h9 c,dB (c▸n'.1)];lia
  ·rw[hZ c,hZ c];lia
theorem lB:∀{d:Dc},Nd d->d.Nodup
 | [],_=>V8
 |q::d,n=>by
  unfold Nd at n;rw[RY,T1] at n;exact T1.mpr ⟨λh=>n.1 (Sy h),lB n.2⟩
theorem F7 {d e:Dc}(nd:Nd d)(ne:Nd e)(pd:Ps d)(pe:Ps e)(h:∀f,bR d f=bR e f):d.Perm e:=by
 have half:∀{d e:Dc},Nd d->Nd e->Ps d->(∀f,bR d f=bR e f)->∀p∈d,p∈e:=by
  intro d e nd ne pd h p hp;have g1:=d4 nd hp;have g2:=h λx=>if x=p.1 then 1 else 0
  rw[jl nd,jl ne,g1] at g2;by_cases c:p.1∈e.map (·.1)
  ·have:=eI c;rw[←g2] at this;exact this
  ·rw[dB c] at g2;have:=pd p hp;lia
 exact (WV (lB nd) (lB ne)).mpr λp=>⟨half nd ne pd h p,half ne nd pe (λf=>(h f).symm) p⟩
theorem Ay {d e:Dc}(p:d.Perm e)(n:Nd d)(k:Rw):aS d k=aS e k:=by
 have ne:Nd e:=(p.map (λq:Rw×Int=>q.1)).nodup_iff.mp n;by_cases c:k∈d.map (·.1)
 ·have h1:=eI c;exact (d4 ne (p.mem_iff.mp h1)).symm
 ·rw[dB c,dB λz=>c ((p.map (·.1)).mem_iff.mpr z)]
noncomputable def cq (d:Dc):Nat:=(d.map λp=>p.2.toNat).foldl TR 0
theorem Az {d e:Dc}(p:d.Perm e):cq d=cq e:=by
 unfold cq;refine (p.map λp=>p.2.toNat).foldl_eq' (λa _ b _ z=>?_) 0;rw[Nat.gcd_assoc,Nat.gcd_assoc,Nat.gcd_comm a b]
noncomputable def aR (d:Dc):Dc:=d.map λp=>(p.1,p.2 / (cq d:Int))
theorem p8 {d e:Dc}(p:d.Perm e):(aR d).Perm (aR e):=by
 unfold aR;rw[Az p];exact p.map _
noncomputable def jQ (d:Dc):Int:=(d.map (·.2)).sum
theorem lC {a b:List Int}(p:a.Perm b):a.sum=b.sum:=by
 induction p with
 |nil=>rfl
 |cons x _ ih=>rw[SA,SA,ih]
 |swap x y l=>rw[SA,SA,SA,SA];lia
 |trans _ _ i1 i2=>rw[i1,i2]
theorem rR {d e:Dc}(p:d.Perm e):jQ d=jQ e:=lC (p.map (·.2))
noncomputable def jR (d:Dc):List Rw:=(bS (d.map (·.1))).flatMap λk=>SE (aS d k).toNat k
theorem jW {a b:List Rw}(p:a.Perm b):bS a=bS b:=nW (((bh a).trans p).trans (bh b).symm) (gT a) (gT b)
theorem rS {d e:Dc}(p:d.Perm e)(n:Nd d):jR d=jR e:=by
 unfold jR;rw[jW (p.map (·.1))];congr 1;funext k;rw[Ay p n]
theorem F8 {d:Dc}(n:Nd d)(p:∀q∈d,0<=q.2):((jR d).length:Int)=jQ d:=by
 have e1:∀l:List Rw,((l.flatMap λk=>SE (aS d k).toNat k).length:Int)=(l.map λk=>((aS d k).toNat:Int)).sum:=by
  intro l
  induction l with
  |nil=>rfl
  |cons k l ih=>rw[Tn,Se,Ua,RY,SA,←ih];lia
 unfold jR;rw[e1,lC ((bh _).map _),Sg];unfold jQ;congr 1;apply Si;intro q hq;show ((aS d q.1).toNat:Int)=q.2;rw[d4 n hq];have:=p q hq;lia
theorem iL {d:Dc}(n:Nd d):Nd (aR d):=by
 unfold Nd aR at *;rw[Sg];exact n
noncomputable def ar (l:List Rw):Dc:=aF [] (l.map λx=>(x,1))
theorem gJ:Nd []/\Ps []:=⟨V8,λp hp=>by cases hp⟩
theorem bb (l:List Rw):Nd (ar l)/\Ps (ar l)/\∀f,bR (ar l) f=(l.map f).sum:=by
 obtain⟨a,b,c⟩:=fD (l.map λx=>(x,(1:Int))) gJ.1 gJ.2 λp hp=>by
  obtain⟨x,_,rfl⟩:=So.mp hp;exact Int.le_refl _
 refine⟨a,b,λf=>?_⟩;have:=c f;rw[Sg] at this;unfold ar;rw[this];show (0:Int)+_=_;rw[Int.zero_add];congr 1;apply Si;intro x _;show 1*f x=f x;lia
noncomputable def dC (xX:Rw->Rw->Rw)(c e:Dc):List (Rw×Int):=c.flatMap λa=>e.map λb=>(xX a.1 b.1,a.2*b.2)
theorem g8 {α β:Type}(g:α->List β)(h:β->Int):∀l:List α,((l.flatMap g).map h).sum=(l.map λa=>((g a).map h).sum).sum
 | []=>rfl
 |a::l=>by rw[Tn,Su,sum_append,RY,SA,g8 g h l]
theorem iM (k:Int):∀l:List Int,(l.map λx=>k*x).sum=k*l.sum
 | []=>by simp
 |x::l=>by rw[RY,SA,SA,iM k l,Int.mul_add]
theorem AA (xX:Rw->Rw->Rw)(c e:Dc)(f:Rw->Int):((dC xX c e).map λp=>p.2*f p.1).sum=bR c λa=>bR e λb=>f (xX a b):=by
 unfold dC;rw[g8];unfold bR;congr 1;apply Si;intro a _;rw[Sg,←iM,Sg];congr 1;apply Si;intro b _;show a.2*b.2*f (xX a.1 b.1)=a.2*(b.2*f (xX a.1 b.1));exact UR ..
noncomputable def aX (xX:Rw->Rw->Rw)(l m:List Rw):List Rw:=l.flatMap λa=>m.map λb=>xX a b
theorem rV {xX:Rw->Rw->Rw}{c e:Dc}(pc:Ps c)(pe:Ps e):∀p∈dC xX c e,1<=p.2:=by
 intro p hp;obtain⟨a,ha,hp⟩:=UT.mp hp;obtain⟨b,hb,rfl⟩:=So.mp hp;have h1:=pc a ha;have h2:=pe b hb;show 1<=a.2*b.2;have:=Xh h1 h2 (by lia) (by lia);lia
theorem rW (xX:Rw->Rw->Rw)(l m:List Rw):(aF [] (dC xX (ar l) (ar m))).Perm (ar (aX xX l m)):=by
 obtain⟨n1,p1,s1⟩:=bb l;obtain⟨n2,p2,s2⟩:=bb m;obtain⟨n3,p3,s3⟩:=bb (aX xX l m);obtain⟨n4,p4,s4⟩:=fD (dC xX (ar l) (ar m)) gJ.1 gJ.2 (rV p1 p2);refine F7 n4 n3 p4 p3 λf=>?_;rw[s4 f,s3 f,AA,s1];show (0:Int)+_=_;rw[Int.zero_add];unfold aX;rw[g8];congr 1;apply Si;intro a _;rw[s2,Sg];rfl
theorem nZ (l:List Rw):jQ (ar l)=l.length:=by
 obtain⟨n,p,s⟩:=bb l;have:=s λ_=>1;unfold bR at this;unfold jQ;have e:((ar l).map λp=>p.2*1)=(ar l).map (·.2):=by
  apply Si;intro p _;lia
 rw[e] at this;rw[this];clear this e s p n
 induction l with
 |nil=>rfl
 |cons x l ih=>rw[RY,SA,ih,Sj];lia
theorem Ka {l:List Int}(h:∀x∈l,0<=x):∀x∈l,x<=l.sum:=by
 induction l with
 |nil=>intro x hx;cases hx
 |cons y l ih=>
  intro x hx;have hl:0<=l.sum:=by
   clear ih hx
   induction l with
   |nil=>exact Int.le_refl _
   |cons z l ih2=>
    rw[SA];have:=ih2 λw hw=>h w (by rcases Ss.mp hw with e|e;exact e▸Sd;exact Sn _ (Sn _ e));have:=h z (Sn _ Sd);lia
  rw[SA];rcases Ss.mp hx with rfl|hx
  ·lia
  ·have:=ih (λw hw=>h w (Sn _ hw)) x hx;have:=h y Sd;lia
theorem Dv {d:Dc}(p:Ps d):∀q∈d,q.2<=jQ d:=λq hq=>Ka (λx hx=>by
 obtain⟨r,hr,rfl⟩:=So.mp hx;have:=p r hr;lia) q.2 (Sy hq)
theorem ko:∀{d:Dc},Ps d->(d.length:Int)<=jQ d
 | [],_=>Int.le_refl _
 |q::d,p=>by
  have:=ko (d:=d) λr hr=>p r (Sn _ hr);have:=p q Sd;unfold jQ at *;rw[Sj,RY,SA];lia
end Hc.Cn
variable {l L:List Hc.Cn.Rw}{d:Hc.Cn.Dc}
namespace Hc
open L2
open Hc.Cn Hc.Ts
theorem NS:(0:Nat)<=R3/\(1:Nat)<=R3/\(2:Nat)<=R3/\(3:Nat)<=R3/\(4:Nat)<=R3/\(5:Nat)<=R3/\(6:Nat)<=R3/\(10:Nat)<=R3/\(16:Nat)<=R3/\(18:Nat)<=R3/\(22:Nat)<=R3:=by decide
theorem Pzz:type_of% @aH∧type_of% @cR∧type_of% @NS:=⟨@aH,@cR,@NS⟩
theorem d5 {α:Type}{f:U->R (Option U)}{c g:α->U}:∀{xs:List α},(∀x∈xs,f (c x)=.ok (some (g x)))->yk f (xs.map c)=.ok (xs.map g)
 | [],_=>rfl
 |x::xs,h=>by
  rw[RY,RY];unfold yk;rw[h x Sd];show (yk f (xs.map c)).bind _=_;rw[d5 λy hy=>h y (Sn _ hy)];rfl
theorem H9 {ws:List U}:fq (.lst us) [.lst ws]=if us.length+ws.length<=R3 then .ok (.non,.lst (us++ws)) else .stk:=nr rfl
theorem p9 (us:List U)(k:Nat):iy us none (some (k:Int))=us.take k:=by
 unfold iy;rw[HT.sIx_none,HT.sIx_nat,Vh,Nat.sub_zero];rcases Nat.le_total k us.length with h|h
 ·rw[VM h]
 ·rw[Nat.min_eq_right h,Th,VX h]
theorem lD (us:List U)(k:Nat):iy us (some (k:Int)) none=us.drop k:=by
 unfold iy;rw[HT.sIx_none,HT.sIx_nat];rcases Nat.le_total k us.length with h|h
 ·rw[VM h,VX (by rw[TN];lia)]
 ·rw[Nat.min_eq_right h,US,List.drop_of_length_le h,List.take_nil]
def nK (s:U):Prop:=∃v b,s=.lst [.int v,.bl b]/\0<=v/\(b=false->v<2147483647)
theorem gw {s:U}{m:Int}(h:nK s)(h0:0<m)(h1:m<18446744073709551616):∃r s',aE [s,.int m]=.ok (.int r,s')/\0<=r/\r<m/\nK s':=by
 obtain⟨v,b,rfl,hv,hb⟩:=h;cases b with
 |true=>
  refine⟨v % m,.lst [.int (v / m),.bl true],?_,U4 _ (by lia),Uy _ h0,v / m,true,rfl,Int.ediv_nonneg hv (by lia),λh=>nomatch h⟩;simp only[aE,gr,Pzz,b7,Nat.reduceAdd,Nat.reduceSub,hJ h0,nV h0 h1,yW]
 |false=>
  have g1:0<=(v*48271+29) % 2147483647:=U4 _ (by decide);have g2:(v*48271+29) % 2147483647<2147483647:=Uy _ (by decide);have c1:iW v 48271=true:=pb (by decide) (by decide);have d1:decide ((0:Int)<2147483647)=true:=by decide
  have d2:decide ((0:Int)<2147483629)=true:=by decide
  have d3:decide ((0:Int)<2147483587)=true:=by decide
  have e8:sW (((((v*48271+29) % 2147483647)*((v*48271+29) % 2147483647)+39373*((v*48271+29) % 2147483647)+7) % 2147483629*((((v*48271+29) % 2147483647)*((v*48271+29) % 2147483647)+39373*((v*48271+29) % 2147483647)+7) % 2147483629)+16807*((((v*48271+29) % 2147483647)*((v*48271+29) % 2147483647)+39373*((v*48271+29) % 2147483647)+7) % 2147483629)) % 2147483587) 8=true:=nV (by decide) (by decide);have c2:iW ((v*48271+29) % 2147483647) ((v*48271+29) % 2147483647)=true:=o_ g1 (by lia);have c3:iW 39373 ((v*48271+29) % 2147483647)=true:=o_ (by decide) (by decide);generalize hs:(v*48271+29) % 2147483647=s1 at *;have g3:0<=(s1*s1+39373*s1+7) % 2147483629:=U4 _ (by decide);have g4:(s1*s1+39373*s1+7) % 2147483629<2147483629:=Uy _ (by decide);have c4:iW ((s1*s1+39373*s1+7) % 2147483629) ((s1*s1+39373*s1+7) % 2147483629)=true:=o_ g3 (by lia);have c5:iW 16807 ((s1*s1+39373*s1+7) % 2147483629)=true:=o_ (by decide) (by decide);refine⟨((s1*s1+39373*s1+7) % 2147483629*((s1*s1+39373*s1+7) % 2147483629)+16807*((s1*s1+39373*s1+7) % 2147483629)) % 2147483587 / 8 % m,.lst [.int s1,.bl false],?_,U4 _ (by lia),Uy _ h0,s1,false,rfl,g1,λ_=>g2⟩
  ·simp only[aE,gr,Pzz,b7,Nat.reduceAdd,Nat.reduceSub,hJ h0,c1,d1,d2,d3,hs,c2,c3,c4,c5,e8,yW]
theorem Dx {us:List U}{k:Int}(hu:u=.scr (ns.map .int)\/u=.lst (ns.map .int))(h0:0<=k):∃s,c7 [u,.int k]=.ok s/\nK s:=by
 obtain⟨k,rfl⟩:∃n:Nat,k=n:=⟨k.toNat,by lia⟩;have r9:∃c:Int,cg [u,.int k]=.ok (.int c):=by
  by_cases hk:k<ns.length
  ·refine⟨ns[k],?_⟩;have d:decide ((k:Int)<((ns.map U.int).length:Nat))=true:=by rw[RX];exact hJ (by lia)
   have e:kF (ns.map U.int) (k:Int)=some (.int ns[k]):=by rw[u3,R_,R5 hk];rfl
   rcases hu with rfl|rfl<;>simp only[cg,dY,Pzz,b7,Nat.reduceAdd,Nat.reduceSub,d,e]
  ·refine⟨0,?_⟩;have d:decide ((k:Int)<((ns.map U.int).length:Nat))=false:=by rw[RX];exact hV (by lia)
   rcases hu with rfl|rfl<;>simp only[cg,dY,Pzz,b7,Nat.reduceAdd,Nat.reduceSub,d]
 obtain⟨c,hc⟩:=r9;have Qn:Fp 10 18=true:=by decide
 have Qo:(10:Int) ^ (18:Int).toNat=1000000000000000000:=by decide
 have dm:decide ((0:Int)<2147483647)=true:=by decide
 by_cases h:1000000000000000000<=c
 ·refine⟨.lst [.int (c-1000000000000000000),.bl true],?_,_,true,rfl,by lia,λh=>nomatch h⟩;simp only[c7,fu,Pzz,b7,Nat.reduceAdd,Nat.reduceSub,hc,Qn,Qo,hJ h,h9]
 ·refine⟨.lst [.int (c % 2147483647),.bl false],?_,_,false,rfl,U4 _ (by decide),λ_=>Uy _ (by decide)⟩;simp only[c7,fu,Pzz,b7,Nat.reduceAdd,Nat.reduceSub,hc,Qn,Qo,hV h,dm,h9]
theorem p_ {α:Type}:∀(l:List α) (i:Nat) (h:i<l.length),(l[i]::l.eraseIdx i).Perm l
 |x::l,0,_=>T_ _
 |x::l,i+1,h=>by
  have h':i<l.length:=by simpa using h
  show (l[i]::x::l.eraseIdx i).Perm (x::l);exact (List.Perm.swap _ _ _).trans (List.Perm.cons x (p_ l i h'))
theorem lE {α β:Type}(f:α->β):∀(l:List α) (i:Nat),(l.map f).eraseIdx i=(l.eraseIdx i).map f
 | [],_=>rfl
 |_::_,0=>rfl
 |x::l,i+1=>by
  show f x::(l.map f).eraseIdx i=f x::(l.eraseIdx i).map f;rw[lE f l i]
theorem Kb {k:Int}{y:U}(h1:Xl k us.length=some j)(h2:us[j]? = some y)(h3:0<=k)(h4:k<1000000000):l_ (.lst us) [.int k]=.ok (y,.lst (us.eraseIdx j)):=by
 unfold l_;dsimp only;rw[h9 (by lia),h1];dsimp only;rw[h2]
def gx (n:Nat)(os:List Int):Prop:=os.Perm (aB n)
theorem vP {s:U}(h:nK s)(h1:m<=1000):∃(os:List Int) (s':U),cB [s,.int m]=.ok (.tup (os.map .int),s')/\gx m os/\nK s':=by
 obtain⟨ys,⟨left,s'⟩,e,l,os,hr,hp,AQ⟩:=je (G:=iH) (js:=[none,some 2,some 0]) (sg:=bH 0) (ge:=gM "list" 1 l_ (ae (nR 2 2 aE (ae (jM l8 (ae (af 1) ak)) ak)) ak))
  (λx:List Int×U=>[some x.2,some (.int m),some (.lst (x.1.map .int))]) m (λys x=>∃os:List Int,ys=os.map .int/\(os++x.1).Perm (aB m)/\nK x.2)
  (λdone u x hd h00=>by
   obtain⟨os,hr,hp,hs⟩:=h00;obtain⟨left,s⟩:=x;have hl:0<left.length:=by
    have:=hp.length_eq;rw[Se,ez] at this;have h2:done.length=os.length:=by rw[hr,RX]
    dsimp only at this;lia
   have A5:left.length<=m:=by
    have:=hp.length_eq;rw[Se,ez] at this;dsimp only at this;lia
   obtain⟨r,s',b1,b2,b3,b4⟩:=gw (m:=left.length) hs (by lia) (by lia);obtain⟨k,rfl⟩:∃n:Nat,r=n:=⟨r.toNat,by lia⟩;have hk:k<left.length:=by lia
   refine⟨[some u,some (.lst (left.map .int)),some s],.int left[k],[some u,some (.lst ((left.eraseIdx k).map .int)),some s'],(left.eraseIdx k,s'),rfl,?_,rfl,os++[left[k]],by rw[hr,Su];rfl,?_,b4⟩
   ·have hx:Xl (k:Int) (left.map U.int).length=some k:=by
     unfold Xl;rw[RX];simp;lia
    have hy:(left.map U.int)[k]? = some (.int left[k]):=by rw[R_,R5 hk];rfl
    have pp:=Kb hx hy (by lia) (by lia);rw[lE] at pp;simp only[Pzz,b7,Nat.reduceAdd,Nat.reduceSub,RX,b1,pp]
   ·rw[TX];refine List.Perm.trans (List.Perm.append_left os ?_) hp;exact p_ left k hk) (aG 0 m) [] (aB m,s) (by rw[a7];simp) ⟨[],rfl,T_ _,h⟩
 rw[a7] at l;have ln:os.length=m:=by
  have:=congrArg List.length hr;rw[Uv,RX] at this;lia
 have le:left=[]:=by
  have:=hp.length_eq;rw[Se,ez] at this;dsimp only at this;exact Wr (by lia)
 subst le;rw[Tg] at hp;rw[Uv] at hr;dsimp only at e;refine⟨os,s',?_,hp,AQ⟩;rw[hr] at e;simp only[cB,iI,Pzz,b7,Nat.reduceAdd,Nat.reduceSub,iC m (by lia),yT m (by lia),eU] at e ⊢;simp only[Pzz,b7,Nat.reduceAdd,Nat.reduceSub,e]
noncomputable def tO (os:List Int):U:=.tup (os.map .int)
theorem lF (n:Nat):aG 0 n=(SX n).map λi=>U.int (i:Nat):=by
 rw[eU];unfold aB;rw[Sg];rfl
theorem vQ (n:Nat):aB (n+1)=aB n++[(n:Int)]:=by
 unfold aB;rw[List.range_succ,Su];rfl
theorem vR {z:Nat}(h:z<=m):(aB m).take z=aB z:=by
 unfold aB;rw[←List.map_take,List.take_range,VM h]
theorem F9 (us:List U)(a b:Nat)(h:a<=b)(h2:b<=us.length):iy us (some (a:Int)) (some (b:Int))=(us.drop a).take (b-a):=by
 unfold iy;rw[HT.sIx_nat,HT.sIx_nat,VM h2,VM (Sz h h2)]
noncomputable def NY:Nat->Nat
 |0=>1
 |n+1=>NY n*(n+1)
theorem Dy {os:List Int}(h:os.Perm (aB k)):(os.take j++[(k:Int)]++os.drop j).Perm (aB (k+1)):=by
 rw[vQ,TX];refine (Uz).trans ?_;rw[TX];have:(os.drop j++os.take j).Perm (aB k):=(Uz).trans (by rw[Ug];exact h);exact ((List.Perm.append_left [(k:Int)] this)).trans Uz
theorem F_ {a b c d e f g:Option U}{oss:List (List Int)}(hk:k<=8)(hl:oss.length<=1000)(hp:∀os∈oss,os.Perm (aB k))(v4:Option U) :
  ∃(ls:List (List Int)) (v4':Option U),eR (bH 4) (oP (gM "list" 9 fq (ae (kT (fj (ae (a9 cv (af 8) (gC (.int 1))) ak)) [none,some 4,some 8] (bH 0) dA (a9 cv (a9 cv (oN mL (af 1) c_ (cG (af 0))) (cE (ae (af 2) ak))) (oN mL (af 1) (cG (af 0)) c_))) ak))) (oss.map tO)
   [a,b,c,d,v4,e,f,g,some (.int k),some (.lst [])]=.nx [a,b,c,d,v4',e,f,g,some (.int k),some (.lst (ls.map tO))]/\ls.length=oss.length*(k+1)/\∀os∈ls,os.Perm (aB (k+1)):=by
 obtain⟨ρ',e1,ls,v,e2,l2,p2⟩:=bL (us:=oss.map tO) (sg:=bH 4) (s:=oP (gM "list" 9 fq (ae (kT (fj (ae (a9 cv (af 8) (gC (.int 1))) ak)) [none,some 4,some 8] (bH 0) dA (a9 cv (a9 cv (oN mL (af 1) c_ (cG (af 0))) (cE (ae (af 2) ak))) (oN mL (af 1) (cG (af 0)) c_))) ak)))
  (λi ρ=>∃(ls:List (List Int)) (v:Option U),ρ=[a,b,c,d,v,e,f,g,some (.int k),some (.lst (ls.map tO))]/\ls.length=i*(k+1)/\∀os∈ls,os.Perm (aB (k+1)))
  (λi u ρ hu h00=>by
   obtain⟨ls,v,hr,A5,AO⟩:=h00;subst hr;rw[R_] at hu;cases ho:oss[i]? with
   |none=>rw[ho] at hu;cases hu
   |some os=>
    rw[ho] at hu;cases hu;have Et:=hp os (Uo ho);have lo:os.length=k:=by have:=Et.length_eq;rwa [ez] at this
    have hi:i<oss.length:=by
     rcases Wj i oss.length with z|z
     ·exact z
     ·rw[TL.mpr z] at ho;cases ho
    have sz:R3=16777216:=rfl;have e0:yk (wu [none,some 4,some 8] (bH 0) dA (a9 cv (a9 cv (oN mL (af 1) c_ (cG (af 0))) (cE (ae (af 2) ak))) (oN mL (af 1) (cG (af 0)) c_)) [a,b,c,d,some (tO os),e,f,g,some (.int k),some (.lst (ls.map tO))]) ((SX (k+1)).map λi=>U.int (i:Nat))=.ok ((SX (k+1)).map λj=>tO (os.take j++[(k:Int)]++os.drop j)):=
     d5 λj hj=>by
      have q1:((os.map U.int).take j).length+1<=R3:=by rw[SF,RX];lia
      have q2:((os.map U.int).take j++[U.int k]).length+((os.map U.int).drop j).length<=R3:=by rw[Se,SF,TN,RX,Ub];lia
      simp only[Pzz,b7,Nat.reduceAdd,Nat.reduceSub,tO,p9,lD,q1,q2];simp only[Su,List.map_take,List.map_drop,RY,Tb]
    have hm:i*(k+1)<=1000*9:=Wb (by lia) (by lia);have q3:(ls.map tO).length+((SX (k+1)).map λj=>tO (os.take j++[(k:Int)]++os.drop j)).length<=R3:=by
     rw[RX,RX,Ti];lia
    have ek:(k:Int)+1=((k+1:Nat):Int):=rfl;refine⟨[a,b,c,d,some (tO os),e,f,g,some (.int k),some (.lst (ls.map tO))],[a,b,c,d,some (tO os),e,f,g,some (.int k),some (.lst ((ls++(SX (k+1)).map λj=>os.take j++[(k:Int)]++os.drop j).map tO))],rfl,.inl ?_,_,_,rfl,?_,?_⟩
    ·simp only[Pzz,b7,Nat.reduceAdd,Nat.reduceSub,ek,iC (k+1) (by lia),lF,e0,H9,q3];simp only[Su,Sg];rfl
    ·rw[Se,RX,Ti,A5,Nat.add_mul,Nat.one_mul]
    ·intro x hx;rcases Tz.mp hx with z|z
     ·exact AO x z
     ·obtain⟨j,_,rfl⟩:=So.mp z;exact Dy Et) (ρ:=[a,b,c,d,v4,e,f,g,some (.int k),some (.lst [])]) ⟨[],v4,rfl,by simp,λx hx=>by cases hx⟩
 subst e2;rw[RX] at l2;exact⟨ls,v,e1,l2,p2⟩
theorem Dz (l:List Int)(k:Nat):(l.drop k++l.take k).Perm l:=(Uz).trans (by rw[Ug])
theorem AB (l:List Int)(h:Nat):(((l.drop h).take h++l.take h)++l.drop (h+h)).Perm l:=by
 have e:l=l.take h++((l.drop h).take h++l.drop (h+h)):=by
  rw[←List.drop_drop,Ug,Ug]
 have p:((l.drop h).take h++l.take h).Perm (l.take h++(l.drop h).take h):=Uz;refine (List.Perm.append_right _ p).trans ?_;rw[TX,←e]
def jE (m:Nat)(r:R (U×U)):Prop:=∃(oss:List (List Int)) (s':U),r=.ok (.tup (oss.map tO),s')/\(∀os∈oss,gx m os)/\1<=oss.length/\oss.length<=24/\nK s'
theorem Ga {s:U}{w:Int}(h8:m<=8)(e1:aE [s,.int 6]=.ok (.int w,s1))(qr:nK s1)(hw:w=4\/w=5):jE m (aD [s,.int m]):=by
 have sz:R3=16777216:=rfl;obtain⟨t,s2,e2,t0,t1,xQ⟩:=gw (m:=4) qr (by decide) (by decide);obtain⟨n,hn⟩:∃n:Nat,1+t=n:=⟨(1+t).toNat,by lia⟩;obtain⟨ys,s3,e3,ly,oss,hy,ho,hs3⟩:=je (G:=fM) (js:=[none,some 0,some 1]) (sg:=bH 0) (ge:=nR 2 1 cB (ae (af 2) ak))
  (λx:U=>[some x,some (.int m),some (.tup (aG 0 m)),some (.int w),none,none,none,none,none,none]) n (λys x=>∃oss:List (List Int),ys=oss.map tO/\(∀os∈oss,gx m os)/\nK x)
  (λdone u x hd h00=>by
   obtain⟨oss,hr,hp,hs⟩:=h00;obtain⟨os,x',b1,b2,b3⟩:=vP (m:=m) hs (by lia);refine⟨[some u,some x,some (.int m)],tO os,[some u,some x',some (.int m)],x',rfl,?_,rfl,oss++[os],by rw[hr,Su];rfl,?_,b3⟩
   ·simp only[Pzz,b7,Nat.reduceAdd,Nat.reduceSub,b1,tO]
   ·intro y hy;rcases Tz.mp hy with z|z
    ·exact hp y z
    ·rw[Ta.mp z];exact b2) (aG 0 n) [] s2 (by rw[a7];simp) ⟨[],rfl,(λx hx=>by cases hx),xQ⟩
 rw[Uv] at hy;rw[a7] at ly;have lo:oss.length=n:=by
  have:=congrArg List.length hy;rw[RX] at this;lia
 refine⟨oss,s3,?_,ho,by lia,by lia,hs3⟩;rw[hy] at e3;rcases hw with rfl|rfl<;>simp only[aD,bN,Pzz,b7,Nat.reduceAdd,Nat.reduceSub,jA m (by lia),e1,fx,Int.reduceBEq,id,e2,hn,iC n (by lia),e3]
theorem Kc {s:U}(h1:1<=m)(h8:m<=8)(e1:aE [s,.int 6]=.ok (.int 0,s1))(qr:nK s1):jE m (aD [s,.int m]):=by
 have sz:R3=16777216:=rfl;have e0:yk (wu [none,some 2] (bH 0) dA (a9 cv (oN mL (af 1) (cG (af 0)) c_) (oN mL (af 1) c_ (cG (af 0)))) [some s1,some (.int m),some (.tup (aG 0 m)),some (.int 0),none,none,none,none,none,none]) (aG 0 m)
   = .ok ((SX m).map λk=>.tup ((aG 0 m).drop k++(aG 0 m).take k)):=by
  have:=d5 (f:=wu [none,some 2] (bH 0) dA (a9 cv (oN mL (af 1) (cG (af 0)) c_) (oN mL (af 1) c_ (cG (af 0)))) [some s1,some (.int m),some (.tup (aG 0 m)),some (.int 0),none,none,none,none,none,none])
   (c:=λi:Nat=>U.int (i:Nat)) (g:=λk=>.tup ((aG 0 m).drop k++(aG 0 m).take k)) (xs:=SX m) λk hk=>by
    have q:((aG 0 m).drop k).length+((aG 0 m).take k).length<=R3:=by rw[TN,SF,a7];lia
    simp only[Pzz,b7,Nat.reduceAdd,Nat.reduceSub,p9,lD,q]
  rwa [←lF] at this
 refine⟨(SX m).map λk=>(aB m).drop k++(aB m).take k,s1,?_,?_,by rw[RX,Ti];exact h1,by rw[RX,Ti];lia,qr⟩
 ·simp only[aD,bN,Pzz,b7,Nat.reduceAdd,Nat.reduceSub,jA m (by lia),e1,fx,Int.reduceBEq,id,iC m (by lia),e0];rw[Sg];congr 4;funext k;show U.tup _=tO _;unfold tO;rw[eU,Su,List.map_drop,List.map_take]
 ·intro os ho;obtain⟨k,_,rfl⟩:=So.mp ho;exact Dz _ _
theorem Kd {s:U}(h8:m<=8)(e1:aE [s,.int 6]=.ok (.int 1,s1))(qr:nK s1):jE m (aD [s,.int m]):=by
 obtain⟨os,s2,b1,b2,b3⟩:=vP (m:=m) qr (by lia);refine⟨[aB m,os],s2,?_,?_,by simp,by simp,b3⟩
 ·simp only[aD,bN,Pzz,b7,Nat.reduceAdd,Nat.reduceSub,jA m (by lia),e1,fx,Int.reduceBEq,id,b1,tO,eU]
 ·intro x hx;simp only[Ss,List.mem_nil_iff,or_false] at hx;rcases hx with rfl|rfl
  ·exact T_ _
  ·exact b2
theorem Gb {s:U}(h1:1<=m)(h8:m<=8)(e1:aE [s,.int 6]=.ok (.int 2,s1))(qr:nK s1):jE m (aD [s,.int m]):=by
 have sz:R3=16777216:=rfl;have d1:sW (m:Int) 2=true:=nV (by decide) (by decide);have d2:iW 2 ((m / 2:Nat):Int)=true:=o_ (by decide) (by decide);have e2:(m:Int) / 2=((m / 2:Nat):Int):=by lia
 have e3:(2:Int)*((m / 2:Nat):Int)=((m / 2+m / 2:Nat):Int):=by lia
 have c1:iy (aG 0 m) (some ((m / 2:Nat):Int)) (some ((m / 2+m / 2:Nat):Int))=((aG 0 m).drop (m / 2)).take (m / 2):=by
  rw[F9 _ _ _ (by lia) (by rw[a7];lia),Nat.add_sub_cancel]
 have q1:(((aG 0 m).drop (m / 2)).take (m / 2)).length+((aG 0 m).take (m / 2)).length<=R3:=by rw[SF,TN,SF,a7];lia
 have q2:(((aG 0 m).drop (m / 2)).take (m / 2)++(aG 0 m).take (m / 2)).length+((aG 0 m).drop (m / 2+m / 2)).length<=R3:=by rw[Se,SF,TN,SF,TN,a7];lia
 refine⟨[aB m,((aB m).drop (m / 2)).take (m / 2)++(aB m).take (m / 2)++(aB m).drop (m / 2+m / 2)],s1,?_,?_,by simp,by simp,qr⟩
 ·simp only[aD,bN,Pzz,b7,Nat.reduceAdd,Nat.reduceSub,jA m (by lia),e1,fx,Int.reduceBEq,id,d1,e2,d2,e3,c1,p9,lD,q1,q2];simp only[tO,Su,List.map_take,List.map_drop,eU]
 ·intro x hx;simp only[Ss,List.mem_nil_iff,or_false] at hx;rcases hx with rfl|rfl
  ·exact T_ _
  ·exact AB _ _
theorem H_ (h:n<=4):1<=NY n/\NY n<=24:=by
 have:n=0\/n=1\/n=2\/n=3\/n=4:=by lia
 rcases this with rfl|rfl|rfl|rfl|rfl<;>decide
theorem Ke {s:U}(h1:1<=m)(h8:m<=8)(e1:aE [s,.int 6]=.ok (.int 3,s1))(qr:nK s1):jE m (aD [s,.int m]):=by
 have sz:R3=16777216:=rfl;obtain⟨t,s2,e2,t0,t1,xQ⟩:=gw (m:=3) qr (by decide) (by decide);obtain⟨z,hz⟩:∃z:Nat,(if 2+t<(m:Int) then 2+t else (m:Int))=z:=⟨(if 2+t<(m:Int) then 2+t else (m:Int)).toNat,by split<;>lia⟩;have zb:1<=z/\z<=4/\z<=m:=by split at hz<;>lia
 obtain⟨ρ',e3,oss,v4,v8,rfl,l3,p3⟩:=bL (us:=aG 0 z) (sg:=bH 8) (s:=(aA (bg 9 (fh ak))
 (aA (i7 (j8 (af 6)) (bH 4)
 (oP (gM "list" 9 fq (ae (kT (fj (ae (a9 cv (af 8) (gC (.int 1))) ak)) [none,some 4,some 8] (bH 0) dA (a9 cv (a9 cv (oN mL (af 1) c_ (cG (af 0))) (cE (ae (af 2) ak))) (oN mL (af 1) (cG (af 0)) c_))) ak))))
 (uI 6 9))))
  (λi ρ=>∃(oss:List (List Int)) (v4 v8:Option U),ρ=[some s2,some (.int m),some (.tup (aG 0 m)),some (.int 3),v4,none,some (.lst (oss.map tO)),some (.int z),v8,none]/\oss.length=NY i/\∀os∈oss,os.Perm (aB i))
  (λi u ρ hu h00=>by
   obtain⟨oss,v4,v8,hr,hl,hp⟩:=h00;subst hr;have hi:i<z:=by
    rcases Wj i z with y|y
    ·exact y
    ·rw[TL.mpr (by rw[a7];exact y)] at hu;cases hu
   obtain rfl:u=.int i:=by
    rw[lF,R_,WL hi] at hu;cases hu;rfl
   obtain⟨ls,v4',g1,g2,g3⟩:=F_ (a:=some s2) (b:=some (.int m)) (c:=some (.tup (aG 0 m))) (d:=some (.int 3)) (e:=none) (f:=some (.lst (oss.map tO))) (g:=some (.int z)) (k:=i) (oss:=oss) (by lia) (by have:=H_ (n:=i) (by lia);lia) hp v4;refine⟨[some s2,some (.int m),some (.tup (aG 0 m)),some (.int 3),v4,none,some (.lst (oss.map tO)),some (.int z),some (.int i),none],[some s2,some (.int m),some (.tup (aG 0 m)),some (.int 3),v4',none,some (.lst (ls.map tO)),some (.int z),some (.int i),none],rfl,.inl ?_,ls,v4',some (.int i),rfl,by rw[g2,hl];rfl,g3⟩;simp only[Pzz,b7,Nat.reduceAdd,Nat.reduceSub,g1])
  (ρ:=[some s2,some (.int m),some (.tup (aG 0 m)),some (.int 3),none,none,some (.lst [.tup []]),some (.int z),none,none]) ⟨[[]],none,none,rfl,rfl,λx hx=>by rw[Ta.mp hx];exact T_ _⟩
 rw[a7] at l3 p3;have e4:yk (wu [none,some 2,some 7] (bH 0) dA (a9 cv (af 0) (oN mL (af 1) (cG (af 2)) c_)) [some s2,some (.int m),some (.tup (aG 0 m)),some (.int 3),v4,none,some (.lst (oss.map tO)),some (.int z),v8,none]) (oss.map tO)=.ok (oss.map λos=>tO (os++(aB m).drop z)):=
  d5 λos ho=>by
   have lo:os.length=z:=by have:=(p3 os ho).length_eq;rwa [ez] at this
   have q:(os.map U.int).length+((aG 0 m).drop z).length<=R3:=by rw[RX,TN,a7];lia
   simp only[Pzz,b7,Nat.reduceAdd,Nat.reduceSub,tO,lD,q];simp only[Su,List.map_drop,eU]
 have fb:=H_ (n:=z) zb.2.1;refine⟨oss.map λos=>os++(aB m).drop z,s2,?_,?_,by rw[RX];lia,by rw[RX];lia,xQ⟩
 ·simp only[aD,bN,Pzz,b7,Nat.reduceAdd,Nat.reduceSub,jA m (by lia),e1,fx,Int.reduceBEq,id,e2,hz,iC z (by lia),e3,e4];rw[Sg];rfl
 ·intro x hx;obtain⟨os,ho,rfl⟩:=So.mp hx;have:(aB m)=aB z++(aB m).drop z:=by
   rw[←vR zb.2.2,Ug]
  show (os++_).Perm (aB m);refine (List.Perm.append_right _ (p3 os ho)).trans ?_;rw[←this]
theorem xK {s:U}(h:nK s)(h1:1<=m)(h8:m<=8):jE m (aD [s,.int m]):=by
 obtain⟨w,s1,e1,w0,w1,qr⟩:=gw (m:=6) h (by decide) (by decide);have hw:w=0\/w=1\/w=2\/w=3\/w=4\/w=5:=by lia
 rcases hw with rfl|rfl|rfl|rfl|hw
 ·exact Kc h1 h8 e1 qr
 ·exact Kd h8 e1 qr
 ·exact Gb h1 h8 e1 qr
 ·exact Ke h1 h8 e1 qr
 ·exact Ga h8 e1 qr hw
theorem Kg {s:U}(h:nK s)(h1:m<=1000):∃(row:List Int) (s':U),dN [s,.int m]=.ok (.tup (row.map .int),s')/\row.length=m/\(∀c∈row,0<=c/\c<10)/\nK s':=by
 obtain⟨way,s1,e1,w0,w1,Io⟩:=gw (m:=4) h (by decide) (by decide);have key:∀(js:List (Option Nat)) (ge:Ev->R (U×Ev)) (s1:U),nK s1->(∀u s,nK s->∃ρi r ρi' s',bH 0 u (gF js [some s,some (.int m),some (.int way)])=.ok ρi/\ge ρi=.ok (.int r,ρi')/\wb eC js ρi' [some s,some (.int m),some (.int way)]=[some s',some (.int m),some (.int way)]/\0<=r/\r<10/\nK s')->
   ∃(row:List Int) (s':U),l7 eC js (bH 0) dA ge (aG 0 m) [some s1,some (.int m),some (.int way)]=.ok (row.map .int,[some s',some (.int m),some (.int way)])/\row.length=m/\(∀c∈row,0<=c/\c<10)/\nK s':=by
  intro js ge s1 qr NC;obtain⟨ys,s',e,l,row,hr,hc,AQ⟩:=je (G:=eC) (js:=js) (sg:=bH 0) (ge:=ge) (λs:U=>[some s,some (.int m),some (.int way)]) m (λys s=>∃row:List Int,ys=row.map .int/\(∀c∈row,0<=c/\c<10)/\nK s)
   (λdone u s _ h00=>by
    obtain⟨row,hr,hc,hs⟩:=h00;obtain⟨ρi,r,ρi',s',a1,a2,a3,a4,a5,a6⟩:=NC u s hs;refine⟨ρi,.int r,ρi',s',a1,a2,a3,row++[r],by rw[hr,Su];rfl,λc N1=>?_,a6⟩;rcases Tz.mp N1 with z|z
    ·exact hc c z
    ·rw[Ta.mp z];exact⟨a4,a5⟩) (aG 0 m) [] s1 (by rw[a7];simp) ⟨[],rfl,(λc hc=>by cases hc),qr⟩
  rw[a7] at l;refine⟨row,s',by rw[e,←hr];rfl,?_,hc,AQ⟩;have:=congrArg List.length hr;simp at this;lia
 by_cases c:way<2
 ·obtain⟨row,s',a1,a2,a3,a4⟩:=key [none,some 0] (nR 2 1 aE (ae (gC (.int 2)) ak)) s1 Io λu s hs=>by
   obtain⟨r,s',b1,b2,b3,b4⟩:=gw (m:=2) hs (by decide) (by decide);refine⟨[some u,some s],r,[some u,some s'],s',rfl,?_,rfl,b2,by lia,b4⟩;simp only[Pzz,b7,Nat.reduceAdd,Nat.reduceSub,b1]
  refine⟨row,s',?_,a2,a3,a4⟩;simp only[dN,iJ,Pzz,b7,Nat.reduceAdd,Nat.reduceSub,e1,hJ c,iC m (by lia),a1]
 ·have RB:∃z:Int,kF [U.int 3,U.int 10] (way-2)=some (.int z)/\0<z/\z<=10:=by
   by_cases e:way=2
   ·subst e;exact⟨3,rfl,by decide,by decide⟩
   ·have e:way=3:=by lia
    subst e;exact⟨10,rfl,by decide,by decide⟩
  obtain⟨z,hz,z0,z1⟩:=RB;obtain⟨row,s',a1,a2,a3,a4⟩:=key [none,some 0,some 2] (nR 2 1 aE (ae (a9 nC (fh (ae (gC (.int 3)) (ae (gC (.int 10)) ak))) (a9 z9 (af 2) (gC (.int 2)))) ak)) s1 Io λu s hs=>by
   obtain⟨r,s',b1,b2,b3,b4⟩:=gw (m:=z) hs z0 (by lia);refine⟨[some u,some s,some (.int way)],r,[some u,some s',some (.int way)],s',rfl,?_,rfl,b2,by lia,b4⟩;simp only[Pzz,b7,Nat.reduceAdd,Nat.reduceSub,hz,b1]
  refine⟨row,s',?_,a2,a3,a4⟩;simp only[dN,iJ,Pzz,b7,Nat.reduceAdd,Nat.reduceSub,e1,hV c,iC m (by lia),a1]
noncomputable def DU (d:Dc):U:=.dct (d.map λp=>aw p.1) (d.map λp=>.int p.2)
noncomputable def ij (d:Dc):List U:=d.map λp=>aw p.1
noncomputable def kz (d:Dc):List U:=d.map λp=>U.int p.2
theorem zh:∀{a b:List Int},a.map U.int=b.map U.int->a=b
 | [],[],_=>rfl
 | [],_::_,h=>by cases h
 |_::_,[],h=>by cases h
 |x::a,y::b,h=>by
  rw[RY,RY] at h;injection h with h1 h2
  cases h1;rw[zh h2]
theorem jm {a b:List Int}:aw a=aw b↔a=b:=by
 constructor
 ·intro h;unfold aw at h;injection h with h
  exact zh h
 ·intro h;rw[h]
theorem tV {k:List Int}:aw k∈ij d↔k∈d.map (·.1):=by
 unfold ij;constructor
 ·intro h;obtain⟨p,hp,e⟩:=So.mp h;rw[←jm.mp e];exact Sy hp
 ·intro h;obtain⟨p,hp,rfl⟩:=So.mp h;exact Sy hp
theorem Kh (d:Dc)(k:List Int)(v:Int):iS (ij d) (aw k)=ij (gj d k v):=by
 unfold iS;have e:ij (gj d k v)=((gj d k v).map (·.1)).map aw:=by unfold ij;rw[Sg];rfl
 rw[e,lA];by_cases c:k∈d.map (·.1)
 ·rw[h9 (tV.mpr c),h9 c];unfold ij;rw[Sg];rfl
 ·rw[hZ (λz=>c (tV.mp z)),hZ c,Su];unfold ij;rw[Sg];rfl
theorem DB (k:List Int)(v:Int):∀d:Dc,Vw (λa u=>if a=aw k then U.int v else u) (ij d) (kz d)=kz (d.map λp=>if p.1=k then (p.1,v) else p)
 | []=>rfl
 |p::d=>by
  have ih:=DB k v d;unfold ij kz at ih ⊢;rw[RY,RY,RY,RY,UY,ih];congr 1;by_cases c:p.1=k
  ·rw[h9 (jm.mpr c),h9 c]
  ·rw[hZ (λz=>c (jm.mp z)),hZ c]
theorem Ki (d:Dc)(k:List Int)(v:Int):fI (ij d) (kz d) (aw k) (.int v)=kz (gj d k v):=by
 unfold fI gj;by_cases c:k∈d.map (·.1)
 ·rw[h9 (tV.mpr c),h9 c,DB]
 ·rw[hZ (λz=>c (tV.mp z)),hZ c];unfold kz;rw[Su];rfl
theorem tW (k:List Int):∀d:Dc,gc (ij d) (kz d) (aw k)=if k∈d.map (·.1) then some (.int (aS d k)) else none
 | []=>rfl
 |p::d=>by
  have ih:=tW k d;unfold ij kz at ih ⊢;rw[RY,RY];unfold gc;rw[ih,eG];by_cases c:p.1=k
  ·rw[h9 (jm.mpr c),h9 (by rw[RY,c];exact Sd),h9 c]
  ·rw[hZ (λz=>c (jm.mp z)),hZ c];by_cases c2:k∈d.map (·.1)
   ·rw[h9 c2,h9 (by rw[RY];exact Sn _ c2)]
   ·rw[hZ c2,hZ (by rw[RY,Ss,not_or];exact⟨λz=>c z.symm,c2⟩)]
theorem vS:∀l:List Int,uT (l.map U.int)=true
 | []=>rfl
 |x::l=>by rw[RY];unfold uT;rw[vS l];rfl
theorem vT:∀l:List Int,qD (l.map U.int)=0
 | []=>rfl
 |x::l=>by rw[RY];unfold qD;rw[vT l];rfl
theorem DC (k:List Int):Fw (aw k)=true:=by
 show (uT (k.map U.int)&&decide (qD (k.map U.int)<=6))=true;rw[vS,vT];rfl
theorem MJ (d:Dc):(ij d).all Fx=true:=S4.mpr λu hu=>by
 obtain⟨p,_,rfl⟩:=So.mp hu;rfl
theorem MK (d:Dc):(ij d).all MA=true:=S4.mpr λu hu=>by
 obtain⟨p,_,rfl⟩:=So.mp hu;rfl
theorem tX (d:Dc)(k:List Int):kY (ij d) (aw k)=true:=by
 unfold kY;rw[DC,MJ];exact Bool.or_true _
theorem mB (h:d≠[]):pP (ij d)=true:=by
 unfold pP;rw[MK];cases d with
 |nil=>exact absurd rfl h
 |cons=>rfl
noncomputable def OS (i:Nat)(v k:U)(ρ:Ev)(o:Option (Option U)):SR:=match o with
 |some (some (.dct ks us))=>if kY ks k=true/\us.length<R3 then .nx (ρ.set i (some (.dct (iS ks k) (fI ks us k v)))) else .stk
 |_=>.stk
theorem qb {gv gk:Ev->R (U×Ev)}:fJ i gv gk ρ=SR.of (gv ρ) λx=>if yH x.2[i]? = true then SR.of (gk x.2) λy=>OS i x.1 y.1 y.2 y.2[i]? else .stk:=nr rfl
theorem lG (h:d.length<1000000){v:Int}{k:List Int}:OS i (.int v) (aw k) ρ (some (some (DU d)))=.nx (ρ.set i (some (DU (gj d k v)))):=by
 have sz:R3=16777216:=rfl;have:OS i (.int v) (aw k) ρ (some (some (DU d)))=.nx (ρ.set i (some (.dct (iS (ij d) (aw k)) (fI (ij d) (kz d) (aw k) (.int v))))):=h9 ⟨tX d k,by show (kz d).length<_;unfold kz;rw[RX,sz];lia⟩;rw[this,Kh d k v,Ki];rfl
noncomputable def OT (k x:U)(ρ:Ev)(o:Option (Option U)):R (U×Ev):=match o with
 |some (some (.dct ks us))=>if kY ks k=true then .ok ((gc ks us k).getD x,ρ) else .stk
 |_=>.stk
noncomputable def PZ (i:Nat)(g2 g3:Ev->R (U×Ev))(ρ:Ev)(o:Option (Option U)):R (U×Ev):=match o with
 |some (some (.dct _ _))=>(g2 ρ).bind λk=>(g3 k.2).bind λx=>OT k.1 x.1 x.2 x.2[i]?
 |_=>.stk
theorem tY {g2 g3:Ev->R (U×Ev)}:iB i g2 g3 ρ=PZ i g2 g3 ρ ρ[i]? := nr rfl
theorem tZ {g2 g3:Ev->R (U×Ev)}:PZ i g2 g3 ρ (some (some (DU d)))=(g2 ρ).bind λk=>(g3 k.2).bind λx=>OT k.1 x.1 x.2 x.2[i]? := nr rfl
theorem t7 {k:List Int}:OT (aw k) (.int 0) ρ (some (some (DU d)))=.ok (.int (aS d k),ρ):=by
 refine (h9 (tX d k)).trans ?_;rw[show gc (d.map λp=>aw p.1) (d.map λp=>.int p.2) (aw k)=_ from tW k d];split
 ·rfl
 ·rename_i c;rw[dB c];rfl
theorem fP (ws:List (List Int×Int)):(aF [] ws).length<=ws.length:=by
 have:∀(ws:List (List Int×Int)) (d:Dc),(aF d ws).length<=d.length+ws.length:=by
  intro ws
  induction ws with
  |nil=>intro d;exact Sb _
  |cons p ws ih=>
   intro d;have h1:=ih (jP d p.1 p.2);have h2:(jP d p.1 p.2).length<=d.length+1:=by
    unfold jP gj;split
    ·rw[RX];lia
    ·rw[Se,Ub];exact Sb _
   rw[Sj];show (aF (jP d p.1 p.2) ws).length<=_;lia
 have:=this ws [];simpa using this
theorem jn (d:Dc)(ws:List (List Int×Int))(p:List Int×Int):aF d (ws++[p])=jP (aF d ws) p.1 p.2:=by
 unfold aF;rw[Xr];rfl
noncomputable def SU (ss:List (List Int)):U:=.tup (ss.map aw)
theorem DD {s:Nat}{x:U}(ss:List (List Int))(hl:ss.length<100000)(mk:Dc->Option U->Ev)(step:∀(d:Dc) (o:Option U) (k:List Int),d.length<1000000->∃ρ1,bH j (aw k) (mk d o)=.ok ρ1/\fJ i (a9 cv (iB i (af j) (gC (.int 0))) (gC (.int 1))) (af j) ρ1=.nx (mk (gj d k (aS d k+1)) (some (aw k))))(o:Option U) :
  ∃o',eR (bH j) (fJ i (a9 cv (iB i (af j) (gC (.int 0))) (gC (.int 1))) (af j)) (ss.map aw) (mk [] o)=.nx (mk (ar ss) o'):=by
 obtain⟨ρ',e1,o',e2⟩:=bL (us:=ss.map aw) (sg:=bH j) (s:=fJ i (a9 cv (iB i (af j) (gC (.int 0))) (gC (.int 1))) (af j))
  (λn ρ=>∃o,ρ=mk (aF [] ((ss.take n).map λx=>(x,1))) o)
  (λn u ρ hu h00=>by
   obtain⟨o,hr⟩:=h00;subst hr;have hn:n<ss.length:=by have:=(R8.mp hu).1;rwa [RX] at this
   rw[R_,R5 hn] at hu;obtain rfl:aw ss[n]=u:=by injection hu
   obtain⟨ρ1,a,b⟩:=step (aF [] ((ss.take n).map λx=>(x,1))) o ss[n] (VF (fP _) (by rw[RX,SF];lia));refine⟨ρ1,_,a,.inl b,some (aw ss[n]),?_⟩;rw[Sw hn,Su];show _=mk (aF [] (_++[(ss[n],1)])) _;rw[jn];rfl)
  (ρ:=mk [] o) ⟨o,rfl⟩
 refine⟨o',?_⟩;rw[e1,e2,RX,Th];rfl
theorem fQ {x:U}(hx:uY x=λρ=>.ok (ss.map aw,ρ))(hl:ss.length<100000):bD [x]=.ok (DU (ar ss)):=by
 obtain⟨o',e⟩:=DD (s:=0) (x:=x) (i:=1) (j:=2) ss hl (λd o=>[some x,some (DU d),o]) (λd o k hd=>⟨[some x,some (DU d),some (aw k)],rfl,by
  simp only[Pzz,b7,Nat.reduceAdd,Nat.reduceSub,qb,tY,tZ,t7,lG hd]⟩) none
 have e0:DU []=.dct [] []:=rfl;rw[e0] at e;unfold bD mq;simp only[Pzz,b7,Nat.reduceAdd,Nat.reduceSub,hx,e]
theorem DF {a b:Int}(h0:0<=a)(h1:0<b):(TR b.toNat (a % b).toNat)=TR a.toNat b.toNat:=by
 obtain⟨n,rfl⟩:∃n:Nat,a=n:=⟨a.toNat,by lia⟩;obtain⟨m,rfl⟩:∃m:Nat,b=m:=⟨b.toNat,by lia⟩;have e:((n:Int) % (m:Int)).toNat=n % m:=by rw[←Int.natCast_emod];rfl
 rw[e,SO,SO,Nat.gcd_comm m (n % m),←Nat.gcd_rec,Nat.gcd_comm]
theorem Ia {i:Int}(h:0<=i):z_ [.int i]=.ok (.int i):=by
 have e:z_ [.int i]=.ok (.int (if i<0 then -i else i)):=nr rfl;rw[e,hZ (by lia)]
theorem zj:∀(n:Nat) (a b:Int) (o:Option U),0<=a->0<=b->b<n->∃o',gE (gB (a9 (pU not) (af 1) (gC (.int 0)))) (aA (bg 2 (a9 qE (af 0) (af 1))) (aA (bg 0 (af 1)) (bg 1 (af 2)))) n [some (.int a),some (.int b),o]=.nx [some (.int (TR a.toNat b.toNat)),some (.int 0),o']
 |0,a,b,o,h0,h1,h2=>by lia
 |n+1,a,b,o,h0,h1,h2=>by
  by_cases c:b=0
  ·subst c;refine⟨o,?_⟩;have:((TR a.toNat (0:Int).toNat:Nat):Int)=a:=by rw[show (0:Int).toNat=0 from rfl,Nat.gcd_zero_right];lia
   rw[this];simp only[Pzz,b7,Nat.reduceAdd,Nat.reduceSub,fx,Int.reduceBEq,yR]
  ·have hb:0<b:=by lia
   obtain⟨o',e⟩:=zj n b (a % b) (some (.int (a % b))) h1 (U4 _ c) (by have:=Uy a hb;lia);refine⟨o',?_⟩;rw[DF h0 hb] at e;have cb:(b==0)=false:=beq_eq_false_iff_ne.mpr c;simp only[Pzz,b7,Nat.reduceAdd,Nat.reduceSub,fx,cb,yR,hJ hb,e]
theorem DH {a b:Int}(h0:0<=a)(h1:0<=b)(h2:b<1000000000000):aN [.int a,.int b]=.ok (.int (TR a.toNat b.toNat)):=by
 obtain⟨o',e⟩:=zj 1000000000000 a b none h0 h1 h2;unfold aN dM;simp only[Pzz,b7,Nat.reduceAdd,Nat.reduceSub,Ia h0,Ia h1,e]
noncomputable def P0 (u:U)(ρ:Ev):R (List U×Ev):=match u with
 | .dct ks us=>if pP ks=true then .ok (us,ρ) else .stk
 |_=>.stk
noncomputable def P1 (u:U)(ρ:Ev):R (List U×Ev):=match u with
 | .dct ks us=>if pP ks=true then .ok (Vw (λk u=>.tup [k,u]) ks us,ρ) else .stk
 |_=>.stk
theorem OU:OP g ρ=(g ρ).bind λx=>P0 x.1 x.2:=nr rfl
theorem DJ:HV g ρ=(g ρ).bind λx=>P1 x.1 x.2:=nr rfl
theorem Gd (h:d≠[]):P0 (DU d) ρ=.ok (d.map λp=>.int p.2,ρ):=h9 (mB h)
noncomputable def AY (p:List Int×Int):U:=.tup [aw p.1,.int p.2]
theorem lH (h:d≠[]):P1 (DU d) ρ=.ok (d.map AY,ρ):=by
 refine (h9 (mB h)).trans ?_;have e:∀d:Dc,Vw (λk u=>U.tup [k,u]) (d.map λp=>aw p.1) (d.map λp=>U.int p.2)=d.map AY:=by
  intro d
  induction d with
  |nil=>rfl
  |cons p d ih=>rw[RY,RY,RY,UY,ih];rfl
 rw[e]
noncomputable def OV (i:Nat):SR->SR
 | .nx ρ'=>.nx (ρ'.set i none)
 | .bk ρ'=>.bk (ρ'.set i none)
 | .ct ρ'=>.ct (ρ'.set i none)
 | .rt u ρ'=>.rt u (ρ'.set i none)
 |r=>r
theorem DK {g:Ev->SR}:xn i g ρ=OV i (g ρ):=nr (by unfold xn OV;cases g ρ<;>rfl)
theorem DL:OV i (.rt u ρ)=.rt u (ρ.set i none):=nr rfl
theorem Ib {k:List Int}(h:k∈d.map (·.1)):uU (DU d) (aw k)=.ok (.int (aS d k)):=by
 have e:uU (DU d) (aw k)=if kY (ij d) (aw k)=true then (match gc (ij d) (kz d) (aw k) with
  |some z=>.ok z
  |none=>.stk) else .stk:=rfl
 rw[e,h9 (tX d k),tW,h9 h]
theorem Kj {a b:U}:du 2 (aK (bH i) (aK (bH j) cK)) (.tup [a,b]) ρ=.ok ((ρ.set i (some a)).set j (some b)):=nr rfl
noncomputable def av (a b:List Int):List Int:=b.map λi=>a.getD i.toNat 0
theorem zk {a b:List Int}(h:∀i∈b,0<=i/\i<a.length):yk (wu [none,some 0] (bH 0) dA (a9 nC (af 1) (af 0)) [some (aw a),some (aw b)]) (b.map U.int)=.ok ((av a b).map U.int):=by
 have e:=d5 (f:=wu [none,some 0] (bH 0) dA (a9 nC (af 1) (af 0)) [some (aw a),some (aw b)]) (c:=U.int) (g:=λi:Int=>U.int (a.getD i.toNat 0)) (xs:=b) λi hi=>by
  obtain⟨h0,h1⟩:=h i hi;obtain⟨n,rfl⟩:∃n:Nat,i=n:=⟨i.toNat,by lia⟩;have hn:n<a.length:=by lia
  have e1:kF (a.map U.int) (n:Int)=some (.int a[n]):=by rw[u3,R_,R5 hn];rfl
  have e2:a.getD (n:Int).toNat 0=a[n]:=by rw[SO,S3,R5 hn];rfl
  simp only[Pzz,b7,Nat.reduceAdd,Nat.reduceSub,aw,e1,e2]
 rw[e];unfold av;rw[Sg];rfl
theorem DM {a b:List Int}(h:∀i∈b,0<=i/\i<a.length)(hl:b.length<=1000):cz [aw a,aw b]=.ok (aw (av a b)):=by
 have e:=zk h;have sz:((av a b).map U.int).length<=R3:=by rw[RX];unfold av;rw[RX];have:R3=16777216:=rfl;lia
 unfold cz iE;simp only[aw] at e ⊢;simp only[Pzz,b7,Nat.reduceAdd,Nat.reduceSub,e,sz]
theorem jF:∀ns:List Int,cP (ns.map U.int)=some ns
 | []=>rfl
 |n::ns=>by rw[RY];show (cP (ns.map U.int)).map _=_;rw[jF ns];rfl
theorem qc:∀{nss:List (List Int)},(∀ns∈nss,ns≠[])->pS (nss.map aw)=some nss
 | [],_=>rfl
 |ns::nss,h=>by
  rw[RY];unfold pS;have e1:FT (aw ns)=some ns:=by
   show (match cP (ns.map U.int) with|some (n::ns)=>some (n::ns)|_=>none)=_;rw[jF];cases ns with
   |nil=>exact absurd rfl (h [] Sd)
   |cons=>rfl
  rw[e1,qc λx hx=>h x (Sn _ hx)]
theorem rX (h:d≠[])(ln:d.length<64)(hr:∀p∈d,p.1≠[]):gU [DU d]=.ok (.lst ((bS (d.map (·.1))).map aw)):=by
 have e:gU [DU d]=if pP (ij d)=true then fL (ij d) else .stk:=rfl
 rw[e,h9 (mB h)];unfold fL;have e2:pS (ij d)=some (d.map (·.1)):=by
  have:ij d=(d.map (·.1)).map aw:=by unfold ij;rw[Sg];rfl
  rw[this];exact qc λns hn=>by obtain⟨p,hp,rfl⟩:=So.mp hn;exact hr p hp
 rw[e2];dsimp only;rw[h9 (by rw[RX];lia)]
theorem lI (ss:List (List Int)):uY (SU ss)=λρ=>.ok (ss.map aw,ρ):=by funext ρ;exact xg
structure Sm (d:Dc):Prop where
 ne:d≠[]
 nd:Nd d
 ps:Ps d
 le:∀p∈d,p.2<1000
 ln:d.length<1000
noncomputable def xM (d:Dc)(n:Nat):Nat:=((d.take n).map λp=>p.2.toNat).foldl TR 0
theorem AD (h:n<d.length):xM d (n+1)=TR (xM d n) d[n].2.toNat:=by
 unfold xM;rw[Sw h,Su,Xr];rfl
theorem DP (d:Dc):xM d d.length=cq d:=by unfold xM cq;rw[Th]
theorem jX:∀(l:List Nat) (g:Nat),0<g->0<l.foldl TR g
 | [],g,h=>h
 |x::l,g,h=>jX l _ (VN _ h)
theorem fR (h:Sm d):0<cq d:=by
 have h1:=h.ne;have h2:=h.ps;cases d with
 |nil=>exact absurd rfl h1
 |cons p d=>
  unfold cq;rw[RY,Uh,Nat.gcd_zero_left];have:=h2 p Sd;exact jX _ _ (by lia)
theorem lJ:∀(l:List Nat) (g:Nat),0<g->l.foldl TR g<=g
 | [],g,h=>Sb _
 |x::l,g,h=>Sz (lJ l _ (VN _ h)) (Nat.gcd_le_left _ h)
theorem Ge (h:Sm d):cq d<1000:=by
 have h1:=h.ne;have h2:=h.ps;have h3:=h.le;cases d with
 |nil=>exact absurd rfl h1
 |cons p d=>
  unfold cq;rw[RY,Uh,Nat.gcd_zero_left];have a:=h2 p Sd;have b:=h3 p Sd;have:=lJ (d.map λp=>p.2.toNat) p.2.toNat (by lia);lia
theorem DQ (n:Nd d)(h:i<d.length):gj (d.take i) d[i].1 d[i].2=d.take (i+1):=by
 have c:d[i].1∉(d.take i).map (·.1):=by
  intro z;obtain⟨q,hq,e⟩:=So.mp z;obtain⟨j,hj,rfl⟩:=List.mem_iff_getElem.mp hq;rw[SF] at hj;rw[List.getElem_take] at e;have Qp:j<d.length:=by lia
  have a1:(d.map (·.1))[j]? = some d[j].1:=by rw[R_,R5 Qp];rfl
  have a2:(d.map (·.1))[i]? = some d[j].1:=by rw[R_,R5 h,e];rfl
  have:=(List.getElem?_inj (by rw[RX];exact Qp) n).mp (a1.trans a2.symm);lia
 unfold gj;rw[hZ c,Sw h]
theorem Gf {v:Int}{g:Nat}(h:0<g)(h2:g<1000):gq (.int v) (.int g)=.ok (.int (v / g)):=by
 rw[tj,h9];unfold sW;rw[Sa,decide_eq_true_eq,decide_eq_true_eq];lia
theorem fE (d:Dc):(aR d).length=d.length:=by unfold aR;rw[RX]
theorem AE (h:i<d.length):(aR d)[i]'(by rw[fE];exact h)=(d[i].1,d[i].2 / (cq d:Int)):=by unfold aR;rw[List.getElem_map]
theorem jo (h:Sm d):bY [DU d]=.ok (DU (aR d)):=by
 have ln:=h.ln;obtain⟨ρ1,e1,o1,r1⟩:=bL (us:=d.map λp=>U.int p.2) (sg:=bH 2) (s:=bg 1 (dI 2 aN (ae (af 1) (ae (af 2) ak))))
  (λn ρ=>∃o,ρ=[some (DU d),some (.int (xM d n)),o,none,none])
  (λn u ρ hu h00=>by
   obtain⟨o,hr⟩:=h00;subst hr;have hn:n<d.length:=by have:=(R8.mp hu).1;rwa [RX] at this
   rw[R_,R5 hn] at hu;obtain rfl:U.int d[n].2=u:=by injection hu
   have a1:=h.ps d[n] (S6 hn);have a2:=h.le d[n] (S6 hn);refine⟨_,_,rfl,.inl ?_,some (.int d[n].2),rfl⟩;have e:=DH (a:=(xM d n:Int)) (b:=d[n].2) (by lia) (by lia) (by lia);rw[SO,←AD hn] at e;simp only[Pzz,b7,Nat.reduceAdd,Nat.reduceSub,e])
  (ρ:=[some (DU d),some (.int 0),none,none,none]) ⟨none,rfl⟩
 subst r1;rw[RX,DP] at e1;obtain⟨ρ2,e2,o2,o3,r2⟩:=bL (us:=d.map AY) (sg:=du 2 (aK (bH 4) (aK (bH 2) cK))) (s:=fJ 3 (a9 gq (af 2) (af 1)) (af 4))
  (λn ρ=>∃o o',ρ=[some (DU d),some (.int (cq d)),o,some (DU ((aR d).take n)),o'])
  (λn u ρ hu h00=>by
   obtain⟨o,o',hr⟩:=h00;subst hr;have hn:n<d.length:=by have:=(R8.mp hu).1;rwa [RX] at this
   rw[R_,R5 hn] at hu;obtain rfl:AY d[n]=u:=by injection hu
   have O8:n<(aR d).length:=by rw[fE];exact hn
   have pt:=DQ (iL h.nd) O8;rw[AE hn] at pt;refine⟨_,_,Kj,.inl ?_,some (.int d[n].2),some (aw d[n].1),rfl⟩;rw[←pt];simp only[Pzz,b7,Nat.reduceAdd,Nat.reduceSub,qb,Gf (fR h) (Ge h),lG (show ((aR d).take n).length<1000000 by rw[SF,fE];lia)])
  (ρ:=[some (DU d),some (.int (cq d)),o1,some (DU []),none]) ⟨o1,none,rfl⟩
 subst r2;rw[RX,←fE,Th] at e2;have e0:DU []=.dct [] []:=rfl;rw[e0] at e2;unfold bY km;simp only[Pzz,b7,Nat.reduceAdd,Nat.reduceSub,OU,DJ,Gd h.ne,lH h.ne,e1,e2]
theorem Gg {k:List Int}(v:Int)(h:k∉d.map (·.1)):gj d k v=d++[(k,v)]:=hZ h
theorem Gh {a b:List Int}(h:∀i∈b,0<=i/\i<a.length)(hl:b.length<=1000):kj [aw a,aw b]=.ok (aw (av a b)):=by
 have e:=zk h;have sz:((av a b).map U.int).length<=R3:=by rw[RX];unfold av;rw[RX];have:R3=16777216:=rfl;lia
 have e1:cz [aw a,aw b]=.ok (aw (av a b)):=by
  unfold cz iE;simp only[aw] at e ⊢;simp only[Pzz,b7,Nat.reduceAdd,Nat.reduceSub,e,sz]
 unfold kj xC;simp only[Pzz,b7,Nat.reduceAdd,Nat.reduceSub,e1]
theorem Kk {n:Int}(h0:0<=n)(h1:n<=100000):vp (.lst [u]) (.int n)=.ok (.lst (SE n.toNat u)):=by
 have e:vp (.lst [u]) (.int n)=if 0<=n/\n<=100000/\[u].length*n.toNat<=100000/\[u].isEmpty=false then .ok (.lst (SE n.toNat [u]).flatten) else .stk:=nr rfl
 rw[e,h9 ⟨h0,h1,by simp;lia,rfl⟩];congr 2;generalize n.toNat=m
 induction m with
 |zero=>rfl
 |succ m ih=>rw[Tv,U9,ih,Tv];rfl
theorem Kl {s:Ev->SR}(d:Dc)(mk:List (List Int)->Option U->Ev)(hz:∀l:List (List Int),(∀k∈l,k∈d.map (·.1))->l.length<=d.length->(l.flatMap λk=>SE (aS d k).toNat k).length<=2000000)(step:∀(xs:List (List Int)) (o:Option U) (k:List Int),k∈d.map (·.1)->xs.length<=2000000->∃ρ1,bH j (aw k) (mk xs o)=.ok ρ1/\s ρ1=.nx (mk (xs++SE (aS d k).toNat k) (some (aw k))))(o:Option U) :
  ∃o',eR (bH j) s ((bS (d.map (·.1))).map aw) (mk [] o)=.nx (mk (jR d) o'):=by
 have sp:=bh (d.map (·.1));obtain⟨ρ',e1,o',e2⟩:=bL (us:=(bS (d.map (·.1))).map aw) (sg:=bH j) (s:=s)
  (λn ρ=>∃o,ρ=mk (((bS (d.map (·.1))).take n).flatMap λk=>SE (aS d k).toNat k) o)
  (λn u ρ hu h00=>by
   obtain⟨o,hr⟩:=h00;subst hr;have hn:n<(bS (d.map (·.1))).length:=by have:=(R8.mp hu).1;rwa [RX] at this
   rw[R_,R5 hn] at hu;obtain rfl:aw (bS (d.map (·.1)))[n]=u:=by injection hu
   obtain⟨ρ1,a,b⟩:=step (((bS (d.map (·.1))).take n).flatMap λk=>SE (aS d k).toNat k) o (bS (d.map (·.1)))[n] (sp.mem_iff.mp (S6 hn))
    (hz _ (λk hk=>sp.mem_iff.mp (Wu hk)) (by rw[SF,sp.length_eq,RX];lia))
   refine⟨ρ1,_,a,.inl b,some (aw (bS (d.map (·.1)))[n]),?_⟩;rw[Sw hn,WM];simp)
  (ρ:=mk [] o) ⟨o,rfl⟩
 refine⟨o',?_⟩;rw[e1,e2,RX,Th];rfl
structure Sh (n:Nat)(l:List (List Int)):Prop where
 ne:l≠[]
 ln:l.length<=60
 n1:1<=n
 n8:n<=8
 len:∀a∈l,a.length=n
 bd:∀a∈l,∀i∈a,0<=i/\i<n
theorem qd:∀(ws:List (List Int×Int)) (d:Dc) (p:List Int×Int),p∈aF d ws->p.1∈d.map (·.1)\/p.1∈ws.map (·.1)
 | [],d,p,h=>.inl (Sy h)
 |q::ws,d,p,h=>by
  rcases qd ws (jP d q.1 q.2) p h with h|h
  ·unfold jP at h;rw[lA] at h;split at h
   ·exact .inl h
   ·rcases Tz.mp h with h|h
    ·exact .inl h
    ·rw[Ta] at h;exact .inr (by rw[RY,h];exact Sd)
  ·exact .inr (by rw[RY];exact Sn _ h)
theorem jG {l:List (List Int)}{p:List Int×Int}(h:p∈ar l):p.1∈l:=by
 rcases qd _ _ p h with h|h
 ·cases h
 ·rw[Sg] at h;obtain⟨x,hx,e⟩:=So.mp h;rw[←e];exact hx
theorem Ic (n:Nd d)(p:Ps d)(t:jQ d<1000)(ne:d≠[]):Sm d:=⟨ne,n,p,λq hq=>by have:=Dv p q hq;lia,by have:=ko p;lia⟩
theorem DR (h:0<jQ d):d≠[]:=λz=>by rw[z] at h;exact absurd h (by decide)
theorem fS {l:List (List Int)}(h:l≠[])(hl:l.length<1000):Sm (ar l):=by
 obtain⟨n,p,_⟩:=bb l;have t:=nZ l;have:0<l.length:=by cases l with
  |nil=>exact absurd rfl h
  |cons=>simp
 exact Ic n p (by lia) (DR (by lia))
theorem zm {l m:List (List Int)}(hl:l≠[])(hm:m≠[])(h:l.length*m.length<1000):Sm (aF [] (dC av (ar l) (ar m))):=by
 have p:=rW av l m;obtain⟨n1,p1,_⟩:=bb l;obtain⟨n2,p2,_⟩:=bb m;obtain⟨n4,p4,_⟩:=fD (dC av (ar l) (ar m)) gJ.1 gJ.2 (rV p1 p2);have t:=rR p;rw[nZ] at t;have e:(aX av l m).length=l.length*m.length:=by
  unfold aX;have:∀l:List (List Int),(l.flatMap λa=>m.map λb=>av a b).length=l.length*m.length:=by
   intro l
   induction l with
   |nil=>simp
   |cons a l ih=>rw[Tn,Se,RX,ih,Sj,Nat.succ_mul];lia
  exact this l
 have pos:0<l.length*m.length:=Nat.mul_pos (SV.mpr hl) (SV.mpr hm);exact Ic n4 p4 (by lia) (DR (by lia))
theorem Km {a b:Int}(h0:0<=a)(h1:a<1000):fm (.int a) (.int b)=.ok (.int (a*b)):=by
 rw[CV,h9];unfold iW;rw[UG,Sa,decide_eq_true_eq,decide_eq_true_eq];exact .inl ⟨by lia,by lia⟩
theorem DV (c e:Dc):(dC av c e).length=c.length*e.length:=by
 unfold dC
 induction c with
 |nil=>simp
 |cons a c ih=>rw[Tn,Se,RX,ih,Sj,Nat.succ_mul];lia
theorem iN (l:List (List Int)):(ar l).length<=l.length:=by
 have:=fP (l.map λx=>(x,(1:Int)));rw[RX] at this;exact this
theorem Kn {l m:List (List Int)}(hl:Sh n l)(hm:Sh n m):∃o3 o4 o5 o6 o7,i7 (HV (dI 1 bD (ae (af 0) ak))) (du 2 (aK (bH 3) (aK (bH 4) cK))) nY [some (SU l),some (SU m),some (DU []),none,none,none,none,none,none,none]=.nx [some (SU l),some (SU m),some (DU (aF [] (dC av (ar l) (ar m)))),o3,o4,o5,o6,o7,none,none]:=by
 have s1:=fS hl.ne (by have:=hl.ln;lia);have s2:=fS hm.ne (by have:=hm.ln;lia);have c1:=fQ (lI l) (by have:=hl.ln;lia);have c2:=fQ (lI m) (by have:=hm.ln;lia);have l1:(ar l).length<=60:=Sz (iN l) hl.ln;have l2:(ar m).length<=60:=Sz (iN m) hm.ln;obtain⟨ρ',e1,o3,o4,o5,o6,o7,r1⟩:=bL (us:=(ar l).map AY) (sg:=du 2 (aK (bH 3) (aK (bH 4) cK)))
  (s:=nY)
  (λi ρ=>∃o3 o4 o5 o6 o7,ρ=[some (SU l),some (SU m),some (DU (aF [] (dC av ((ar l).take i) (ar m)))),o3,o4,o5,o6,o7,none,none])
  (λi u ρ hu h00=>by
   obtain⟨o3,o4,o5,o6,o7,hr⟩:=h00;subst hr;have hi:i<(ar l).length:=by have:=(R8.mp hu).1;rwa [RX] at this
   rw[R_,R5 hi] at hu;obtain rfl:AY (ar l)[i]=u:=by injection hu
   have ma:=jG (S6 hi);have va:=s1.ps _ (S6 hi);have vb:=s1.le _ (S6 hi);generalize ea:(ar l)[i]=a at ma va vb;obtain⟨ρ2,e2,p5,p6,p7,r2⟩:=bL (us:=(ar m).map AY) (sg:=du 2 (aK (bH 5) (aK (bH 6) cK)))
    (s:=tM)
    (λj ρ=>∃o5 o6 o7,ρ=[some (SU l),some (SU m),some (DU (aF [] (dC av ((ar l).take i) (ar m)++((ar m).take j).map λb=>(av a.1 b.1,a.2*b.2)))),some (aw a.1),some (.int a.2),o5,o6,o7,none,none])
    (λj u ρ hu h00=>by
     obtain⟨o5,o6,o7,hr⟩:=h00;subst hr;have hj:j<(ar m).length:=by have:=(R8.mp hu).1;rwa [RX] at this
     rw[R_,R5 hj] at hu;obtain rfl:AY (ar m)[j]=u:=by injection hu
     have mb:=jG (S6 hj);generalize eb:(ar m)[j]=b at mb;have t:=Gh (a:=a.1) (b:=b.1) (λx hx=>by rw[hl.len _ ma];exact hm.bd _ mb x hx) (by rw[hm.len _ mb];have:=hm.n8;lia);have lw:(aF [] (dC av ((ar l).take i) (ar m)++((ar m).take j).map λb=>(av a.1 b.1,a.2*b.2))).length<1000000:=by
      refine VF (fP _) ?_;rw[Se,DV,RX,SF,SF];have:min i (ar l).length*(ar m).length<=60*60:=Wb (by lia) l2;lia
     refine⟨_,_,Kj,.inl ?_,some (aw b.1),some (.int b.2),some (aw (av a.1 b.1)),rfl⟩;rw[Sw hj,Su,←TX];show _=SR.nx [some (SU l),some (SU m),some (DU (aF [] ((_++_)++[(av a.1 (ar m)[j].1,a.2*(ar m)[j].2)]))),_,_,_,_,_,_,_];rw[jn,eb];show _=SR.nx [some (SU l),some (SU m),some (DU (gj _ _ _)),_,_,_,_,_,_,_];simp only[tM,Pzz,b7,Nat.reduceAdd,Nat.reduceSub,t,qb,tY,tZ,t7,Km (by lia:(0:Int)<=a.2) vb,lG lw])
    (ρ:=[some (SU l),some (SU m),some (DU (aF [] (dC av ((ar l).take i) (ar m)))),some (aw a.1),some (.int a.2),o5,o6,o7,none,none]) ⟨o5,o6,o7,by rw[List.take_zero,Tb,Tg]⟩
   subst r2;rw[RX,Th] at e2;have e3:dC av ((ar l).take i) (ar m)++((ar m).map λb=>(av a.1 b.1,a.2*b.2))=dC av ((ar l).take (i+1)) (ar m):=by
    rw[Sw hi,ea];unfold dC;rw[WM];simp
   rw[e3] at e2;refine⟨_,_,Kj,.inl ?_,some (aw a.1),some (.int a.2),p5,p6,p7,rfl⟩;simp only[nY,Pzz,b7,Nat.reduceAdd,Nat.reduceSub,c2,DJ,lH s2.ne,e2])
  (ρ:=[some (SU l),some (SU m),some (DU []),none,none,none,none,none,none,none]) ⟨none,none,none,none,none,rfl⟩
 subst r1;rw[RX,Th] at e1;refine⟨o3,o4,o5,o6,o7,?_⟩;simp only[Pzz,b7,Nat.reduceAdd,Nat.reduceSub,c1,DJ,lH s1.ne,e1]
noncomputable def OW (u:U)(ρ:Ev):R (U×Ev):=match u with
 | .dct ks us=>if pP ks=true then (match cP us with
  |some ns=>if ke ns=true then .ok (.int ns.sum,ρ) else .stk
  |none=>.stk) else .stk
 |_=>.stk
theorem DX:y8 g ρ=(g ρ).bind λx=>OW x.1 x.2:=nr rfl
theorem Gi (h:d≠[])(l:d.length<1000)(hv:∀p∈d,0<=p.2/\p.2<1000):OW (DU d) ρ=.ok (.int (jQ d),ρ):=by
 have e:OW (DU d) ρ=if pP (ij d)=true then (match cP (kz d) with
  |some ns=>if ke ns=true then .ok (.int ns.sum,ρ) else .stk
  |none=>.stk) else .stk:=rfl
 have e2:cP (kz d)=some (d.map (·.2)):=by
  have:kz d=(d.map (·.2)).map U.int:=by unfold kz;rw[Sg];rfl
  rw[this,jF]
 rw[e,h9 (mB h),e2];dsimp only;rw[h9]
 ·rfl
 ·unfold ke;rw[Sa,decide_eq_true_eq,RX,S4];refine⟨by lia,λx hx=>?_⟩;obtain⟨p,hp,rfl⟩:=So.mp hx;have:=hv p hp;exact hJ (by lia)
theorem n5 (h:Sm d):aR d≠[]:=λz=>h.ne (WN.mp z)
theorem rY (h:Sm d):∀p∈aR d,0<=p.2/\p.2<1000:=by
 intro p hp;obtain⟨q,hq,rfl⟩:=So.mp hp;have h1:=h.ps q hq;have h2:=h.le q hq;have h3:=fR h;constructor
 ·exact Int.ediv_nonneg (by lia) (by lia)
 ·have:q.2 / (cq d:Int)<=q.2:=Int.ediv_le_self _ (by lia);show q.2 / (cq d:Int)<1000;lia
theorem qe (h:Sm d)(k:List Int):0<=aS (aR d) k/\aS (aR d) k<1000:=by
 by_cases c:k∈(aR d).map (·.1)
 ·exact rY h _ (eI c)
 ·rw[dB c];lia
theorem zo (h:Sm d)(l:List (List Int))(hl:l.length<=(aR d).length):(l.flatMap λk=>SE (aS (aR d) k).toNat k).length<=2000000:=by
 have:∀l:List (List Int),(l.flatMap λk=>SE (aS (aR d) k).toNat k).length<=l.length*1000:=by
  intro l
  induction l with
  |nil=>simp
  |cons k l ih=>
   have:=qe h k;rw[Tn,Se,Ua,Sj];lia
 have h1:=this l;have h2:=h.ln;rw[fE] at hl;lia
theorem AF {Q:List Int->Prop}(h:∀p∈d,Q p.1):∀p∈aR d,Q p.1:=by
 intro p hp;obtain⟨q,hq,rfl⟩:=So.mp hp;exact h q hq
theorem DY (h:Sm d){xs:List (List Int)}{k:List Int}(hx:xs.length<=2000000):fq (.lst (xs.map aw)) [.lst (SE (aS (aR d) k).toNat (aw k))]=.ok (.non,.lst ((xs++SE (aS (aR d) k).toNat k).map aw)):=by
 have:=qe h k;have sz:R3=16777216:=rfl;rw[H9,h9 (by rw[RX,Ua];lia),Su,List.map_replicate]
theorem AG {l m:List (List Int)}(hm:Sh n m):∀p∈aF [] (dC av (ar l) (ar m)),p.1≠[]:=by
 intro p hp;rcases qd _ _ p hp with z|z
 ·cases z
 ·obtain⟨q,hq,e⟩:=So.mp z;obtain⟨a,_,hq⟩:=UT.mp hq;obtain⟨b,hb,rfl⟩:=So.mp hq;rw[←e];intro y;have l1:=hm.len _ (jG hb);have:(av a.1 b.1).length=0:=by rw[show av a.1 b.1=[] from y];rfl
  unfold av at this;rw[RX] at this;have:=hm.n1;lia
noncomputable def vU (l m:List (List Int)):Dc:=aR (aF [] (dC av (ar l) (ar m)))
theorem jY:∀(l:List Nat) (g:Nat),l.foldl TR g ∣ g/\∀x∈l,l.foldl TR g ∣ x
 | [],g=>⟨Nat.dvd_refl _,λx hx=>by cases hx⟩
 |y::l,g=>by
  obtain⟨a,b⟩:=jY l (TR g y);refine⟨Nat.dvd_trans a (Nat.gcd_dvd_left _ _),λx hx=>?_⟩;rcases Ss.mp hx with rfl|hx
  ·exact Nat.dvd_trans a (Nat.gcd_dvd_right _ _)
  ·exact b x hx
theorem lK (q:List Int×Int)(h:q∈d):cq d ∣ q.2.toNat:=by
 unfold cq;exact (jY _ _).2 _ (Sy (f:=λp:List Int×Int=>p.2.toNat) h)
theorem t8 (h:Sm d):Ps (aR d):=by
 intro p hp;obtain⟨q,hq,rfl⟩:=So.mp hp;have h1:=h.ps q hq;have h3:=fR h;have h4:cq d ∣ q.2.toNat:=lK q hq;show 1<=q.2 / (cq d:Int);obtain⟨t,ht⟩:=h4;have:q.2=(cq d:Int)*t:=by have:=congrArg (λx:Nat=>(x:Int)) ht;simp only[U5] at this;lia
 rw[this,UL _ (by lia)];cases t with
 |zero=>simp at this;lia
 |succ t=>lia
theorem Gj {l m:List (List Int)}(hl:Sh n l)(hm:Sh n m)(h:l.length*m.length<1000):cA [SU l,SU m]=if 24<jQ (vU l m) then .exc "TooMany" .non else .ok (SU (jR (vU l m))):=by
 have s:=zm hl.ne hm.ne h;have hk:=AG (l:=l) hm;obtain⟨o3,o4,o5,o6,o7,e2⟩:=Kn hl hm;have ep:vU l m=aR (aF [] (dC av (ar l) (ar m))):=rfl;generalize aF [] (dC av (ar l) (ar m))=d at s e2 ep hk;have e3:=jo s;have e4:=λρ=>Gi (n5 s) (by rw[fE];exact s.ln) (rY s) (ρ:=ρ);have e0:DU []=.dct [] []:=rfl;rw[e0,CD] at e2;rw[ep];by_cases c:24<jQ (aR d)
 ·rw[h9 c];unfold cA pW;simp only[Pzz,b7,Nat.reduceAdd,Nat.reduceSub,e2,DK,e3,DX,e4,hJ c];rfl
 ·rw[hZ c];have hp:∀p∈aR d,(1:Int)<=p.2:=t8 s;have ln:(aR d).length<64:=by
   have:=ko hp;lia
  have e5:=rX (n5 s) ln (AF (Q:=λk=>k≠[]) hk);obtain⟨o',e6⟩:=Kl (s:=tN) (j:=7) (aR d)
   (λxs o=>[some (SU l),some (SU m),some (DU d),o3,o4,o5,o6,o,some (DU (aR d)),some (.lst (xs.map aw))]) (λl _ hl=>zo s l hl)
   (λxs o k hk hx=>⟨_,rfl,by
    have sz:(1:Nat)<=R3:=by decide
    have g:=qe s k;simp only[tN,Pzz,b7,Nat.reduceAdd,Nat.reduceSub,Ib hk,Kk g.1 (by lia:aS (aR d) k<=100000),DY s hx,sz]⟩) o7
  have sz:((jR (aR d)).map aw).length<=R3:=by
   have:=zo s (bS ((aR d).map (·.1))) (by rw[(bh _).length_eq,RX];exact Sb _);have z:R3=16777216:=rfl;rw[RX,z];unfold jR;lia
  have z0:(0:Nat)<=R3:=by decide
  rw[Tb] at e6;unfold cA pW;simp only[Pzz,b7,Nat.reduceAdd,Nat.reduceSub,e2,DK,e3,DX,e4,hV c,e5,e6,DL,z0,sz];rfl
noncomputable def jH (t b:Int):Int×Int:=(t / (TR t.toNat b.toNat:Nat),b / (TR t.toNat b.toNat:Nat))
noncomputable def rZ (p:Int×Int):U:=.tup [.int p.1,.int p.2]
theorem DZ {p q:Nat}(hq:0<q)(hm:0<m)(hc:TR p q=1)(h:p*m=n*q):n / TR n m=p/\m / TR n m=q:=by
 have d:q ∣ m:=by
  have:q ∣ p*m:=⟨n,by rw[h,Nat.mul_comm]⟩;exact (Nat.Coprime.dvd_of_dvd_mul_left (k:=q) (n:=m) (m:=p) (by rw[Nat.coprime_iff_gcd_eq_one,Nat.gcd_comm];exact hc) this)
 obtain⟨k,rfl⟩:=d;have hk:0<k:=Nat.pos_of_ne_zero λe=>by subst e;simp at hm
 have hn:n=p*k:=by
  have:n*q=(p*k)*q:=by rw[←h,Nat.mul_comm q k,Nat.mul_assoc]
  exact Nat.eq_of_mul_eq_mul_right hq this
 subst hn;have g:TR (p*k) (q*k)=k:=by rw[Nat.gcd_mul_right,hc,Nat.one_mul]
 rw[g];exact⟨Nat.mul_div_cancel _ hk,Nat.mul_div_cancel _ hk⟩
theorem vV {p q b:Int}(hp:0<=p)(hq:0<q)(ht:0<=t)(hb:0<b)(hc:TR p.toNat q.toNat=1)(h:p*b=t*q):jH t b=(p,q):=by
 obtain⟨p,rfl⟩:∃n:Nat,p=n:=⟨p.toNat,by lia⟩;obtain⟨q,rfl⟩:∃n:Nat,q=n:=⟨q.toNat,by lia⟩;obtain⟨t,rfl⟩:∃n:Nat,t=n:=⟨t.toNat,by lia⟩;obtain⟨b,rfl⟩:∃n:Nat,b=n:=⟨b.toNat,by lia⟩;have h':p*b=t*q:=by exact_mod_cast h
 obtain⟨e1,e2⟩:=DZ (by lia) (by lia) (by simpa using hc) h';unfold jH;simp only[SO];rw[←Vn,←Vn,e1,e2]
theorem t9 {b:Int}(ht:0<=t)(hb:0<b):0<=(jH t b).1/\0<(jH t b).2/\(jH t b).1*b=t*(jH t b).2/\TR (jH t b).1.toNat (jH t b).2.toNat=1/\(jH t b).2 ∣ b:=by
 obtain⟨t,rfl⟩:∃n:Nat,t=n:=⟨t.toNat,by lia⟩;obtain⟨b,rfl⟩:∃n:Nat,b=n:=⟨b.toNat,by lia⟩;have GH:0<b:=by lia
 have hg:0<TR t b:=Xs _ GH;have d1:=Nat.gcd_dvd_left t b;have d2:=Nat.gcd_dvd_right t b;unfold jH;simp only[SO];rw[←Vn,←Vn];refine⟨Int.natCast_nonneg _,?_,?_,?_,?_⟩
 ·have:=Nat.div_pos (Nat.le_of_dvd GH d2) hg;lia
 ·have:t / TR t b*b=t*(b / TR t b):=by
   generalize TR t b=g at d1 d2
   calc t / g*b=t / g*(b / g*g):=by rw[Nat.div_mul_cancel d2]
    _=(t / g*g)*(b / g):=by rw[Nat.mul_comm (b / g) g,Nat.mul_assoc]
    _=t*(b / g):=by rw[Nat.div_mul_cancel d1]
  exact_mod_cast this
 ·simp only[SO];exact Nat.coprime_div_gcd_div_gcd hg
 ·exact VO.mpr (Nat.div_dvd_of_dvd d2)
theorem Ko {b t' b':Int}(ht:0<=t)(hb:0<b)(Pn:0<=t')(GH:0<b')(h:t*b'=t'*b):jH t b=jH t' b':=by
 obtain⟨r1,r2,r3,r4,_⟩:=t9 Pn GH;refine vV r1 r2 ht hb r4 ?_;have:((jH t' b').1*b)*b'=(t*(jH t' b').2)*b':=by
  calc ((jH t' b').1*b)*b'=((jH t' b').1*b')*b:=by rw[UR,Int.mul_comm b b',←UR]
   _=(t'*(jH t' b').2)*b:=by rw[r3]
   _=(t'*b)*(jH t' b').2:=by rw[UR,Int.mul_comm _ b,←UR]
   _=(t*b')*(jH t' b').2:=by rw[h]
   _=(t*(jH t' b').2)*b':=by rw[UR,Int.mul_comm b',←UR]
 exact Int.eq_of_mul_eq_mul_right (by lia) this
theorem D0 {v:Int}{g:Nat}(h:0<g)(h2:g<1000000000000):gq (.int v) (.int g)=.ok (.int (v / g)):=by
 have d:decide ((0:Int)<(g:Int))=true:=hJ (by lia);have c:sW v (g:Int)=true:=nV (by lia) (by lia);simp only[tj,d,c,if_true]
theorem AH {b:Int}(hb:0<b)(h2:b<1000000000000):0<TR t.toNat b.toNat/\TR t.toNat b.toNat<1000000000000:=by
 have h1:0<b.toNat:=by lia
 refine⟨Xs _ h1,?_⟩;have:=Nat.gcd_le_right t.toNat h1;lia
theorem D3 {b:Int}(h0:0<=t)(h1:0<b)(h2:b<1000000000000):jB [.int t,.int b]=.ok (rZ (jH t b)):=by
 have e:=DH h0 (by lia) h2;obtain⟨g1,g2⟩:=AH (t:=t) h1 h2;have d:decide (b<0)=false:=hV (by lia);unfold jB tK;simp only[Pzz,b7,Nat.reduceAdd,Nat.reduceSub,e,d,D0 g1 g2];rfl
def qf (D:Int)(g:Int×Int):Prop:=0<=g.1/\0<g.2/\g.2 ∣ D
noncomputable abbrev Mx:=List (List Int×Int×Int)
noncomputable def mx (p:List Int×Int×Int):U:=.tup [aw p.1,rZ p.2]
noncomputable def d6 (m:Mx):U:=.lst (m.map mx)
structure Sf (n:Nat)(ss:List (List Int)):Prop where
 n1:1<=n
 n8:n<=8
 o:∀o∈ss,gx n o
 l1:1<=ss.length
 l2:ss.length<=24
structure NZ (n:Nat)(D:Int)(m:Mx):Prop where
 ne:m≠[]
 nd:(m.map (·.1)).Nodup
 el:∀p∈m,p.1.length=n/\qf D p.2
 ps:∀p∈m,1<=p.2.1
 ln:m.length<=100
 d0:0<D
 d1:D<=1000
theorem lL {o:List Int}(h:gx n o):∀i∈o,0<=i/\i<n:=λi hi=>xi.mp (h.mem_iff.mp hi)
theorem eM {o:List Int}(h:gx n o):o.length=n:=by have:=h.length_eq;rwa [ez] at this
noncomputable def cC (l:List (Int×Int)):Nat:=(l.map λg=>g.2.toNat).foldl Nat.lcm 1
theorem vW:∀(l:List Nat) (x D:Nat),(∀y∈l,y ∣ D)->x ∣ D->l.foldl Nat.lcm x ∣ D
 | [],x,D,_,h=>h
 |y::l,x,D,hl,h=>by
  rw[Uh];exact vW l _ D (λz hz=>hl z (Sn _ hz)) (Nat.lcm_dvd h (hl y Sd))
theorem vX:∀(l:List Nat) (x:Nat),x ∣ l.foldl Nat.lcm x/\∀y∈l,y ∣ l.foldl Nat.lcm x
 | [],x=>⟨Nat.dvd_refl _,λy hy=>by cases hy⟩
 |z::l,x=>by
  rw[Uh];obtain⟨h1,h2⟩:=vX l (Nat.lcm x z);refine⟨Nat.dvd_trans (Nat.dvd_lcm_left x z) h1,λy hy=>?_⟩;rcases Ss.mp hy with rfl|hy
  ·exact Nat.dvd_trans (Nat.dvd_lcm_right x y) h1
  ·exact h2 y hy
theorem zp {D:Int}(hD:0<D){l:List (Int×Int)}(h:∀g∈l,qf D g):cC l ∣ D.toNat:=by
 refine vW _ 1 _ (λy hy=>?_) (Nat.one_dvd _);obtain⟨g,hg,rfl⟩:=So.mp hy;obtain⟨_,g1,g2⟩:=h g hg;have:((g.2.toNat:Nat):Int) ∣ (D.toNat:Nat):=by
  rw[Tf (by lia),Tf (by lia)];exact g2
 exact VO.mp this
theorem n6 {D:Int}(hD:0<D){l:List (Int×Int)}(h:∀g∈l,qf D g):0<cC l:=Nat.pos_of_dvd_of_pos (zp hD h) (by lia)
theorem D4 {D:Int}(hD:0<D){l:List (Int×Int)}(h:∀g∈l,qf D g):(cC l:Int)<=D:=by
 have:=Nat.le_of_dvd (by lia) (zp hD h);lia
theorem D5 {D:Int}{l:List (Int×Int)}(h:∀g∈l,qf D g):∀g∈l,g.2 ∣ (cC l:Int):=λg hg=>by
 have g1:=(h g hg).2.1;have:=(vX (l.map λg=>g.2.toNat) 1).2 g.2.toNat (Sy hg);have:=VO.mpr this
 rwa [Tf (by lia)] at this
theorem ML {D:Int}(hD:0<D)(RU:D<=1000){l:List (Int×Int)}(h:∀g∈l,qf D g):bT [.lst (l.map rZ)]=.ok (.int (cC l)):=by
 obtain⟨ρ,e,o2,rfl⟩:=bL (us:=l.map rZ) (sg:=bH 2) (s:=eA)
  (λi ρ=>∃o2,ρ=[some (.lst (l.map rZ)),some (.int (cC (l.take i))),o2])
  (λi u ρ hu h00=>by
   obtain⟨o2,hr⟩:=h00;subst hr;have hi:i<l.length:=by have:=(R8.mp hu).1;rwa [RX] at this
   rw[R_,R5 hi] at hu;obtain rfl:rZ l[i]=u:=by injection hu
   have hg:=h _ (S6 hi);have ht:∀g∈l.take i,qf D g:=λg hg=>h g (Wu hg);have b0:=n6 hD ht;have b1:=D4 hD ht;have g1:=hg.2.1;have g2:l[i].2<=D:=Int.le_of_dvd hD hg.2.2;obtain⟨y,hy⟩:∃y:Nat,l[i].2=y:=⟨l[i].2.toNat,by lia⟩;have gd:=DH (a:=(cC (l.take i):Int)) (b:=(y:Int)) (by lia) (by lia) (by lia);simp only[SO] at gd;have gp:0<TR (cC (l.take i)) y:=VN _ b0;have gl:TR (cC (l.take i)) y<=cC (l.take i):=Nat.gcd_le_left _ b0;have c1:iW (cC (l.take i):Int) (y:Int)=true:=pb (by lia) (by lia);have st:cC (l.take (i+1))=Nat.lcm (cC (l.take i)) y:=by
    unfold cC;rw[Sw hi,Su,Xr,RY,Tb,Uh,List.foldl_nil,hy,SO]
   have lc:((cC (l.take i):Int)*(y:Int)) / ((TR (cC (l.take i)) y:Nat):Int)=((Nat.lcm (cC (l.take i)) y:Nat):Int):=by
    unfold Nat.lcm;rw[Vn,U5]
   rw[st];refine⟨[some (.lst (l.map rZ)),some (.int (cC (l.take i))),some (rZ l[i])],[some (.lst (l.map rZ)),some (.int (Nat.lcm (cC (l.take i)) y:Nat)),some (rZ l[i])],rfl,.inl ?_,_,rfl⟩;unfold eA;unfold rZ;rw[hy];simp only[Pzz,b7,Nat.reduceAdd,Nat.reduceSub,c1,gd,D0 gp (by lia),lc])
  (ρ:=[some (.lst (l.map rZ)),some (.int 1),none]) ⟨_,rfl⟩
 rw[RX,Th] at e;unfold bT fc;simp only[Pzz,b7,Nat.reduceAdd,Nat.reduceSub,e]
noncomputable def jS (B:Int)(m:Mx):Dc:=m.map λp=>(p.1,p.2.1*(B / p.2.2))
theorem MM {v b:Int}(h:0<b)(h2:b<1000000000000):gq (.int v) (.int b)=.ok (.int (v / b)):=by
 obtain⟨g,rfl⟩:∃g:Nat,b=g:=⟨b.toNat,by lia⟩;exact D0 (by lia) (by lia)
theorem Kp {D:Int}{m:Mx}(hm:NZ n D m){B:Nat}(hB:(B:Int)<=1000){x1 o4 o5 o6:Option U} :
  ∃o4' o5',eR (du 2 (aK (bH 4) (aK (bH 5) cK))) eW (m.map mx) [some (d6 m),x1,some (.int B),some (.dct [] []),o4,o5,o6]=.nx [some (d6 m),x1,some (.int B),some (DU (jS B m)),o4',o5',o6]:=by
 have ln:=hm.ln;have d1:=hm.d1;obtain⟨ρ,e,o4',o5',rfl⟩:=bL (us:=m.map mx) (sg:=du 2 (aK (bH 4) (aK (bH 5) cK))) (s:=eW)
  (λi ρ=>∃o4 o5,ρ=[some (d6 m),x1,some (.int B),some (DU (jS B (m.take i))),o4,o5,o6])
  (λi u ρ hu h00=>by
   obtain⟨o4,o5,hr⟩:=h00;subst hr;have hi:i<m.length:=by have:=(R8.mp hu).1;rwa [RX] at this
   rw[R_,R5 hi] at hu;obtain rfl:mx m[i]=u:=by injection hu
   obtain⟨_,e2,e3,e4⟩:=hm.el _ (S6 hi);have RV:m[i].2.2<=D:=Int.le_of_dvd hm.d0 e4;have ql:(jS B (m.take i)).length<1000000:=by unfold jS;rw[RX,SF];lia
   have q0:0<=(B:Int) / m[i].2.2:=Int.ediv_nonneg (by lia) (by lia);have q1:(B:Int) / m[i].2.2<=B:=Int.ediv_le_self _ (by lia);have c:iW m[i].2.1 ((B:Int) / m[i].2.2)=true:=pb q0 (by lia);have nk:m[i].1∉(jS B (m.take i)).map (·.1):=λz=>by
    unfold jS at z;rw[Sg] at z;obtain⟨p,hp,e⟩:=So.mp z;have nd:=hm.nd;rw[←Ug i m,Su,Xo] at nd;refine nd.2.2 p.1 (Sy hp) m[i].1 (Sy ?_) e;rw[Tj hi];exact Sd
   have sn:jS B (m.take (i+1))=gj (jS B (m.take i)) m[i].1 (m[i].2.1*((B:Int) / m[i].2.2)):=by
    rw[Gg _ nk];unfold jS;rw[Sw hi,Su];rfl
   rw[sn];refine⟨[some (d6 m),x1,some (.int B),some (DU (jS B (m.take i))),some (aw m[i].1),some (rZ m[i].2),o6],[some (d6 m),x1,some (.int B),some (DU (gj (jS B (m.take i)) m[i].1 (m[i].2.1*((B:Int) / m[i].2.2)))),some (aw m[i].1),some (rZ m[i].2),o6],Kj,.inl ?_,_,_,rfl⟩;unfold eW rZ;simp only[Pzz,b7,Nat.reduceAdd,Nat.reduceSub,qb,lG ql,MM e3 (by lia),c])
  (ρ:=[some (d6 m),x1,some (.int B),some (DU []),o4,o5,o6]) ⟨_,_,rfl⟩
 rw[RX,Th] at e;exact⟨o4',o5',e⟩
noncomputable def bI (W C:Dc):List (List Int×Int):=C.flatMap λo=>W.map λr=>(av r.1 o.1,r.2*o.2)
theorem r6 (W C:Dc):(bI W C).length=C.length*W.length:=by
 unfold bI
 induction C with
 |nil=>simp
 |cons o C ih=>rw[Tn,Se,ih,RX,Sj,Nat.add_mul,Nat.one_mul,Nat.add_comm]
theorem MN {W:Dc}(hW:W≠[])(wl:W.length<=100)(hr:∀r∈W,r.1.length=n){o:List Int×Int}(ho:gx n o.1)(n8:n<=8)(RC:0<=o.2)(Qq:o.2<1000){ws:List (List Int×Int)}(wb:ws.length<10000){x1 o5 o6 o7:Option U} :
  ∃o5' o6' o7',jC [some (DU W),x1,some (DU (aF [] ws)),some (aw o.1),some (.int o.2),o5,o6,o7]=.nx [some (DU W),x1,some (DU (aF [] (ws++W.map λr=>(av r.1 o.1,r.2*o.2)))),some (aw o.1),some (.int o.2),o5',o6',o7']:=by
 obtain⟨ρ,e,o5',o6',o7',rfl⟩:=bL (us:=W.map AY) (sg:=du 2 (aK (bH 5) (aK (bH 6) cK))) (s:=mv)
  (λi ρ=>∃o5 o6 o7,ρ=[some (DU W),x1,some (DU (aF [] (ws++(W.take i).map λr=>(av r.1 o.1,r.2*o.2)))),some (aw o.1),some (.int o.2),o5,o6,o7])
  (λi u ρ hu h00=>by
   obtain⟨o5,o6,o7,hr'⟩:=h00;subst hr';have hi:i<W.length:=by have:=(R8.mp hu).1;rwa [RX] at this
   rw[R_,R5 hi] at hu;obtain rfl:AY W[i]=u:=by injection hu
   have el:=hr _ (S6 hi);have lo:=DM (a:=W[i].1) (b:=o.1) (λj hj=>by rw[el];exact lL ho j hj) (by rw[eM ho];lia);have ql:(aF [] (ws++(W.take i).map λr=>(av r.1 o.1,r.2*o.2))).length<1000000:=by
    have:=fP (ws++(W.take i).map λr=>(av r.1 o.1,r.2*o.2));rw[Se,RX,SF] at this;lia
   have c:iW W[i].2 o.2=true:=pb RC (by lia);have sn:aF [] (ws++(W.take (i+1)).map λr=>(av r.1 o.1,r.2*o.2))=jP (aF [] (ws++(W.take i).map λr=>(av r.1 o.1,r.2*o.2))) (av W[i].1 o.1) (W[i].2*o.2):=by
    rw[Sw hi,Su,←TX,RY,Tb,jn]
   rw[sn];refine⟨[some (DU W),x1,some (DU (aF [] (ws++(W.take i).map λr=>(av r.1 o.1,r.2*o.2)))),some (aw o.1),some (.int o.2),some (aw W[i].1),some (.int W[i].2),o7],_,Kj,.inl ?_,some (aw W[i].1),some (.int W[i].2),some (aw (av W[i].1 o.1)),rfl⟩;unfold mv;simp only[Pzz,b7,Nat.reduceAdd,Nat.reduceSub,lo,qb,tY,tZ,t7,c,lG ql];rfl)
  (ρ:=[some (DU W),x1,some (DU (aF [] ws)),some (aw o.1),some (.int o.2),o5,o6,o7]) ⟨o5,o6,o7,by simp⟩
 rw[RX,Th] at e;refine⟨o5',o6',o7',?_⟩;unfold jC;simp only[Pzz,b7,Nat.reduceAdd,Nat.reduceSub,DJ,lH hW,e]
noncomputable def AI (b8:List (List Int))(x:List Int):List (List Int):=if x∈b8 then b8 else b8++[x]
theorem mC:∀(l b8:List (List Int)) (x:List Int),x∈l.foldl AI b8↔x∈b8\/x∈l
 | [],b8,x=>by simp
 |y::l,b8,x=>by
  rw[Uh,mC l (AI b8 y) x,Ss];unfold AI;split
  ·rename_i c;constructor
   ·rintro (h|h)
    ·exact .inl h
    ·exact .inr (.inr h)
   ·rintro (h|h|h)
    ·exact .inl h
    ·rw[h];exact .inl c
    ·exact .inr h
  ·rw[Tz,Ta];constructor
   ·rintro ((h|h)|h)
    ·exact .inl h
    ·exact .inr (.inl h)
    ·exact .inr (.inr h)
   ·rintro (h|h|h)
    ·exact .inl (.inl h)
    ·exact .inl (.inr h)
    ·exact .inr h
theorem D6 (l:List (List Int)):∀p∈ar l,p.2<=l.length:=λp hp=>by
 have:=Dv (bb l).2.1 p hp
 rwa [nZ] at this
theorem xN {l:List (List Int)}(h:1<=l.length):ar l≠[]:=λe=>by
 have:=nZ l;rw[e] at this;unfold jQ at this;simp at this;lia
theorem AJ {W:Dc}(hW:W≠[])(wl:W.length<=100)(hr:∀r∈W,r.1.length=n)(hs:Sf n ss):jk [DU W,SU ss]=.ok (DU (aF [] (bI W (ar ss)))):=by
 have A5:=hs.l2;have cl:=iN ss;obtain⟨cn,cp,_⟩:=bb ss;have co:=fQ (x:=SU ss) (ss:=ss) (lI ss) (by lia);obtain⟨ρ,e,o3,o4,o5,o6,o7,rfl⟩:=bL (us:=(ar ss).map AY) (sg:=du 2 (aK (bH 3) (aK (bH 4) cK))) (s:=jC)
  (λi ρ=>∃o3 o4 o5 o6 o7,ρ=[some (DU W),some (SU ss),some (DU (aF [] (bI W ((ar ss).take i)))),o3,o4,o5,o6,o7])
  (λi u ρ hu h00=>by
   obtain⟨o3,o4,o5,o6,o7,hr'⟩:=h00;subst hr';have hi:i<(ar ss).length:=by have:=(R8.mp hu).1;rwa [RX] at this
   rw[R_,R5 hi] at hu;obtain rfl:AY (ar ss)[i]=u:=by injection hu
   have hm:=S6 hi;have p1:=cp _ hm;have p2:=D6 ss _ hm;have pl:(bI W ((ar ss).take i)).length<10000:=by
    rw[r6,SF];have:min i (ar ss).length*W.length<=24*100:=Wb (by lia) wl;lia
   obtain⟨o5',o6',o7',q⟩:=MN hW wl hr (o:=(ar ss)[i]) (hs.o _ (jG hm)) hs.n8 (by lia) (by lia) pl (x1:=some (SU ss)) (o5:=o5) (o6:=o6) (o7:=o7);have ef:bI W ((ar ss).take (i+1))=bI W ((ar ss).take i)++W.map λr=>(av r.1 (ar ss)[i].1,r.2*(ar ss)[i].2):=by
    unfold bI;rw[Sw hi,WM,Tn,List.flatMap_nil,Tg]
   rw[ef];exact⟨_,_,Kj,.inl q,_,_,_,_,_,rfl⟩)
  (ρ:=[some (DU W),some (SU ss),some (DU []),none,none,none,none,none]) ⟨_,_,_,_,_,rfl⟩
 rw[RX,Th] at e;have e0:DU []=.dct [] []:=rfl;rw[e0] at e;unfold jk pV;simp only[Pzz,b7,Nat.reduceAdd,Nat.reduceSub,co,DJ,lH (xN hs.l1),e]
noncomputable def cS (m:Mx):Dc:=jS (cC (m.map (·.2)):Nat) m
noncomputable def Kq (m:Mx)(ss:List (List Int)):Mx:=(bS ((aF [] (bI (cS m) (ar ss))).map (·.1))).map λk=>(k,jH (aS (aF [] (bI (cS m) (ar ss))) k) ((cC (m.map (·.2)):Nat)*(ss.length:Nat)))
theorem qg:∀(ws:List (List Int×Int)) (d:Dc),(aF d ws).map (·.1)=(ws.map (·.1)).foldl AI (d.map (·.1))
 | [],d=>rfl
 |w::ws,d=>by
  show (aF (jP d w.1 w.2) ws).map (·.1)=_;rw[qg ws,RY,Uh];congr 1;unfold jP;rw[lA];rfl
theorem qh {D:Int}{m:Mx}(hm:NZ n D m)(hs:Sf n ss):cS m≠[]/\(cS m).length<=100/\(∀r∈cS m,r.1.length=n/\1<=r.2)/\(∀p∈bI (cS m) (ar ss),1<=p.2/\p.1.length=n):=by
 have fr:∀g∈m.map (·.2),qf D g:=λg hg=>by
  obtain⟨p,hp,rfl⟩:=So.mp hg;exact (hm.el p hp).2
 have w:∀r∈cS m,r.1.length=n/\1<=r.2:=λr hr=>by
  unfold cS jS at hr;obtain⟨p,hp,rfl⟩:=So.mp hr;refine⟨(hm.el p hp).1,?_⟩;have a1:=hm.ps p hp;have b0:=(hm.el p hp).2.2.1;have dv:=D5 fr p.2 (Sy hp);have bp:=n6 hm.d0 fr;have:1<=(cC (m.map (·.2)):Int) / p.2.2:=by
   have:=Int.le_of_dvd (by lia) dv;exact Int.le_ediv_of_mul_le b0 (by lia)
  calc (1:Int)=1*1:=rfl
   _<=p.2.1*((cC (m.map (·.2)):Int) / p.2.2):=Xh a1 this (by decide) (by lia)
 refine⟨λe=>hm.ne ?_,?_,w,λp hp=>?_⟩
 ·unfold cS jS at e;exact WN.mp e
 ·unfold cS jS;rw[RX];exact hm.ln
 ·unfold bI at hp;obtain⟨o,ho,hp⟩:=UT.mp hp;obtain⟨r,hr,rfl⟩:=So.mp hp;have o1:=(bb ss).2.1 o ho;have r1:=(w r hr).2;refine⟨?_,?_⟩
  ·calc (1:Int)=1*1:=rfl
    _<=r.2*o.2:=Xh r1 o1 (by decide) (by lia)
  ·show (av r.1 o.1).length=n;unfold av;rw[RX];exact eM (hs.o _ (jG ho))
theorem vY {D:Int}{m:Mx}(hm:NZ n D m)(hs:Sf n ss)(N7:(aF [] (bI (cS m) (ar ss))).length<64):aZ [d6 m,SU ss]=.ok (d6 (Kq m ss)):=by
 have fr:∀g∈m.map (·.2),qf D g:=λg hg=>by
  obtain⟨p,hp,rfl⟩:=So.mp hg;exact (hm.el p hp).2
 have bp:=n6 hm.d0 fr;have bl:=D4 hm.d0 fr;have d1:=hm.d1;have cb:=ML hm.d0 hm.d1 fr;obtain⟨w1,w2,w3,w4⟩:=qh hm hs;have sp:=AJ w1 w2 (λr hr=>(w3 r hr).1) hs;obtain⟨gn,gp,_⟩:=fD (bI (cS m) (ar ss)) (d:=[]) gJ.1 gJ.2 λp hp=>(w4 p hp).1;have gl:(aF [] (bI (cS m) (ar ss))).length<=2400:=by
  have h1:=fP (bI (cS m) (ar ss));rw[r6] at h1;have h2:(ar ss).length*(cS m).length<=24*100:=Wb (Sz (iN ss) hs.l2) w2;lia
 have gk:∀k∈(aF [] (bI (cS m) (ar ss))).map (·.1),k.length=n:=λk hk=>by
  rw[qg] at hk;rcases (mC _ _ _).mp hk with z|z
  ·cases z
  ·obtain⟨p,hp,rfl⟩:=So.mp z;exact (w4 p hp).2
 have RD:aF [] (bI (cS m) (ar ss))≠[]:=λe=>by
  have h0:((bI (cS m) (ar ss)).map (·.1)).foldl AI []=[]:=by rw[←Tb (f:=λp:List Int×Int=>p.1),←qg,e]
  obtain⟨r,W',ew⟩:∃r W',cS m=r::W':=by
   cases hq:cS m with
   |nil=>exact absurd hq w1
   |cons r W'=>exact⟨r,W',rfl⟩
  obtain⟨o,C',ec⟩:∃o C',ar ss=o::C':=by
   cases hq:ar ss with
   |nil=>exact absurd hq (xN hs.l1)
   |cons r W'=>exact⟨r,W',rfl⟩
  have:av r.1 o.1∈((bI (cS m) (ar ss)).map (·.1)).foldl AI []:=(mC _ _ _).mpr (.inr (by
   unfold bI;rw[ec,ew,Tn,Su,RY,RY];exact Vc _ Sd))
  rw[h0] at this;cases this
 have so:=rX RD N7 λp hp e=>by
  have:=gk p.1 (Sy hp);rw[e] at this;have:=hs.n1;simp at *;lia
 obtain⟨o4,o5,wo⟩:=Kp hm (B:=cC (m.map (·.2))) (by lia) (x1:=some (SU ss)) (o4:=none) (o5:=none) (o6:=none);have D1:0<((cC (m.map (·.2)):Nat):Int)*(ss.length:Nat):=Int.mul_pos (by lia) (by have:=hs.l1;lia);have D2:((cC (m.map (·.2)):Nat):Int)*(ss.length:Nat)<=1000*24:=Xh (by lia) (by have:=hs.l2;lia) (by lia) (by decide);have cm:iW ((cC (m.map (·.2)):Nat):Int) ((ss.length:Nat):Int)=true:=pb (by lia) (by have:=hs.l2;lia);have l1:=d5 (f:=wu [none,none] (du 2 (aK (bH 0) (aK (bH 1) cK))) dA (af 1) [some (d6 m),some (SU ss),none,none,none,none,none]) (c:=mx) (g:=λp=>rZ p.2) (xs:=m) λp hp=>by
  have:wu [none,none] (du 2 (aK (bH 0) (aK (bH 1) cK))) dA (af 1) [some (d6 m),some (SU ss),none,none,none,none,none] (mx p)=.ok (some (rZ p.2)):=by
   unfold mx;simp only[Pzz,b7,Nat.reduceAdd,Nat.reduceSub,Kj]
  exact this
 have el:=d5 (f:=wu [none,some 6,some 2,some 1] (bH 0) dA (cE (ae (af 0) (ae (dI 2 jB (ae (a9 uU (af 1) (af 0)) (ae (a9 fm (af 2) (jM l8 (ae (af 3) ak))) ak))) ak))) [some (d6 m),some (SU ss),some (.int (cC (m.map (·.2)):Nat)),some (DU (cS m)),o4,o5,some (DU (aF [] (bI (cS m) (ar ss))))]) (c:=aw) (g:=λk=>mx (k,jH (aS (aF [] (bI (cS m) (ar ss))) k) ((cC (m.map (·.2)):Nat)*(ss.length:Nat)))) (xs:=bS ((aF [] (bI (cS m) (ar ss))).map (·.1))) λk hk=>by
  have Qr:=(bh _).mem_iff.mp hk;have ra:=D3 (t:=aS (aF [] (bI (cS m) (ar ss))) k) (bV gp k) D1 (by lia);have lS:l8 [SU ss]=.ok (.int (ss.length:Nat)):=by unfold SU;rw[xh,RX]
  simp only[Pzz,b7,Nat.reduceAdd,Nat.reduceSub,Ib Qr,lS,cm,ra];rfl
 have sz:((bS ((aF [] (bI (cS m) (ar ss))).map (·.1))).map λk=>mx (k,jH (aS (aF [] (bI (cS m) (ar ss))) k) ((cC (m.map (·.2)):Nat)*(ss.length:Nat)))).length<=R3:=by
  have:R3=16777216:=rfl;rw[RX,(bh _).length_eq,RX];lia
 have RE:(m.map λp=>rZ p.2).length<=R3:=by
  have:R3=16777216:=rfl;have:=hm.ln;rw[RX];lia
 have RF:bT [.lst (m.map λp=>rZ p.2)]=.ok (.int (cC (m.map (·.2)):Nat)):=by rw[Sg] at cb;exact cb
 have sb:uY (d6 m) [some (d6 m),some (SU ss),none,none,none,none,none]=.ok (m.map mx,[some (d6 m),some (SU ss),none,none,none,none,none]):=tf;have RG:uY (d6 m) [some (d6 m),some (SU ss),some (.int (cC (m.map (·.2)):Nat)),some (.dct [] []),none,none,none]=.ok (m.map mx,[some (d6 m),some (SU ss),some (.int (cC (m.map (·.2)):Nat)),some (.dct [] []),none,none,none]):=tf;unfold aZ kl;have RH:eR (du 2 (aK (bH 4) (aK (bH 5) cK))) eW (m.map mx) [some (d6 m),some (SU ss),some (.int (cC (m.map (·.2)):Nat)),some (.dct [] []),none,none,none]=.nx [some (d6 m),some (SU ss),some (.int (cC (m.map (·.2)):Nat)),some (DU (cS m)),o4,o5,none]:=wo;simp only[Pzz,b7,Nat.reduceAdd,Nat.reduceSub,sb,RG,l1,RE,RF,RH,DK,sp,so,el,sz,DL];unfold d6 Kq;rw[Sg];rfl
theorem n9 (p:Ps d){k:Rw}:k∈d.map (·.1)↔0<aS d k:=by
 constructor
 ·intro h;have:=p _ (eI h);lia
 ·intro h;by_cases c:k∈d.map (·.1)
  ·exact c
  ·rw[dB c] at h;lia
theorem zq {e:Dc}(nd:Nd d)(ne:Nd e)(pd:Ps d)(pe:Ps e){s t:Nat}(hs:0<s)(ht:0<t)(h:∀f,(s:Int)*bR d f=t*bR e f) :
  (∀k,(s:Int)*aS d k=t*aS e k)/\(d.map (·.1)).Perm (e.map (·.1)):=by
 have g:∀k,(s:Int)*aS d k=t*aS e k:=λk=>by
  rw[←jl nd k,←jl ne k];exact h _
 refine⟨g,?_⟩;refine (WV nd ne).mpr λk=>?_;rw[n9 pd,n9 pe];have AQ:(0:Int)<s:=by lia
 have Pn:(0:Int)<t:=by lia
 have:=g k;constructor
 ·intro z;have:0<(t:Int)*aS e k:=by rw[←this];exact Int.mul_pos AQ z
  exact Xt this (by lia)
 ·intro z;have:0<(s:Int)*aS d k:=by rw[this];exact Int.mul_pos Pn z
  exact Xt this (by lia)
noncomputable def cn (d:Dc)(b:Int):Mx:=(bS (d.map (·.1))).map λk=>(k,jH (aS d k) b)
theorem Ie {e:Dc}(nd:Nd d)(ne:Nd e)(pd:Ps d)(pe:Ps e){s t:Nat}(hs:0<s)(ht:0<t)(h:∀f,(s:Int)*bR d f=t*bR e f){b c:Int}(hb:0<b)(hc:0<c)(RI:(s:Int)*b=t*c):cn d b=cn e c:=by
 obtain⟨g,p⟩:=zq nd ne pd pe hs ht h;unfold cn;rw[jW p];apply Si;intro k _;have a1:=bV pd k;have a2:=bV pe k;have e:jH (aS d k) b=jH (aS e k) c:=by
  refine Ko a1 hb a2 hc ?_;have g':=g k;have zB:(s:Int)*t≠0:=Int.mul_ne_zero (by lia) (by lia);refine Xi zB ?_
  calc (s:Int)*t*(aS d k*c)=(s*aS d k)*(t*c):=by ac_rfl
   _=(t*aS e k)*(s*b):=by rw[g',←RI]
   _=s*t*(aS e k*b):=by ac_rfl
 rw[e]
theorem iO (s:Nat):∀(l:List Nat) (g:Nat),(l.map λx=>s*x).foldl TR (s*g)=s*l.foldl TR g
 | [],g=>rfl
 |x::l,g=>by rw[RY,Uh,Nat.gcd_mul_left,iO s l,Uh]
theorem qi {e:Dc}(nd:Nd d)(ne:Nd e)(sd:Sm d)(pe:Ps e){s t:Nat}(hs:0<s)(ht:0<t)(h:∀f,(s:Int)*bR d f=t*bR e f):(aR d).Perm (aR e):=by
 have pd:Ps d:=sd.ps;obtain⟨g,p⟩:=zq nd ne pd pe hs ht h;have pm:(d.map λx=>(x.1,aS e x.1)).Perm e:=by
  have e1:(e.map λx=>(x.1,aS e x.1))=e:=by
   conv=>rhs;rw[←V7 e]
   apply Si;intro x hx;rw[d4 ne hx];rfl
  have:=p.map λk=>(k,aS e k);rw[Sg,Sg] at this;exact (this.trans (by show (e.map λx=>(x.1,aS e x.1)).Perm e;rw[e1]))
 refine List.Perm.trans ?_ (p8 pm);have hg:s*cq d=t*cq (d.map λx=>(x.1,aS e x.1)):=by
  unfold cq;rw[←iO,←iO,Sg,Sg,Sg,Nat.mul_zero,Nat.mul_zero];congr 1;apply Si;intro x hx;show s*x.2.toNat=t*(aS e x.1).toNat;have a:=g x.1;rw[d4 nd hx] at a;have b:=pd x hx;have c:=bV pe x.1;have:((s*x.2.toNat:Nat):Int)=((t*(aS e x.1).toNat:Nat):Int):=by
   rw[U5,U5,Tf (by lia),Tf c];exact a
  exact Int.ofNat.inj this
 have g0:=fR sd;generalize hG:cq (d.map λx=>(x.1,aS e x.1))=G at hg;unfold aR;rw[Sg,hG];have:(d.map λp=>(p.1,p.2 / (cq d:Int)))=d.map ((λp=>(p.1,p.2 / (G:Int)))∘λx=>(x.1,aS e x.1)):=by
  apply Si;intro x hx;show (x.1,x.2 / (cq d:Int))=(x.1,aS e x.1 / (G:Int));have a:=g x.1;rw[d4 nd hx] at a;have G0:0<G:=by
   rcases Nat.eq_zero_or_pos G with z|z
   ·rw[z,Nat.mul_zero] at hg;have:=Nat.mul_pos hs g0;lia
   ·exact z
  have RJ:(s:Int)*(cq d:Int)=t*(G:Int):=by have:=congrArg (λx:Nat=>(x:Int)) hg;simpa only[U5] using this
  have dv:(cq d:Int) ∣ x.2:=by
   have q:=lK x hx;have:=pd x hx;have z:=Int.ofNat_dvd.mpr q
   rwa [Tf (by lia)] at z
  have dw:(G:Int) ∣ aS e x.1:=by
   have q:=lK (d:=d.map λx=>(x.1,aS e x.1)) (x.1,aS e x.1) (Sy (f:=λx:Rw×Int=>(x.1,aS e x.1)) hx);rw[hG] at q;have z:=Int.ofNat_dvd.mpr q
   rwa [Tf (bV pe x.1)] at z
  obtain⟨u,hu⟩:=dv;obtain⟨v,hv⟩:=dw;rw[hu,hv,UL _ (by lia),UL _ (by lia)];rw[hu,hv] at a;have:(s:Int)*(cq d:Int)*u=s*cq d*v:=by
   calc (s:Int)*(cq d:Int)*u=s*(cq d*u):=by ac_rfl
    _=t*(G*v):=a
    _=(t*G)*v:=by ac_rfl
    _=s*cq d*v:=by rw[←RJ]
  rw[Xi (Int.mul_ne_zero (by lia) (by lia)) this]
 rw[this]
noncomputable def S (l:List Rw)(f:Rw->Int):Int:=(l.map f).sum
theorem g9 (l m:List Rw)(f:Rw->Int):S (aX av l m) f=S l λa=>S m λb=>f (av a b):=by
 unfold S aX;rw[g8];congr 1;apply Si;intro a _;rw[Sg];rfl
theorem qj (k:Int)(l:List Rw)(f:Rw->Int):k*S l f=S l λx=>k*f x:=by
 unfold S;rw[←iM,Sg];rfl
theorem gy {f g:Rw->Int}(h:∀x∈l,f x=g x):S l f=S l g:=by
 unfold S;rw[Si h]
theorem MO (l:List Rw)(f g:Rw->Int):S l (λx=>f x+g x)=S l f+S l g:=by
 unfold S
 induction l with
 |nil=>rfl
 |cons a l ih=>rw[RY,SA,RY,SA,RY,SA,ih];lia
theorem Kr (l m:List Rw)(g:Rw->Rw->Int):(S l λa=>S m λb=>g a b)=S m λb=>S l λa=>g a b:=by
 induction l with
 |nil=>
  show (0:Int)=S m λ_=>0;unfold S
  induction m with
  |nil=>rfl
  |cons b m ih=>rw[RY,SA,←ih];rfl
 |cons a l ih=>
  have e1:(S (a::l) λa=>S m λb=>g a b)=(S m λb=>g a b)+S l λa=>S m λb=>g a b:=by unfold S;rw[RY,SA]
  have e2:(S m λb=>S (a::l) λa=>g a b)=S m λb=>g a b+S l λa=>g a b:=gy λb _=>by unfold S;rw[RY,SA]
  rw[e1,ih,e2,MO]
theorem zu (l:List Rw):S l (λ_=>1)=l.length:=by
 unfold S
 induction l with
 |nil=>rfl
 |cons a l ih=>rw[RY,SA,ih,Sj];lia
theorem kq (l:List Rw)(f:Rw->Int):bR (ar l) f=S l f:=(bb l).2.2 f
noncomputable def bK (l:List Rw):Mx:=cn (ar l) l.length
theorem vZ {m:List Rw}(hl:l≠[])(hm:m≠[]){s t:Nat}(hs:0<s)(ht:0<t)(h:∀f,(s:Int)*S l f=t*S m f):bK l=bK m:=by
 have a:=SV.mpr hl;have b:=SV.mpr hm;refine Ie (bb l).1 (bb m).1 (bb l).2.1 (bb m).2.1 hs ht (λf=>by rw[kq,kq];exact h f) (by lia) (by lia) ?_;have:=h λ_=>1
 rwa [zu,zu] at this
theorem v7 (d:Dc)(n:Nd d)(f:Rw->Int):((bS (d.map (·.1))).map λk=>aS d k*f k).sum=bR d f:=by
 rw[lC ((bh _).map _),Sg];unfold bR;congr 1;apply Si;intro q hq;show aS d q.1*f q.1=q.2*f q.1;rw[d4 n hq]
theorem jq {k:Rw}:k∈(ar l).map (·.1)↔k∈l:=by
 constructor
 ·intro h;exact jG (eI h)
 ·intro h;rw[n9 (bb l).2.1,←jl (bb l).1,kq];unfold S
  induction l with
  |nil=>cases h
  |cons a l ih=>
   rw[RY,SA];have nn:0<=(l.map λx=>if x=k then (1:Int) else 0).sum:=by
    have:∀l:List Rw,0<=(l.map λx=>if x=k then (1:Int) else 0).sum:=by
     intro l
     induction l with
     |nil=>exact Int.le_refl _
     |cons a l ih=>rw[RY,SA];split<;>lia
    exact this l
   rcases Ss.mp h with rfl|h
   ·rw[h9 rfl];lia
   ·have:=ih h;split<;>lia
theorem v9 (hL:L≠[])(hn:∀r∈L,r.length=n)(h:L.length<=100):NZ n L.length (bK L):=by
 have l0:=SV.mpr hL;have sp:=bh ((ar L).map (·.1));have e1:(bK L).map (·.1)=bS ((ar L).map (·.1)):=by
  unfold bK cn;rw[Sg];exact V7 _
 have el:∀p∈bK L,p.1∈L/\p.2=jH (aS (ar L) p.1) L.length:=λp hp=>by
  unfold bK cn at hp;obtain⟨k,hk,rfl⟩:=So.mp hp;exact⟨jq.mp (sp.mem_iff.mp hk),rfl⟩
 have lc:(bK L).length<=L.length:=by
  unfold bK cn;rw[RX,sp.length_eq,RX];exact iN L
 refine⟨λz=>?_,?_,λp hp=>?_,λp hp=>?_,by lia,by lia,by lia⟩
 ·have:bS ((ar L).map (·.1))=[]:=by rw[←e1,z];rfl
  rw[this] at sp;have z2:=sp.symm.eq_nil;rw[WN] at z2;exact xN l0 z2
 ·rw[e1];exact sp.nodup_iff.mpr (bb L).1
 ·obtain⟨a,b⟩:=el p hp;have r:=t9 (t:=aS (ar L) p.1) (b:=L.length) (bV (bb L).2.1 _) (by lia);rw[←b] at r;exact⟨hn _ a,r.1,r.2.1,r.2.2.2.2⟩
 ·obtain⟨a,b⟩:=el p hp;have c:=(n9 (bb L).2.1).mp (jq.mpr a);have r:=t9 (t:=aS (ar L) p.1) (b:=L.length) (by lia) (by lia);rw[←b] at r;have z:0<p.2.1*(L.length:Int):=by rw[r.2.2.1];exact Int.mul_pos c r.2.1
  rcases Int.lt_or_le 0 p.2.1 with y|y
  ·lia
  ·have:=Wl y (show (0:Int)<=L.length by lia);rw[Int.zero_mul] at this;lia
theorem MP (hL:L≠[])(hn:∀r∈L,r.length=n)(h:L.length<=100)(f:Rw->Int) :
  (L.length:Int)*bR (cS (bK L)) f=(cC ((bK L).map (·.2)):Nat)*S L f:=by
 have ok:=v9 hL hn h;have fr:∀g∈(bK L).map (·.2),qf L.length g:=λg hg=>by
  obtain⟨p,hp,rfl⟩:=So.mp hg;exact (ok.el p hp).2
 have l0:=SV.mpr hL;rw[←kq,←v7 _ (bb L).1,←iM,Sg];unfold bR cS jS;rw[Sg,←iM,Sg];have dv:=D5 fr;generalize cC ((bK L).map (·.2))=B at dv ⊢;unfold bK cn at dv ⊢;rw[Sg];congr 1;apply Si;intro k hk;show (L.length:Int)*((jH (aS (ar L) k) L.length).1*((B:Int) / (jH (aS (ar L) k) L.length).2)*f k)=B*(aS (ar L) k*f k);have r:=t9 (t:=aS (ar L) k) (b:=L.length) (bV (bb L).2.1 _) (by lia);have dk:=dv (jH (aS (ar L) k) L.length) (So.mpr ⟨(k,_),So.mpr ⟨k,hk,rfl⟩,rfl⟩);obtain⟨q,hq⟩:=dk;have r2:=r.2.1;have r3:=r.2.2.1;generalize jH (aS (ar L) k) L.length=g at hq r2 r3 ⊢;rw[hq,UL _ (by lia)]
 calc (L.length:Int)*(g.1*q*f k)=(g.1*L.length)*(q*f k):=by ac_rfl
  _=aS (ar L) k*g.2*(q*f k):=by rw[r3]
  _=g.2*q*(aS (ar L) k*f k):=by ac_rfl
theorem AK (W C:Dc)(f:Rw->Int):((bI W C).map λp=>p.2*f p.1).sum=bR C λo=>bR W λr=>f (av r o):=by
 unfold bI;rw[g8];unfold bR;congr 1;apply Si;intro o _;rw[Sg,←iM,Sg];congr 1;apply Si;intro r _;show r.2*o.2*f (av r.1 o.1)=o.2*(r.2*f (av r.1 o.1))
 ac_rfl
theorem g_ (l m:List (List Int)):(aX av l m).length=l.length*m.length:=by
 unfold aX
 induction l with
 |nil=>simp
 |cons a l ih=>rw[Tn,Se,ih,RX,Sj,Nat.succ_mul,Nat.add_comm]
theorem n_ {m:List Rw}(hl:l≠[])(hm:m≠[]):aX av l m≠[]:=by
 rw[←SV,g_];exact Nat.mul_pos (SV.mpr hl) (SV.mpr hm)
theorem qk {ss:List Rw}(hL:L≠[])(hn:∀r∈L,r.length=n)(h:L.length<=100)(hs:Sf n ss)(N7:(ar (aX av L ss)).length<64) :
  aZ [d6 (bK L),SU ss]=.ok (d6 (bK (aX av L ss))):=by
 have ok:=v9 hL hn h;have l0:=SV.mpr hL;have sl:=hs.l1;obtain⟨w1,w2,w3,w4⟩:=qh ok hs;obtain⟨gn,gp,gs⟩:=fD (bI (cS (bK L)) (ar ss)) (d:=[]) gJ.1 gJ.2 λp hp=>(w4 p hp).1;have fr:∀g∈(bK L).map (·.2),qf L.length g:=λg hg=>by
  obtain⟨p,hp,rfl⟩:=So.mp hg;exact (ok.el p hp).2
 have bp:=n6 ok.d0 fr;have hf:∀f,((L.length:Nat):Int)*bR (aF [] (bI (cS (bK L)) (ar ss))) f=((cC ((bK L).map (·.2)):Nat):Int)*bR (ar (aX av L ss)) f:=λf=>by
  have z:bR [] f=0:=rfl;rw[gs,z,Int.zero_add,AK,kq,kq,g9,Kr,qj,qj];exact gy λo _=>MP hL hn h _
 have an:=bb (aX av L ss);obtain⟨_,pk⟩:=zq gn an.1 gp an.2.1 l0 bp hf;have lk:(aF [] (bI (cS (bK L)) (ar ss))).length=(ar (aX av L ss)).length:=by
  have:=pk.length_eq
  rwa [RX,RX] at this
 rw[vY ok hs (by rw[lk];exact N7)];have:Kq (bK L) ss=bK (aX av L ss):=by
  show cn (aF [] (bI (cS (bK L)) (ar ss))) ((cC ((bK L).map (·.2)):Nat)*(ss.length:Nat))=_;refine Ie gn an.1 gp an.2.1 l0 bp hf (Int.mul_pos (by lia) (by lia)) ?_ ?_
  ·rw[g_];have:=Nat.mul_pos l0 (show 0<ss.length by lia);lia
  ·rw[g_,U5];ac_rfl
 rw[this]
theorem AL (r:Rw):bK [r]=[(r,(1,1))]:=by
 have e:ar [r]=[(r,1)]:=by
  show gj [] r (aS [] r+1)=_;rfl
 have s:bS [r]=[r]:=List.perm_singleton.mp (bh [r]);unfold bK cn;rw[e];show (bS [r]).map _=_;rw[s];show [(r,jH (aS [(r,1)] r) 1)]=_;rw[eG,h9 rfl];show [(r,jH 1 1)]=_;exact congrArg (λz=>[(r,z)]) (vV (by decide) (by decide) (by decide) (by decide) (by decide) (by decide))
noncomputable def Fl (l:List Rw):List Rw:=jR (aR (ar l))
theorem Gk (f:Rw->Int)(k:Rw)(m:Nat):((SE m k).map f).sum=(m:Int)*f k:=by
 induction m with
 |zero=>simp
 |succ m ih=>rw[Tv,RY,SA,ih,Int.natCast_add,Int.add_mul];lia
theorem MQ (n:Nd d)(p:Ps d)(f:Rw->Int):S (jR d) f=bR d f:=by
 unfold S jR;rw[g8,←v7 d n];congr 1;apply Si;intro k _;rw[Gk,Tf (bV p k)]
theorem qm (h:Sm d)(f:Rw->Int):(cq d:Int)*bR (aR d) f=bR d f:=by
 unfold bR aR;rw[Sg,←iM,Sg];congr 1;apply Si;intro q hq;show (cq d:Int)*(q.2 / (cq d:Int)*f q.1)=q.2*f q.1;have dv:=Int.ofNat_dvd.mpr (lK q hq);have:=h.ps q hq;rw[Tf (by lia)] at dv;rw[←UR,Int.mul_ediv_cancel' dv]
theorem D7 (h:l≠[])(hl:l.length<1000)(f:Rw->Int):(cq (ar l):Int)*S (Fl l) f=S l f:=by
 have s:=fS h hl;unfold Fl;rw[MQ (iL s.nd) (t8 s),qm s,kq]
theorem D8 (h:l≠[])(hl:l.length<1000):0<cq (ar l):=fR (fS h hl)
theorem MR {m:List Rw}(hl:l≠[])(A5:l.length<1000){s t:Nat}(hs:0<s)(ht:0<t)(h:∀f,(s:Int)*S l f=t*S m f):Fl l=Fl m:=
 rS (qi (bb l).1 (bb m).1 (fS hl A5) (bb m).2.1 hs ht λf=>by rw[kq,kq];exact h f) (iL (bb l).1)
theorem D9 {x:Rw}(h:x∈Fl l):x∈l:=by
 unfold Fl jR at h;obtain⟨k,hk,hx⟩:=UT.mp h;rw[Vz hx];have:=(bh _).mem_iff.mp hk;unfold aR at this;rw[Sg] at this;exact jq.mp this
theorem D_ (h:l≠[])(hl:l.length<1000):(cq (ar l):Int)*(Fl l).length=l.length:=by
 have:=D7 h hl λ_=>1
 rwa [zu,zu] at this
theorem Ig (h:l≠[])(hl:l.length<1000):Fl l≠[]:=λe=>by
 have:=D_ h hl;rw[e,VG] at this;have:=SV.mpr h;lia
theorem MS (h:l≠[])(hl:l.length<1000):(Fl l).length<=l.length:=by
 have a:=D_ h hl;have b:=D8 h hl;have:(1:Int)*(Fl l).length<=(cq (ar l):Int)*(Fl l).length:=Wl (by lia) (by lia);lia
theorem Ks (d:Dc):JZ (jR d):=by
 unfold jR JZ;rw[List.pairwise_flatMap];have up:List.Pairwise (λx y=>ft y x=false) (bS (d.map (·.1))):=gT _;refine⟨λk _=>List.pairwise_replicate.mpr (.inr (jh k)),up.imp λ{a b} h x hx y hy=>?_⟩;rw[Vz hx,Vz hy];exact h
theorem Gn (l:List Rw):bS (Fl l)=Fl l:=nW (bh _) (gT _) (Ks _)
theorem t_ {l m:List (List Int)}(hl:Sh n l)(hm:Sh n m)(h:l.length*m.length<1000) :
  cA [SU l,SU m]=if 24<(Fl (aX av l m)).length then .exc "TooMany" .non else .ok (SU (Fl (aX av l m))):=by
 have p:=p8 (rW av l m);have e1:jR (vU l m)=Fl (aX av l m):=rS p (iL (zm hl.ne hm.ne h).nd);have s:=fS (n_ hl.ne hm.ne) (by rw[g_];exact h);have e2:jQ (vU l m)=((Fl (aX av l m)).length:Nat):=by
  have:=F8 (iL s.nd) λq hq=>by have:=t8 s q hq;lia
  exact (rR p).trans this.symm
 rw[Gj hl hm h,e1,e2];by_cases c:24<(Fl (aX av l m)).length
 ·rw[h9 c,h9 (by lia)]
 ·rw[hZ c,hZ (by lia)]
theorem AM {a b c:Rw}(hb:b.length=n)(hc:∀i∈c,0<=i/\i<n):av (av a b) c=av a (av b c):=by
 unfold av;rw[Sg];refine Si λi hi=>?_;have:=hc i hi;have hl:i.toNat<b.length:=by lia
 show (b.map _).getD i.toNat 0=a.getD (b.getD i.toNat 0).toNat 0;rw[S3,S3 (l:=b),R_,R5 hl];rfl
theorem Gp {a:Rw}(h:gx n a):av (aB n) a=a:=by
 unfold av;have:a.map (λi=>(aB n).getD i.toNat 0)=a.map id:=Si λi hi=>by
  have:=lL h i hi;unfold aB;rw[S3,R_,WL (by lia)];show ((i.toNat:Nat):Int)=i;lia
 rw[this,V7]
theorem zv {a:Rw}(h:a.length=n):av a (aB n)=a:=by
 unfold av aB;rw[Sg];refine List.ext_getElem (by rw[RX,Ti,h]) λi h1 h2=>?_;rw[List.getElem_map,List.getElem_range];show a.getD ((i:Int)).toNat 0=_;rw[SO,S3,R5 h2];rfl
theorem Gq {a b:Rw}(ha:gx n a)(hb:gx n b):gx n (av a b):=by
 have:(av a b).Perm (av a (aB n)):=List.Perm.map _ hb;rw[zv (eM ha)] at this;exact this.trans ha
theorem Sf.sh (h:Sf n l):Sh n l:=⟨SV.mp (by have:=h.l1;lia),by have:=h.l2;lia,h.n1,h.n8,λa ha=>eM (h.o a ha),λa ha=>lL (h.o a ha)⟩
theorem Sf.mul {m:List Rw}(h:Sf n l)(k:Sf n m):l.length*m.length<1000:=VF (Wb h.l2 k.l2) (by decide)
theorem Sf.ne (h:Sf n l):l≠[]:=h.sh.ne
theorem Sf.all {m:List Rw}(h:Sf n l)(k:Sf n m):aX av l m≠[]/\(aX av l m).length<1000/\∀o∈aX av l m,gx n o:=by
 refine⟨n_ h.ne k.ne,by rw[g_];exact h.mul k,λo ho=>?_⟩;unfold aX at ho;obtain⟨a,ha,ho⟩:=UT.mp ho;obtain⟨b,hb,rfl⟩:=So.mp ho;exact Gq (h.o a ha) (k.o b hb)
theorem Sf.Fl {m:List Rw}(h:Sf n l)(k:Sf n m)(c:¬24<(Fl (aX av l m)).length):Sf n (Fl (aX av l m)):=by
 obtain⟨a,b,o⟩:=h.all k;exact⟨h.n1,h.n8,λx hx=>o x (D9 hx),SV.mpr (Ig a b),by lia⟩
theorem qo {m:List Rw}(h:Sf n l)(k:Sf n m):az [SU l,SU m]=.ok .non\/(az [SU l,SU m]=.ok (SU (Fl (aX av l m)))/\Sf n (Fl (aX av l m))):=by
 have e:=t_ h.sh k.sh (h.mul k);have e0:az [SU l,SU m]=match cA [SU l,SU m] with
   | .ok z=>.ok z
   | .exc _ _=>.ok .non
   |_=>.stk:=rfl
 by_cases c:24<(Fl (aX av l m)).length
 ·rw[h9 c] at e;rw[e0,e];exact .inl rfl
 ·rw[hZ c] at e;rw[e0,e];exact .inr ⟨rfl,h.Fl k c⟩
theorem zw {a b c:List Rw}(hb:∀y∈b,y.length=n)(hc:∀z∈c,∀i∈z,0<=i/\i<n)(f:Rw->Int):S (aX av (aX av a b) c) f=S (aX av a (aX av b c)) f:=by
 rw[g9,g9,g9];refine gy λx _=>?_;rw[g9];exact gy λy hy=>gy λz hz=>by rw[AM (hb y hy) (hc z hz)]
theorem MT {a b c:List Rw}(ha:Sf n a)(hb:Sf n b)(hc:Sf n c)(h1:Sf n (Fl (aX av a b)))(h2:Sf n (Fl (aX av b c))) :
  Fl (aX av (Fl (aX av a b)) c)=Fl (aX av a (Fl (aX av b c))):=by
 obtain⟨x1,x2,_⟩:=ha.all hb;obtain⟨y1,y2,_⟩:=hb.all hc;obtain⟨z1,z2,_⟩:=h1.all hc;refine MR z1 z2 (D8 x1 x2) (D8 y1 y2) λf=>?_;rw[g9,D7 x1 x2];have:∀g:Rw->Int,S (aX av a b) (λz=>S c λw=>g (av z w))=S (aX av (aX av a b) c) g:=λg=>(g9 _ _ _).symm;rw[this,zw (λy hy=>eM (hb.o y hy)) λz hz=>lL (hc.o z hz),g9,g9,qj];exact gy λx _=>(D7 y1 y2 _).symm
theorem jI {α:Type}{f:α->U}{g:α->D}(h:∀x,jT (f x)=some (g x)):∀l:List α,i_ (l.map f)=some (l.map g)
 | []=>by unfold i_;rfl
 |x::l=>by rw[RY];unfold i_;rw[h x,jI h l];rfl
theorem iP {α:Type}{g:α->D}{c:Nat}(h:∀x,dU (g x)<=c):∀l:List α,eP (l.map g)<=c
 | []=>by rw[Tb];unfold eP;exact WG _
 |x::l=>by
  rw[RY];unfold eP;have:=h x;have:=iP h l;lia
noncomputable def MU (p:List Int×Int×Int):D:=.tup [.tup (p.1.map .int),.tup [.int p.2.1,.int p.2.2]]
theorem Ea (m:Mx):nA (d6 m) (d6 m)=.ok true:=by
 have h1:∀p,jT (mx p)=some (MU p):=λp=>by
  unfold mx MU rZ aw;simp only[jT,i_,md,Option.map_some,Option.bind_some]
 have h2:jT (d6 m)=some (.lst (m.map MU)):=by
  unfold d6 jT;rw[jI h1];rfl
 have h3:∀p,dU (MU p)<=2:=λp=>by
  unfold MU;have:=j_ p.1;simp only[dU,eP,this];lia
 unfold nA;rw[h2];dsimp only;rw[h9 (by unfold dU;have:=iP h3 m;lia),i4]
theorem ua (i:Int):eB [.int i]=.ok (.bl true):=by
 simp only[eB,kh,Pzz,b7,Nat.reduceAdd,Nat.reduceSub]
theorem nh {o:Rw}(h:gx n o)(h8:n<=8):cy [aw o,.int n]=.ok (.bl true):=by
 have ln:=eM h;have e:yk (wu [none] (bH 0) dA (dI 1 eB (ae (af 0) ak)) [some (U.tup (o.map U.int)),some (U.int n)]) (o.map U.int)=.ok (o.map λ_=>.bl true):=
  d5 (c:=U.int) (g:=λ_=>U.bl true) λi _=>by simp only[Pzz,b7,Nat.reduceAdd,Nat.reduceSub,ua]
 have al:uP [.lst (o.map λ_=>U.bl true)]=.ok (.bl true):=by
  have:=ph (o.map U.int) λ_=>true;rw[Sg] at this;refine Eq.trans this ?_;congr 2;rw[S4];intro _ _;rfl
 have so:gU [U.tup (o.map U.int)]=.ok (.lst ((aB n).map .int)):=by
  have e1:=An (ns:=o) (by lia);have e2:mM o=aB n:=by
   refine List.Perm.eq_of_pairwise (le:=(·<=·)) (λa b _ _ h1 h2=>Int.le_antisymm h1 h2) (o8 o) ?_ ((iA o).trans h);unfold aB;rw[V6];exact List.pairwise_lt_range.imp λh=>by lia
  rw[e2] at e1;unfold gU;rw[e1]
 have sz:(o.map λ_=>U.bl true).length<=R3:=by
  have:R3=16777216:=rfl;rw[RX];lia
 show cy [.tup (o.map U.int),.int n]=_;unfold cy ki;simp only[Pzz,b7,Nat.reduceAdd,Nat.reduceSub,e,al,so,yT n (by lia),eU,FI,id,decide_true,sz]
theorem qP (h:Sf n l):c6 [SU l,.int n]=.ok (.bl true):=by
 have l1:=h.l1;have l2:=h.l2;have e:yk (wu [none,some 1] (bH 0) dA (dI 2 cy (ae (af 0) (ae (af 1) ak))) [some (U.tup (l.map aw)),some (U.int n)]) (l.map aw)=.ok (l.map λ_=>.bl true):=
  d5 (c:=aw) (g:=λ_=>U.bl true) λo ho=>by
   have:=nh (h.o o ho) h.n8;simp only[Pzz,b7,Nat.reduceAdd,Nat.reduceSub,this]
 have al:uP [.lst (l.map λ_=>U.bl true)]=.ok (.bl true):=by
  have:=ph (l.map aw) λ_=>true;rw[Sg] at this;refine Eq.trans this ?_;congr 2;rw[S4];intro _ _;rfl
 have sz:(l.map λ_=>U.bl true).length<=R3:=by
  have:R3=16777216:=rfl;rw[RX];lia
 have c1:(1:Int)<=((l.map aw).length:Nat):=by rw[RX];lia
 have c2:(((l.map aw).length:Nat):Int)<=24:=by rw[RX];lia
 show c6 [.tup (l.map aw),.int n]=_;unfold c6 iF;simp only[Pzz,b7,Nat.reduceAdd,Nat.reduceSub,e,al,sz,hJ c1,hJ c2]
theorem Gs (h:Sf n l):gU [SU l]=.ok (.lst ((bS l).map aw)):=by
 have n1:=h.n1;have l2:=h.l2;have r:=qc (nss:=l) λa ha e=>by
  have:=eM (h.o a ha);rw[e] at this;simp at this;lia
 cases l with
 |nil=>exact absurd h.l1 (by decide)
 |cons a l=>
  have e:gU [SU (a::l)]=fL ((a::l).map aw):=rfl;rw[e];unfold fL;rw[r];dsimp only;rw[h9 (by lia)]
theorem zx (r:Rw):jT (aw r)=some (.tup (r.map .int)):=by
 unfold aw jT;rw[md];rfl
theorem zy (r:Rw):dU (.tup (r.map .int))<=1:=by
 have:=j_ r;unfold dU;lia
theorem Gu (l:List Rw):nA (.lst (l.map aw)) (.lst (l.map aw))=.ok true:=by
 have h2:jT (.lst (l.map aw))=some (.lst (l.map λr=>.tup (r.map .int))):=by
  unfold jT;rw[jI zx];rfl
 unfold nA;rw[h2];dsimp only;rw[h9 (by unfold dU;have:=iP zy l;lia),i4]
theorem MV (l:List Rw):nA (SU l) (SU l)=.ok true:=by
 have h2:jT (SU l)=some (.tup (l.map λr=>.tup (r.map .int))):=by
  unfold SU jT;rw[jI zx];rfl
 unfold nA;rw[h2];dsimp only;rw[h9 (by unfold dU;have:=iP zy l;lia),i4]
theorem v_:∀{d e:Dc},d.Nodup->(∀x∈d,x∈e)->e.length<=d.length->d.Perm e
 | [],e,_,_,h=>by
  cases e with
  |nil=>exact .refl _
  |cons a e=>exact absurd h (by simp)
 |x::d,e,n,s,h=>by
  rw[T1] at n;have hx:=s x Sd;have l:=List.length_erase_of_mem hx;rw[Sj] at h;refine ((v_ n.2 (λy hy=>?_) (by lia)).cons x).trans (List.perm_cons_erase hx).symm;exact (List.mem_erase_of_ne λe:y=x=>n.1 (e▸hy)).mpr (s y (Sn _ hy))
theorem Eb {e:Dc}(nd:Nd d)(ne:Nd e):xv (ij d) (kz d) (ij e) (kz e)=true↔d.Perm e:=by
 have z:(ij d).zip (kz d)=d.map λp=>(aw p.1,U.int p.2):=by
  unfold ij kz;rw[List.zip_map']
 have K0:∀p:Rw×Int,Di (ij e) (kz e) (aw p.1,U.int p.2)=true↔p∈e:=λp=>by
  unfold Di;dsimp only;rw[tW];by_cases c:p.1∈e.map (·.1)
  ·rw[h9 c];dsimp only;rw[decide_eq_true_eq];constructor
   ·intro h;have h:aS e p.1=p.2:=by injection h
    have:=eI c;rw[h] at this;exact this
   ·intro h;rw[d4 ne h]
  ·rw[hZ c];constructor
   ·intro h;cases h
   ·intro h;exact absurd (Sy h) c
 unfold xv;rw[Sa,z,S4,beq_iff_eq];have lk:∀d:Dc,(ij d).length=d.length:=λd=>by unfold ij;rw[RX]
 rw[lk,lk];constructor
 ·intro⟨h1,h2⟩;exact v_ (lB nd) (λp hp=>(K0 p).mp (h2 _ (Sy (f:=λp:Rw×Int=>(aw p.1,U.int p.2)) hp))) (by lia)
 ·intro h;refine⟨h.length_eq,λx hx=>?_⟩;obtain⟨p,hp,rfl⟩:=So.mp hx;exact (K0 p).mpr (h.mem_iff.mp hp)
theorem zz {a b:List Rw}(ha:Sf n a)(hb:Sf n b):∃t,iG [SU a,SU b]=.ok (.bl t)/\(t=true↔(aR (ar a)).Perm (aR (ar b))):=by
 have la:=ha.l2;have lb:=hb.l2;have sa:=fS ha.ne (by lia);have sb:=fS hb.ne (by lia);have i1:∀d:Dc,cP (kz d)=some (d.map (·.2)):=λd=>by
  have:kz d=(d.map (·.2)).map U.int:=by unfold kz;rw[Sg];rfl
  rw[this,jF]
 have e:y_ id (DU (aR (ar a))) (DU (aR (ar b)))=.ok (.bl (xv (ij (aR (ar a))) (kz (aR (ar a))) (ij (aR (ar b))) (kz (aR (ar b))))):=by
  generalize aR (ar a)=d,aR (ar b)=e,n5 sa=hd,n5 sb=he;show (if (pP (ij d)&&pP (ij e)&&(cP (kz d)).isSome&&(cP (kz e)).isSome)=true then R.ok (U.bl (id (xv (ij d) (kz d) (ij e) (kz e)))) else R.stk)=_;rw[mB hd,mB he,i1,i1];rfl
 refine⟨_,?_,Eb (iL sa.nd) (iL sb.nd)⟩;have c1:=fQ (lI a) (by lia);have c2:=fQ (lI b) (by lia);have l1:=jo sa;have l2:=jo sb;unfold iG xF;simp only[Pzz,b7,Nat.reduceAdd,Nat.reduceSub,c1,c2,l1,l2,e]
noncomputable def M7:Ev->R (U×Ev):=(fh (ae (cE (ae (af 7) (ae (cE (ae (gC (.int 1)) (ae (gC (.int 1)) ak))) ak))) ak))
noncomputable def q1:Ev->SR:=(lQ (AV (gB (a9 (w5 not) (dI 2 c6 (ae (af 8) (ae (af 3) ak))) (gC (.bl true)))) (gB (a9 (B1 not) (jM gU (ae (af 8) ak)) (jM oZ (ae (af 8) ak))))) (bf (gC (.bl false))) bZ)
noncomputable def q2:Ev->SR:=(lQ (gB (a9 (B1 not) (dI 2 aZ (ae (dI 2 aZ (ae M7 (ae (af 4) ak))) (ae (af 5) ak))) (dI 2 aZ (ae M7 (ae (af 8) ak))))) (bf (gC (.bl false))) bZ)
noncomputable def q3:Ev->SR:=(lQ (oK (gB (dI 3 c8 (ae (af 4) (ae (af 5) (ae (af 6) ak)))))) (bf (gC (.bl false))) bZ)
noncomputable def q5:Ev->SR:=(lQ (AV (gB (a9 (w5 not) (dI 2 cy (ae (a9 nC (af 9) (gC (.int 0))) (ae (af 3) ak))) (gC (.bl true)))) (AV (oK (gB (dI 2 iG (ae (dI 2 cA (ae (af 4) (ae (af 9) ak))) (ae (af 4) ak))))) (oK (gB (dI 2 iG (ae (dI 2 cA (ae (af 9) (ae (af 4) ak))) (ae (af 4) ak))))))) (bf (gC (.bl false))) bZ)
noncomputable def q6:Ev->SR:=(lQ (BK (gB (dI 2 iG (ae (af 4) (ae (af 5) ak)))) (gB (a9 (B1 not) (dI 2 aZ (ae M7 (ae (af 4) ak))) (dI 2 aZ (ae M7 (ae (af 5) ak)))))) (bf (gC (.bl false))) bZ)
noncomputable def q0:Ev->SR:=(lQ (gB (a9 (nB not) (af 8) (gC .non))) (aA q1 q2) bZ)
noncomputable def g3:Ev->SR:=(Fh (uH 3 (aK (bH 4) (aK (bH 5) (aK (bH 6) cK)))) (sU vv (fj (ae (gC (.int 3)) ak)) [none,some 2,some 3] (bH 0) dA (nR 2 1 aD (ae (af 2) ak))))
theorem MW:pY=(aA (bg 2 (dI 2 c7 (ae (af 0) (ae (af 1) ak)))) (aA (bg 3 (a9 cv (gC (.int 1)) (nR 2 2 aE (ae (gC (.int 6)) ak)))) (aA g3 (aA (bg 7 (nR 2 2 dN (ae (af 3) ak))) (aA (bg 8 (dI 2 az (ae (af 4) (ae (af 5) ak)))) (aA q0 (aA q3 (aA (bg 9 (cE (ae (uR (ae (af 3) ak)) ak))) (aA q5 q6))))))))):=rfl
section
variable {A B C:List Rw}{r:Rw}{x0 x1 x2 x3 x4 x5 x6 x8 x9:Option U}
theorem Ih {x7:U}:M7 [x0,x1,x2,x3,x4,x5,x6,some x7,x8,x9]=.ok (.lst [.tup [x7,.tup [.int 1,.int 1]]],[x0,x1,x2,x3,x4,x5,x6,some x7,x8,x9]):=by
 unfold M7;simp only[Pzz,b7,Nat.reduceAdd,Nat.reduceSub]
theorem Gv (r:Rw):U.lst [.tup [aw r,.tup [.int 1,.int 1]]]=d6 (bK [r]):=by rw[AL];rfl
theorem lM {r:Rw}{A:List Rw}(hA:Sf n A):aX av [r] A≠[]/\(∀x∈aX av [r] A,x.length=n)/\(aX av [r] A).length<=24:=by
 have l2:=hA.l2;refine⟨n_ (by simp) hA.ne,λx hx=>?_,by rw[g_,Ub];lia⟩;unfold aX at hx;obtain⟨a,_,hx⟩:=UT.mp hx;obtain⟨b,hb,rfl⟩:=So.mp hx;unfold av;rw[RX];exact eM (hA.o b hb)
theorem lN (hr:r.length=n)(hA:Sf n A):aZ [.lst [.tup [aw r,.tup [.int 1,.int 1]]],SU A]=.ok (d6 (bK (aX av [r] A))):=by
 rw[Gv];refine qk (by simp) (λx hx=>by rw[Ta.mp hx];exact hr) (by simp) hA ?_;have:=iN (aX av [r] A);have:=(lM (r:=r) hA).2.2;lia
theorem Gw (hr:r.length=n)(hA:Sf n A)(hB:Sf n B)(hF:Sf n (Fl (aX av A B))):∃m,aZ [.lst [.tup [aw r,.tup [.int 1,.int 1]]],SU A]=.ok m/\aZ [m,SU B]=.ok (d6 (bK (aX av [r] (Fl (aX av A B))))):=by
 refine⟨_,lN hr hA,?_⟩;obtain⟨a1,a2,a3⟩:=lM (r:=r) hA;obtain⟨f1,f2,f3⟩:=lM (r:=r) hF;obtain⟨x1,x2,_⟩:=hA.all hB;have g0:=D8 x1 x2;have hS:∀f,((1:Nat):Int)*S (aX av (aX av [r] A) B) f=(cq (ar (aX av A B)):Nat)*S (aX av [r] (Fl (aX av A B))) f:=λf=>by
  rw[zw (λy hy=>eM (hA.o y hy)) λz hz=>lL (hB.o z hz),g9,g9,qj,qj];refine gy λx _=>?_;rw[D7 x1 x2];lia
 have c1:=bb (aX av (aX av [r] A) B);have c2:=bb (aX av [r] (Fl (aX av A B)));obtain⟨_,p⟩:=zq (s:=1) c1.1 c2.1 c1.2.1 c2.2.1 (by decide) g0 λf=>by rw[kq,kq];exact hS f
 have lp:=p.length_eq;rw[RX,RX] at lp;have:=iN (aX av [r] (Fl (aX av A B)));rw[qk a1 a2 (by lia) hB (by lia),vZ (s:=1) (n_ a1 hB.ne) f1 (by decide) g0 hS]
theorem MX (hF:Sf n A)(he:bS A=A){x7:Option U}:q1 [x0,x1,x2,some (.int n),x4,x5,x6,x7,some (SU A),x9]=.nx [x0,x1,x2,some (.int n),x4,x5,x6,x7,some (SU A),x9]:=by
 have e1:=qP hF;have e2:=Gs hF;rw[he] at e2;have sz:(A.map aw).length<=R3:=by
  have:R3=16777216:=rfl;have:=hF.l2;rw[RX];lia
 have e3:oZ [SU A]=.ok (.lst (A.map aw)):=rfl;unfold q1;simp only[Pzz,b7,Nat.reduceAdd,Nat.reduceSub,e1,e2,e3,Gu,Up,decide_true]
theorem MY (hr:r.length=n)(hA:Sf n A)(hB:Sf n B)(hF:Sf n (Fl (aX av A B))):q2 [x0,x1,x2,x3,some (SU A),some (SU B),x6,some (aw r),some (SU (Fl (aX av A B))),x9]=.nx [x0,x1,x2,x3,some (SU A),some (SU B),x6,some (aw r),some (SU (Fl (aX av A B))),x9]:=by
 obtain⟨m,e1,e2⟩:=Gw hr hA hB hF;have e3:=lN hr hF;unfold q2;simp only[Pzz,b7,Nat.reduceAdd,Nat.reduceSub,Ih,e1,e2,e3,Ea,Up]
theorem jr {p q v:U}(e1:az [SU A,SU B]=.ok p)(e2:az [p,SU C]=.ok u)(e3:az [SU B,SU C]=.ok q)(e4:az [SU A,q]=.ok v)(h:cO u=true\/cO v=true\/nA u v=.ok true):c8 [SU A,SU B,SU C]=.ok (.bl true):=by
 unfold c8 iK;simp only[Pzz,b7,Nat.reduceAdd,Nat.reduceSub,e1,e2,e3,e4,id];cases a:cO u with
 |true=>rfl
 |false=>
  cases b:cO v with
  |true=>rfl
  |false=>
   rcases h with h|h|h
   ·rw[h] at a;cases a
   ·rw[h] at b;cases b
   ·rw[h];rfl
theorem MZ (hA:Sf n A)(hB:Sf n B)(hC:Sf n C):c8 [SU A,SU B,SU C]=.ok (.bl true):=by
 have b0:∀u,az [.non,u]=.ok .non:=λu=>rfl;have b1:∀l,az [SU l,.non]=.ok .non:=λu=>rfl;have R:∃q v,az [SU B,SU C]=.ok q/\az [SU A,q]=.ok v:=by
  rcases qo hB hC with e|⟨e,h⟩
  ·exact⟨_,_,e,b1 _⟩
  ·rcases qo hA h with e'|⟨e',_⟩
   ·exact⟨_,_,e,e'⟩
   ·exact⟨_,_,e,e'⟩
 obtain⟨q,v,e3,e4⟩:=R;rcases qo hA hB with e1|⟨e1,h1⟩
 ·exact jr e1 (b0 _) e3 e4 (.inl rfl)
 ·rcases qo h1 hC with e2|⟨e2,h3⟩
  ·exact jr e1 e2 e3 e4 (.inl rfl)
  ·rcases qo hB hC with e|⟨e,h2⟩
   ·exact jr e1 e2 e (b1 _) (.inr (.inl rfl))
   ·rcases qo hA h2 with e'|⟨e',_⟩
    ·exact jr e1 e2 e e' (.inr (.inl rfl))
    ·rw[←MT hA hB hC h1 h2] at e';exact jr e1 e2 e e' (.inr (.inr (MV _)))
theorem M3 (h1:1<=n)(h8:n<=8):Sf n [aB n]:=⟨h1,h8,λo ho=>by rw[Ta.mp ho];exact .refl _,by simp,by simp⟩
theorem Gx (hA:Sf n A):aX av A [aB n]=A:=by
 have:∀l:List Rw,(∀a∈l,gx n a)->aX av l [aB n]=l:=by
  intro l
  induction l with
  |nil=>intro _;rfl
  |cons a l ih=>
   intro h;have:=ih λb hb=>h b (Sn _ hb);unfold aX at this ⊢;rw[Tn,this,List.map_singleton,zv (eM (h a Sd))];rfl
 exact this A hA.o
theorem Gy (hA:Sf n A):aX av [aB n] A=A:=by
 unfold aX;rw[Tn,List.flatMap_nil,Tg]
 conv=>rhs;rw[←V7 A]
 exact Si λa ha=>Gp (hA.o a ha)
theorem M4 (hA:Sf n A){x7:Option U}:q5 [x0,x1,x2,some (.int n),some (SU A),x5,x6,x7,x8,some (SU [aB n])]=.nx [x0,x1,x2,some (.int n),some (SU A),x5,x6,x7,x8,some (SU [aB n])]:=by
 have hI:=M3 hA.n1 hA.n8;have l2:=hA.l2;have ne:=hA.ne;have lt:A.length<1000:=by lia
 have fl:=MS ne lt;have hF:Sf n (Fl A):=⟨hA.n1,hA.n8,λo ho=>hA.o o (D9 ho),SV.mpr (Ig ne lt),by lia⟩;have b1:=t_ hA.sh hI.sh (hA.mul hI);have b2:=t_ hI.sh hA.sh (hI.mul hA);rw[Gx hA,hZ (by lia)] at b1;rw[Gy hA,hZ (by lia)] at b2;obtain⟨t,e,ht⟩:=zz hF hA;have:t=true:=ht.mpr (qi (bb _).1 (bb _).1 (fS hF.ne (by lia)) (bb _).2.1 (D8 ne lt) (by decide:0<1) λf=>by
  rw[kq,kq,D7 ne lt];lia)
 subst this;have io:=nh (hI.o _ Sd) hA.n8;have ix:nC (SU [aB n]) (.int 0)=.ok (aw (aB n)):=rfl;unfold q5;simp only[Pzz,b7,Nat.reduceAdd,Nat.reduceSub,ix,io,b1,b2,e,Up,decide_true]
theorem M5 (hr:r.length=n)(hA:Sf n A)(hB:Sf n B):q6 [x0,x1,x2,x3,some (SU A),some (SU B),x6,some (aw r),x8,x9]=.nx [x0,x1,x2,x3,some (SU A),some (SU B),x6,some (aw r),x8,x9]:=by
 obtain⟨t,e,ht⟩:=zz hA hB;have e1:=lN hr hA;have e2:=lN hr hB;unfold q6;cases t with
 |false=>simp only[Pzz,b7,Nat.reduceAdd,Nat.reduceSub,e]
 |true=>
  have p:=ht.mp rfl;have la:A.length<1000:=by have:=hA.l2;lia
  have lb:B.length<1000:=by have:=hB.l2;lia
  have sa:=fS hA.ne la;have sb:=fS hB.ne lb;have sw:∀f,bR (aR (ar A)) f=bR (aR (ar B)) f:=λf=>by
   unfold bR;exact lC (p.map _)
  have c:bK (aX av [r] A)=bK (aX av [r] B):=by
   refine vZ (lM (r:=r) hA).1 (lM (r:=r) hB).1 (fR sb) (fR sa) λf=>?_;rw[g9,g9,qj,qj];refine gy λx _=>?_;rw[←kq,←kq,←qm sa,←qm sb,sw]
   ac_rfl
  rw[c] at e1;simp only[Pzz,b7,Nat.reduceAdd,Nat.reduceSub,e,Ih,e1,e2,Ea,Up]
end
theorem ub {s:U}(h:nK s)(h1:1<=m)(h8:m<=8):∃(l:List Rw) (s':U),aD [s,.int m]=.ok (SU l,s')/\Sf m l/\nK s':=by
 obtain⟨oss,s2,e2,ho,l1,l24,h2⟩:=xK h h1 h8;exact⟨oss,s2,e2,⟨h1,h8,ho,l1,l24⟩,h2⟩
theorem QF {a b c:U}:uH 3 (aK (bH 4) (aK (bH 5) (aK (bH 6) cK))) (.lst [a,b,c]) ρ=.ok (((ρ.set 4 (some a)).set 5 (some b)).set 6 (some c)):=nr rfl
section
variable {x0 x1 x4 x5 x6 x7 x8 x9:Option U}
theorem M6 {s:U}(h:nK s)(h1:1<=m)(h8:m<=8):∃(A B C:List Rw) (s':U),g3 [x0,x1,some s,some (.int m),x4,x5,x6,x7,x8,x9]=.nx [x0,x1,some s',some (.int m),some (SU A),some (SU B),some (SU C),x7,x8,x9]/\Sf m A/\Sf m B/\Sf m C/\nK s':=by
 obtain⟨A,s1,e1,hA,q1⟩:=ub h h1 h8;obtain⟨B,s2,e2,hB,q2⟩:=ub q1 h1 h8;obtain⟨C,s3,e3,hC,q3⟩:=ub q2 h1 h8;refine⟨A,B,C,s3,?_,hA,hB,hC,q3⟩;have st:∀(u:U) (s s':U) (L:List Rw),aD [s,.int m]=.ok (SU L,s')->∃ρi ρi',bH 0 u (gF [none,some 2,some 3] [x0,x1,some s,some (.int m),x4,x5,x6,x7,x8,x9])=.ok ρi/\nR 2 1 aD (ae (af 2) ak) ρi=.ok (SU L,ρi')/\wb vv [none,some 2,some 3] ρi' [x0,x1,some s,some (.int m),x4,x5,x6,x7,x8,x9]=[x0,x1,some s',some (.int m),x4,x5,x6,x7,x8,x9]:=λu s s' L e=>by
  refine⟨[some u,some s,some (.int m)],[some u,some s',some (.int m)],rfl,?_,rfl⟩;simp only[Pzz,b7,Nat.reduceAdd,Nat.reduceSub,e]
 obtain⟨ys,z,e,l,hz⟩:=je (G:=vv) (js:=[none,some 2,some 3]) (sg:=bH 0) (ge:=nR 2 1 aD (ae (af 2) ak)) (λx:U=>[x0,x1,some x,some (.int m),x4,x5,x6,x7,x8,x9]) 3
  (λys x=>(ys=[]/\x=s)\/(ys=[SU A]/\x=s1)\/(ys=[SU A,SU B]/\x=s2)\/(ys=[SU A,SU B,SU C]/\x=s3)) (λdone u x hd hI=>by
   rcases hI with⟨rfl,rfl⟩|⟨rfl,rfl⟩|⟨rfl,rfl⟩|⟨rfl,rfl⟩
   ·obtain⟨a,b,c,d,f⟩:=st u _ _ _ e1;exact⟨_,_,_,_,c,d,f,.inr (.inl ⟨rfl,rfl⟩)⟩
   ·obtain⟨a,b,c,d,f⟩:=st u _ _ _ e2;exact⟨_,_,_,_,c,d,f,.inr (.inr (.inl ⟨rfl,rfl⟩))⟩
   ·obtain⟨a,b,c,d,f⟩:=st u _ _ _ e3;exact⟨_,_,_,_,c,d,f,.inr (.inr (.inr ⟨rfl,rfl⟩))⟩
   ·exact absurd hd (TZ 3)) (aG 0 3) [] s (by decide) (.inl ⟨rfl,rfl⟩)
 have l3:ys.length=3:=l;rw[Uv] at hz;rcases hz with⟨rfl,_⟩|⟨rfl,_⟩|⟨rfl,_⟩|⟨rfl,rfl⟩
 ·cases l3
 ·cases l3
 ·cases l3
 ·have r3:FH [.int 3] [x0,x1,some s,some (.int m),x4,x5,x6,x7,x8,x9]=.ok (aG 0 3,[x0,x1,some s,some (.int m),x4,x5,x6,x7,x8,x9]):=iC 3 (by decide);unfold g3;simp only[Pzz,b7,Nat.reduceAdd,Nat.reduceSub,r3,e,QF]
theorem Gz {x2 x3:Option U}:∃a b c d e f g h:Option U,pY [some (.scr (ns.map .int)),some (.int i),x2,x3,x4,x5,x6,x7,x8,x9]=.nx [some (.scr (ns.map .int)),some (.int i),a,b,c,d,e,f,g,h]:=by
 obtain⟨s0,e0,h0⟩:=Dx (us:=[]) (u:=.scr (ns.map .int)) (ns:=ns) (k:=i) (.inl rfl) (by lia);obtain⟨m,s1,e1,m0,m1,h1⟩:=gw (m:=6) h0 (by decide) (by decide);obtain⟨k,hk⟩:∃k:Nat,1+m=k:=⟨(1+m).toNat,by lia⟩;obtain⟨A,B,C,s2,e2,hA,hB,hC,h2⟩:=M6 (m:=k) h1 (by lia) (by lia) (x0:=some (.scr (ns.map .int))) (x1:=some (.int i)) (x4:=x4) (x5:=x5) (x6:=x6) (x7:=x7) (x8:=x8) (x9:=x9);obtain⟨r,s3,e3,lr,_,h3⟩:=Kg (m:=k) h2 (by lia);have e3:dN [s2,.int k]=.ok (aw r,s3):=e3;have i1:cO U.non=true:=rfl;have i0:∀l:List Rw,cO (SU l)=false:=λl=>rfl;have rT:yS [.int k]=λρ=>.ok (.tup ((aB k).map .int),ρ):=by funext ρ;rw[jA k (by lia),eU]
 have sI:U.tup [.tup ((aB k).map .int)]=SU [aB k]:=rfl;have e4:=MZ hA hB hC;have e5:=λ{x0 x1 x2 x5 x6 x7 x8:Option U}=>M4 hA (x0:=x0) (x1:=x1) (x2:=x2) (x5:=x5) (x6:=x6) (x7:=x7) (x8:=x8);have e6:=λ{x0 x1 x2 x3 x6 x8 x9:Option U}=>M5 lr hA hB (x0:=x0) (x1:=x1) (x2:=x2) (x3:=x3) (x6:=x6) (x8:=x8) (x9:=x9);have fin:∀F:U,q0 [some (.scr (ns.map .int)),some (.int i),some s3,some (.int k),some (SU A),some (SU B),some (SU C),some (aw r),some F,x9]=.nx [some (.scr (ns.map .int)),some (.int i),some s3,some (.int k),some (SU A),some (SU B),some (SU C),some (aw r),some F,x9]->az [SU A,SU B]=.ok F->∃a b c d e f g h:Option U,pY [some (.scr (ns.map .int)),some (.int i),x2,x3,x4,x5,x6,x7,x8,x9]=.nx [some (.scr (ns.map .int)),some (.int i),a,b,c,d,e,f,g,h]:=λF hq hb=>by
  refine⟨some s3,some (.int k),some (SU A),some (SU B),some (SU C),some (aw r),some F,some (SU [aB k]),?_⟩;rw[MW];simp only[Pzz,b7,Nat.reduceAdd,Nat.reduceSub,e0,e1,hk,e2,e3,hb,hq,q3,e4,rT,sI,e5,e6]
 rcases qo hA hB with e|⟨e,hF⟩
 ·refine fin _ ?_ e;unfold q0;simp only[Pzz,b7,Nat.reduceAdd,Nat.reduceSub,i1,Up]
 ·refine fin _ ?_ e;have e7:=MX hF (Gn _) (x0:=some (.scr (ns.map .int))) (x1:=some (.int i)) (x2:=some s3) (x4:=some (SU A)) (x5:=some (SU B)) (x6:=some (SU C)) (x7:=some (aw r)) (x9:=x9);have e8:=MY lr hA hB hF (x0:=some (.scr (ns.map .int))) (x1:=some (.int i)) (x2:=some s3) (x3:=some (.int k)) (x6:=some (SU C)) (x9:=x9);unfold q0;simp only[Pzz,b7,Nat.reduceAdd,Nat.reduceSub,i0,Bool.not_false,e7,e8]
end
theorem pure_law (ns:List Int)(hl:ns.length<=63):vx [.scr (ns.map .int)]=.ok (.bl true):=by
 obtain⟨z,hz⟩:∃z:Nat,(if (if (3:Int)<(((ns.map U.int).length:Nat):Int) then 3 else (((ns.map U.int).length:Nat):Int))>1 then (if (3:Int)<(((ns.map U.int).length:Nat):Int) then 3 else (((ns.map U.int).length:Nat):Int)) else 1)=z:=⟨_,(Tf (by split<;>(try split)<;>lia)).symm⟩;have zb:z<=1000:=by split at hz<;>(try split at hz)<;>lia
 obtain⟨ρ',e,a,b,c,d,e',f,g,h,j,rfl⟩:=bL (us:=aG 0 z) (sg:=bH 1) (s:=pY) (λ_ ρ=>∃a b c d e f g h j:Option U,ρ=[some (.scr (ns.map .int)),a,b,c,d,e,f,g,h,j])
  (λi u ρ hu h00=>by
   obtain⟨a,b,c,d,e,f,g,h,j,hr⟩:=h00;subst hr;have hi:i<z:=by
    rcases Wj i z with y|y
    ·exact y
    ·rw[TL.mpr (by rw[a7];exact y)] at hu;cases hu
   obtain rfl:u=.int i:=by
    rw[lF,R_,WL hi] at hu;cases hu;rfl
   obtain⟨a1,b1,c1,d1,e1,f1,g1,h1,q⟩:=Gz (ns:=ns) (i:=i) (x2:=b) (x3:=c) (x4:=d) (x5:=e) (x6:=f) (x7:=g) (x8:=h) (x9:=j);exact⟨_,_,rfl,.inl q,_,_,_,_,_,_,_,_,_,rfl⟩)
  (ρ:=[some (.scr (ns.map .int)),none,none,none,none,none,none,none,none,none]) ⟨_,_,_,_,_,_,_,_,_,rfl⟩
 unfold vx Dn;simp only[Pzz,b7,Nat.reduceAdd,Nat.reduceSub,hz,iC z (by lia),e]
theorem walk {d:DefRec}{K:Params->R1}(Nc:d.params.defaults=[])(hY:∀(w:Tq) (h:UU),YP w h->(K w.params).In h)(F:∀(w:Tq) (mg:Str->Option R6) (fa:Sr) (h:UU),(K w.params).In h->h.Ns SS mg->mg d.name=some (.ref fa)->
   ∃fd:Vk,(∀(s:Sk) (u:R6),BindsTo s fd ⟨[u],[]⟩ [("script",u)])/\∀base:UU,(K w.params).In base->base.Ns SS mg->il PySem.Challenge.rw_hushcards_k16_whole_shuffles_one_behind.prog w (K w.params) mg base uu 6 fa fd ["script"] (uJ (K w.params))) :
  PySem.W.WalkO q loose XP YP PySem.Challenge.rw_hushcards_k16_whole_shuffles_one_behind.row.toRowW d [] (λf vs=>PySem.call f vs):=
 L2.walk_of (l:=PySem.Challenge.rw_hushcards_k16_whole_shuffles_one_behind) (n:=63) (k:=6) (x:="script") (CX:=λ_=>uu) (sp:=λw=>uJ (K w.params)) rfl (by decide) Nc ⟨rfl,by decide,by decide⟩ hY F (λ_ _ a ns hl hO hS=>⟨a,ns,rfl,JF hO hS,hl,λ_=>rfl⟩) λ_ _ _ _ _ z=>z
end Hc
open PySem PySem.W PyProof.Rows
set_option maxRecDepth 100000 in
set_option maxHeartbeats 0 in
theorem PySem.Challenge.cw_hushcards_k16_whole_shuffles_one_behind_holds : PySem.Challenge.rw_hushcards_k16_whole_shuffles_one_behind.Holds := by
 w_on
 refine PySem.W.holds_law (by decide+kernel) λPo=>?_;refine' PySem.W.holds_open Hc.left (PySem.W.Hook.of _) (PySem.W.Hook.keeps _) (XP:=PySem.W.XL Hc.vw [])
  (λs e=>PySem.W.xl_of s (Bool.and_eq_true_iff.mp e).1) PySem.W.XL.keeps ?d ?t ?k
  (λs e=>PySem.W.recFacts_of (Bool.and_eq_true_iff.mp e).2) ?w Po ?g ⟨rfl,rfl,rfl,rfl,rfl,by decide+kernel⟩ ?hw ?hc
 case d=>rfl
 case t=>rfl
 case k=>rfl
 case w=>rfl
 case g=>decide+kernel
 case hw=>w_witness2
 show PySem.W.WalkO Hc.vw [] (PySem.W.XL Hc.vw []) (PySem.W.InK Hc.Kf) _ _ _ _
 k_fill
 refine Hc.walk rfl (λw h Y=>Y) ?F
 case F=>
  intro w mg fa h KX G Nf;refine' Hc.all_mk KX G Nf ?_ ?_ ?_ ?_ ?_ ?_ ?_ ?_ ?_ ?_ ?_ ?_ ?_ ?_ ?_ ?_ ?_ ?_ ?_ ?_ ?_ ?_ ?_ ?_ ?_ ?_ ?_ ?_ ?_ ?_ ?_ ?_ ?_ ?_ ?_ ?_ ?_ ?mG ?Ek ?El Hc.pure_law
  (case mG=>k_is)
  (case Ek=>k_exc)
  (case El=>kts_exm)
  all_goals first|k_is|exact .mk (by k_is) (by k_is) (by k_is) (by k_is)|skip