import PyProof.Rows.All
import Wide.All
import OpenK.AllK
import Wide.FinOn
import Lean
import PyProof.EqAt
import PyProof.EqKinds
import PyProof.TupleCall
import PyProof.NeKinds
import PyProof.TupleKey
import PyProof.DictRoadsH
import PyProof.Rows.SetFrom
import PyProof.WalksMore
import PyProof.SetRoads
import PyProof.ListMulRoad
import PyProof.FactsAll.subtypes_4
import PyProof.Rows.ListMulArg
import PyProof.ZipIter
import KE.KTryMore
import PyProof.Rows.TopTwo
import PyProof.NsDelKeeps
import KE.RegKTryMore
import KE.RegKIsAll
import PyProof.AutoListH
import PyProof.SumWalk
import PyProof.WalkInts
import PyProof.StrBlock
import PySem.Challenge.RW_hushcards_k55_formulas_known
abbrev hG:=@decide_eq_true
abbrev hJ:=@decide_eq_false
abbrev hU.{u}:=@if_neg.{u}
abbrev hV.{u}:=@if_pos.{u}
set_option Elab.async false
set_option linter.all false
set_option maxRecDepth 100000
set_option maxHeartbeats 4000000
open List renaming getElem?_eq_getElem->Qy,size_toArray->QD,length_append->QE,getElem?_eq_some_iff->QH,length_map->QI,length_cons->QL,mem_cons->QN,mem_append_right->QQ,getElem?_map->QV,mem_cons_of_mem->QW,getElem?_set_ne->QY,mem_cons_self->QZ,append_nil->Q1,lookup_cons->Q6,map_cons->Rb,mem_append_left->Rc,mem_of_getElem?->Rf,all_eq_true->Ri,append_assoc->Rj,not_mem_nil->Rm,mem_singleton->Rq,getElem?_append_right->RA,getD_eq_getElem?_getD->RB,length_set->RJ,getElem?_cons_succ->RK,range->RL,length_nil->RW,map_append->RX,getElem?_set_self->RY,length_take->R0,getElem?_zipWith->R5,getElem?_append_left->R7,drop_eq_getElem_cons->R9,getElem?_eq_none_iff->Sa,take_succ_eq_append_getElem->Sb,map_nil->Sh,length_drop->Sj,mem_nil_iff->Sk,drop_zero->Sn,take_of_length_le->So,mem_append->Sw,of_mem_zip->SA,length_replicate->SD,length_singleton->SE,find?_cons->SF,zipWith->SH,nil_append->SJ,length_range->SQ,flatMap_cons->SS,drop_length->S0,filterMap_cons->S3,length_zipWith->S7,getElem?_replicate->Tb,all_cons->Td,set_cons_zero->Tf,set_cons_succ->Th,mem_range->Tq,mem_map->Tu,take_length->Tz,cons_append->TB,nodup_cons->TQ,forIn_cons->TV,mem_filterMap->T8,pairwise_cons->Ub,map_map->Uc,getElem?_take_of_lt->Um,getD->Uq
open PySem renaming wpAny_bind->Qz,sizeLine->QC,Value->QG,starEach->QK,Shared->QP,wpAny_pure->QR,mainGlobals->QT,Addr->QX,wpAny->Q2,mem_of_lookup->Q5,model->Q7,bootBuiltins->Ra,wpAny_mono->Rh,Around->Rk,World->Rx,compareOp->RD,Program->RF,wpAny_field->RH,wpAny_callSpecial?_slot->RI,wpAny_truthy_bool->RM,foldedSetIterable->RN,Expr->RP,wpAny_newObj_type->RU,wpAny_call_entry->R1,wpAny_holding->R3,wpAny_setField_rec->R4,wpAny_seqItems->R_,backTo->Sd,wpAny_passesOwn->Se,Stmt->Si,assignEach->Sl,FuncData->Sq,binaryOp->Sr,wpAny_Call_Name_kw->Ss,eval->Sv,sysModules->SM,behindInMarks->SN,IsPair->SU,Heap->S2,sizeLine_eq->S5,wpAny_execs_nil->Ta,attributeBase->Te,cLine->Tj,sliceBounds->Tp,codeAny_mono->Tt,wpAny_execs_cons->Tv,wpAny_updateSeq_pair->TF,call_meets->TL,swapsWith->TM,letOwnedTupleGo->TN,Scope->Ud,recursionLimit->Ug,wpAny_pyIter_list->Uj,seqIndex?->Uo,NameKind->Ut,PassesOwn->Uu
open Bool renaming false_ne_true->QA,and_eq_true->QU,or_eq_false_iff->Rg,eq_iff_iff->RV,or_eq_true->SG,eq_false_iff->SO,false_eq_true->Ua,and_false->Uh
open PySem.W renaming Frag->QB,nsIn->Q4,mg_none_of->Q8,kia_one->Rr,fnOf->Rt,keepIn->Rv,mg_of->Rz,kitOne->RG,findIn->R6,cellsFrom_some->Tn,codeIn->Tr,callWith_K->T9,methodObj->Ui,specialIn->Uk
open PySem.Heap renaming get?_push_of_some->QF,lt_size->QO,get?_push_size->QS,size_push->SW,SameBut->T7
open Nat renaming le_refl->QJ,lt_of_lt_of_le->Q3,ne_of_lt->Q_,le_trans->Rn,lt_irrefl->RT,zero_le->S6,le_add_right->Tx,pow_le_pow_right->TH,le_of_lt->T6
open PySem.Str renaming ofString->QM
open Option.some renaming inj->Q0
open PySem.Builtin.SmallTypes renaming nextOf->Q9,ownedTupleIsFree->RC,ownedTupleHandOut->SX
open PySem.F renaming plainAttrs_list->Rl,slot_tuple_iterator_next->RZ,args_tuple_add_2->S8,slot_list_extend->S9,type_list_extend->S_,entry_tuple_add->Tc,slot_tuple_add->To,args_list_extend_2->TC,args_tuple_iterator_next_1->TJ,entry_list_extend->TU,entry_tuple_iterator_next->TX,slot_zip_next->TY,slot_list_extend->T_,slot_list_append->Ur,type_list_append->Us
open Option renaming map_eq_some_iff->Ro,isSome_iff_exists->RE,bind_some->S1,getD_none->Tw
open PySem.PassesOwn renaming never->Ru
open False renaming elim->Ry
open PyProof.Rows renaming slot_tuple_getitem->RO,envOfC->RQ,callWith_type1->Sz,AllBare->Ue,kindOf->Ul
open PySem.Builtin.List renaming listTooLong->RS
open PySem.Builtin.Slice renaming slicePlaces->R8,sliceAdjust->SV,sliceApplied->T1
open Int renaming toNat_natCast->Sf,emod_lt_of_pos->Su,emod_nonneg->Ti
open PySem.Builtin.Tuple renaming tupleExact->Sg,tupleItemsOf->T2,tupleIsExact->T3
open PySem.SeqAt renaming EqAt->Sm
open List.Perm renaming append_left->SK
open PySem.Builtin.Str renaming tooLong->SY
open Array renaming length_toList->S4
open PySem.SeqAt.EqAt renaming same->TR,int_str->T4,str_int->T5
open PySem.Calls renaming Name_function_global->TZ
open PySem.SeqAt.RcAt renaming lists_lengths->Up
open PySem PySem.Spec PyProof.Rows
variable {a b it f C z i1 i2 a1 a2:QX}{P:RF}{h base h':S2}{g':Array GenState}{t' i j k n m:Nat}{ch fp:List QX}{x qual:Str}{N ps loose:List Str}{M:Model}{A:QX->Prop}{E Q:QG->QP->Prop}{t:Int×Int}{s:QP}{pins:List (QX×Obj)}{pos:Pos}{op:CmpOp}{c tg dH elt:RP}{K:QB}{es rF:List RP}{body:List Si}{l l1 l2:Bool}{lo hi:Option Int}{ay:List QG}{mg:Str->Option QG}{fd:Sq}{scope:Ud}{an od:Option QX}{osl:Array (Option QG)}{ns:List Int}{ys:Array QG}{T:String}{q:QG}{XP:(Str->Option QG)->S2->Prop}{YP:Rx->S2->Prop}{env:Env}{js:List (Option Nat)}
namespace L2
noncomputable def eK (s:Si):Arguments:=match s with
 | .FunctionDef _ a _ _ _ _ _ _ _ _=>a
 |_=>{posonlyargs:=[],args:=[],vararg:=none,kwonlyargs:=[],kw_defaults:=[],kwarg:=none,defaults:=[]}
noncomputable def bV (s:Si):List Si:=match s with
 | .FunctionDef _ _ b _ _ _ _ _ _ _=>b
 |_=>[]
noncomputable def ao (s:Si):Ud:=match s with
 | .FunctionDef _ _ _ _ _ _ sc _ _ _=>sc
 |_=>{kind:=.function,names:=[],isGenerator:=false,isCoroutine:=false}
noncomputable def Et (s:Si)(j:Nat):Si:=match s with
 | .ClassDef _ _ _ body _ _ _ _ _ _ _=>body.getD j (.Pass ⟨0,0,0,0⟩)
 |_=>.Pass ⟨0,0,0,0⟩
end L2
namespace Hc
open L2
noncomputable def dF (i:Nat):Si:=PySem.Challenge.pw_hushcards_k55_formulas_known.main.body.getD i (.Pass ⟨0,0,0,0⟩)
noncomputable abbrev hS (s:String)(n:Nat):QG:=.str (QM s) n
noncomputable abbrev hT (l:List QG):Obj:=⟨.type "tuple",none,.seq l.toArray 0,(List.toArray [])⟩
noncomputable abbrev hE (P:Params)(s:String)(n:Nat)(v:QG):DictEntry:=⟨PyData.keyHash P (QM s),hS s n,v⟩
noncomputable abbrev hD (c:QG)(l:List DictEntry)(n:Nat):Obj:=⟨c,none,.dict l.toArray n,(List.toArray [])⟩
noncomputable abbrev hX (c:QG)(l:List QG):Obj:=⟨c,none,.fields l.toArray,(List.toArray [])⟩
noncomputable abbrev hC (n q:String)(a:Nat)(l k:Int)(r r1:Nat)(v1 v2:QG)(r2:Nat)(m:Int)(m':Nat):Obj:=hX (.type "code") [hS n a,hS q (a+1),hS "/claim/cut.py" (a+2),.int l 0,.int k 0,.int 0 0,.int 0 0,.int 3 0,.ref r,.bool true,.int 181 0,.ref r1,.none,v1,v2,.ref r2,.int m 0,.int l 0,hS "/claim/cut.py" m']
noncomputable abbrev hF (n q:String)(s:Si)(kV kq pm:QG)(an:Option QX)(cd ct:QG):Obj:=⟨.type "function",none,.func (Rt n q (eK s) (bV s) (ao s) .none kV kq pm an cd ct),(List.toArray [])⟩
noncomputable def Kf (P:Params):QB:=
 (nat_lit 2,hD .none [] 0) ::
 (nat_lit 3,hD (.type "dict") [hE P "__name__" 165 (hS "law_hushcards_k55_formulas_known" 503),hE P "__doc__" 166 .none,hE P "__package__" 167 .none,hE P "__loader__" 168 (.builtin "__main__.__loader__#opaque"),hE P "__spec__" 169 .none,hE P "__annotations__" 170 (.ref 6),hE P "__builtins__" 171 (.ref 4),hE P "__file__" 173 (hS "/claim/cut.py" 172),hE P "__cached__" 174 .none,hE P "CardError" 206 (.ref 24),hE P "NoPlan" 222 (.ref 37),hE P "NoWay" 247 (.ref 56),hE P "NoEnd" 263 (.ref 68),hE P "NoFormula" 279 (.ref 80),hE P "TooMany" 295 (.ref 92),hE P "NoName" 311 (.ref 104),hE P "BadNote" 327 (.ref 116),hE P "is_whole" 336 (.ref 125),hE P "MOST_PILES_MIXED" 340 (.int 4 339),hE P "exchanged" 354 (.ref 132),hE P "arrangements" 360 (.ref 137),hE P "pile_mix" 366 (.ref 142),hE P "pair_at" 375 (.ref 149),hE P "turned" 382 (.ref 156),hE P "mixed_and_seen" 391 (.ref 163),hE P "turning" 397 (.ref 168),hE P "choosing" 406 (.ref 175),hE P "MOST_BITS" 410 (.int 3 409),hE P "MOST_FORMULAS_WITHIN" 412 (.int 20 411),hE P "is_made" 419 (.ref 182),hE P "formulas_within" 428 (.ref 189),hE P "is_formula" 434 (.ref 194),hE P "reckoned" 440 (.ref 199),hE P "worth" 448 (.ref 206),hE P "steps_of" 458 (.ref 213),hE P "piles_of" 468 (.ref 220),hE P "pair_behind" 478 (.ref 227),hE P "plan_from" 496 (.ref 234),hE P "plan_of" 502 (.ref 239),hE P "_law_cell_at" 512 (.ref 246),hE P "_law_state" 521 (.ref 253),hE P "_law_take" 531 (.ref 260),hE P "_law_order" 537 (.ref 265),hE P "_law_formula" 549 (.ref 272),hE P "_law_some_formula" 557 (.ref 279),hE P "_law_worth" 566 (.ref 286),hE P "_law_bits_in" 575 (.ref 293),hE P "_law_all_bits" 581 (.ref 298),hE P "_law_mark" 589 (.ref 305),hE P "_law_deep" 598 (.ref 312),hE P "_law_bent" 610 (.ref 319),hE P "_law_look" 616 (.ref 324),hE P "_law_due" 624 (.ref 331),hE P "_law_refused" 633 (.ref 338),hE P "_law_right" 643 (.ref 345),hE P "law" 649 (.ref 350)] 56) ::
 (nat_lit 15,hT [.type "ValueError"]) ::
 (nat_lit 22,hT []) ::
 (nat_lit 23,hD (.type "dict") [hE P "__module__" 196 (hS "hushcards.errors" 187),hE P "__firstlineno__" 200 (.int 2 199),hE P "__static_attributes__" 201 (.ref 22),hE P "__weakref__" 203 (.ref 25),hE P "__doc__" 204 .none] 3) ::
 (nat_lit 24,⟨.type "type",none,.cls {name:="CardError",bases:=[.type "ValueError"],mro:=[.ref 24,.type "ValueError",.type "Exception",.type "BaseException",.type "object"],ns:=23,qualname:="CardError",subclasses:=[.ref 37,.ref 56,.ref 68,.ref 80,.ref 92,.ref 104,.ref 116]},(List.toArray [some (.ref 15),none,some (hS "CardError" 189),some (hS "CardError" 197),some (.builtin "ValueError.__new__"),some (.bool true)])⟩) ::
 (nat_lit 25,hX (.type "getset_descriptor") [hS "__weakref__" 202,.ref 24,.builtin "ExceptionGroup.__weakref__",.none]) ::
 (nat_lit 28,hT [.ref 24]) ::
 (nat_lit 35,hT []) ::
 (nat_lit 36,hD (.type "dict") [hE P "__module__" 214 (hS "hushcards.errors" 187),hE P "__firstlineno__" 218 (.int 4 217),hE P "__static_attributes__" 219 (.ref 35),hE P "__doc__" 220 .none] 2) ::
 (nat_lit 37,⟨.type "type",none,.cls {name:="NoPlan",bases:=[.ref 24],mro:=[.ref 37,.ref 24,.type "ValueError",.type "Exception",.type "BaseException",.type "object"],ns:=36,qualname:="NoPlan"},(List.toArray [some (.ref 28),none,some (hS "NoPlan" 207),some (hS "NoPlan" 215),some (.builtin "ValueError.__new__"),some (.bool true)])⟩) ::
 (nat_lit 40,hT [.ref 24]) ::
 (nat_lit 47,hT []) ::
 (nat_lit 49,hT [hS "self" 238,hS "seen" 239]) ::
 (nat_lit 50,hT []) ::
 (nat_lit 52,hC "__init__" "NoWay.__init__" 235 8 2 47 48 (.ref 49) (.ref 50) 51 240 241) ::
 (nat_lit 53,hF "__init__" "NoWay.__init__" (Et (dF 3) 0) .none .none (hS "hushcards.errors" 187) none (.ref 52) .none) ::
 (nat_lit 54,hT [hS "seen" 243]) ::
 (nat_lit 55,hD (.type "dict") [hE P "__module__" 230 (hS "hushcards.errors" 187),hE P "__firstlineno__" 234 (.int 6 233),hE P "__init__" 242 (.ref 53),hE P "__static_attributes__" 244 (.ref 54),hE P "__doc__" 245 .none] 2) ::
 (nat_lit 56,⟨.type "type",none,.cls {name:="NoWay",bases:=[.ref 24],mro:=[.ref 56,.ref 24,.type "ValueError",.type "Exception",.type "BaseException",.type "object"],ns:=55,qualname:="NoWay"},(List.toArray [some (.ref 40),none,some (hS "NoWay" 223),some (hS "NoWay" 231),some (.builtin "ValueError.__new__"),some (.bool true)])⟩) ::
 (nat_lit 59,hT [.ref 24]) ::
 (nat_lit 66,hT []) ::
 (nat_lit 67,hD (.type "dict") [hE P "__module__" 255 (hS "hushcards.errors" 187),hE P "__firstlineno__" 259 (.int 11 258),hE P "__static_attributes__" 260 (.ref 66),hE P "__doc__" 261 .none] 2) ::
 (nat_lit 68,⟨.type "type",none,.cls {name:="NoEnd",bases:=[.ref 24],mro:=[.ref 68,.ref 24,.type "ValueError",.type "Exception",.type "BaseException",.type "object"],ns:=67,qualname:="NoEnd"},(List.toArray [some (.ref 59),none,some (hS "NoEnd" 248),some (hS "NoEnd" 256),some (.builtin "ValueError.__new__"),some (.bool true)])⟩) ::
 (nat_lit 71,hT [.ref 24]) ::
 (nat_lit 78,hT []) ::
 (nat_lit 79,hD (.type "dict") [hE P "__module__" 271 (hS "hushcards.errors" 187),hE P "__firstlineno__" 275 (.int 13 274),hE P "__static_attributes__" 276 (.ref 78),hE P "__doc__" 277 .none] 2) ::
 (nat_lit 80,⟨.type "type",none,.cls {name:="NoFormula",bases:=[.ref 24],mro:=[.ref 80,.ref 24,.type "ValueError",.type "Exception",.type "BaseException",.type "object"],ns:=79,qualname:="NoFormula"},(List.toArray [some (.ref 71),none,some (hS "NoFormula" 264),some (hS "NoFormula" 272),some (.builtin "ValueError.__new__"),some (.bool true)])⟩) ::
 (nat_lit 83,hT [.ref 24]) ::
 (nat_lit 90,hT []) ::
 (nat_lit 91,hD (.type "dict") [hE P "__module__" 287 (hS "hushcards.errors" 187),hE P "__firstlineno__" 291 (.int 15 290),hE P "__static_attributes__" 292 (.ref 90),hE P "__doc__" 293 .none] 2) ::
 (nat_lit 92,⟨.type "type",none,.cls {name:="TooMany",bases:=[.ref 24],mro:=[.ref 92,.ref 24,.type "ValueError",.type "Exception",.type "BaseException",.type "object"],ns:=91,qualname:="TooMany"},(List.toArray [some (.ref 83),none,some (hS "TooMany" 280),some (hS "TooMany" 288),some (.builtin "ValueError.__new__"),some (.bool true)])⟩) ::
 (nat_lit 95,hT [.ref 24]) ::
 (nat_lit 102,hT []) ::
 (nat_lit 103,hD (.type "dict") [hE P "__module__" 303 (hS "hushcards.errors" 187),hE P "__firstlineno__" 307 (.int 17 306),hE P "__static_attributes__" 308 (.ref 102),hE P "__doc__" 309 .none] 2) ::
 (nat_lit 104,⟨.type "type",none,.cls {name:="NoName",bases:=[.ref 24],mro:=[.ref 104,.ref 24,.type "ValueError",.type "Exception",.type "BaseException",.type "object"],ns:=103,qualname:="NoName"},(List.toArray [some (.ref 95),none,some (hS "NoName" 296),some (hS "NoName" 304),some (.builtin "ValueError.__new__"),some (.bool true)])⟩) ::
 (nat_lit 107,hT [.ref 24]) ::
 (nat_lit 114,hT []) ::
 (nat_lit 115,hD (.type "dict") [hE P "__module__" 319 (hS "hushcards.errors" 187),hE P "__firstlineno__" 323 (.int 19 322),hE P "__static_attributes__" 324 (.ref 114),hE P "__doc__" 325 .none] 2) ::
 (nat_lit 116,⟨.type "type",none,.cls {name:="BadNote",bases:=[.ref 24],mro:=[.ref 116,.ref 24,.type "ValueError",.type "Exception",.type "BaseException",.type "object"],ns:=115,qualname:="BadNote"},(List.toArray [some (.ref 107),none,some (hS "BadNote" 312),some (hS "BadNote" 320),some (.builtin "ValueError.__new__"),some (.bool true)])⟩) ::
 (nat_lit 119,hT []) ::
 (nat_lit 121,hT [hS "thing" 333]) ::
 (nat_lit 122,hT []) ::
 (nat_lit 124,hC "is_whole" "is_whole" 330 22 1 119 120 (.ref 121) (.ref 122) 123 334 335) ::
 (nat_lit 125,hF "is_whole" "is_whole" (dF 10) .none .none (hS "hushcards.orders" 328) none (.ref 124) .none) ::
 (nat_lit 126,hT []) ::
 (nat_lit 128,hT [hS "many" 344,hS "piles" 345,hS "sources" 346,hS "order" 347,hS "pile" 348,hS "source" 349,hS "place" 350,hS "origin" 351]) ::
 (nat_lit 129,hT []) ::
 (nat_lit 131,hC "exchanged" "exchanged" 341 26 3 126 127 (.ref 128) (.ref 129) 130 352 353) ::
 (nat_lit 132,hF "exchanged" "exchanged" (dF 13) .none .none (hS "hushcards.shuffles" 337) none (.ref 131) .none) ::
 (nat_lit 133,hT []) ::
 (nat_lit 136,hC "arrangements" "arrangements" 355 32 1 133 134 .none .none 135 358 359) ::
 (nat_lit 137,hF "arrangements" "arrangements" (dF 14) .none .none (hS "hushcards.shuffles" 337) none (.ref 136) .none) ::
 (nat_lit 138,hT []) ::
 (nat_lit 141,hC "pile_mix" "pile_mix" 361 40 2 138 139 .none .none 140 364 365) ::
 (nat_lit 142,hF "pile_mix" "pile_mix" (dF 15) .none .none (hS "hushcards.shuffles" 337) none (.ref 141) .none) ::
 (nat_lit 143,hT []) ::
 (nat_lit 145,hT [hS "number" 372]) ::
 (nat_lit 146,hT []) ::
 (nat_lit 148,hC "pair_at" "pair_at" 369 45 1 143 144 (.ref 145) (.ref 146) 147 373 374) ::
 (nat_lit 149,hF "pair_at" "pair_at" (dF 17) .none .none (hS "hushcards.gates" 367) none (.ref 148) .none) ::
 (nat_lit 150,hT []) ::
 (nat_lit 152,hT [hS "pair" 379]) ::
 (nat_lit 153,hT []) ::
 (nat_lit 155,hC "turned" "turned" 376 47 1 150 151 (.ref 152) (.ref 153) 154 380 381) ::
 (nat_lit 156,hF "turned" "turned" (dF 18) .none .none (hS "hushcards.gates" 367) none (.ref 155) .none) ::
 (nat_lit 157,hT []) ::
 (nat_lit 159,hT [hS "many" 386,hS "piles" 387,hS "plans" 388]) ::
 (nat_lit 160,hT []) ::
 (nat_lit 162,hC "mixed_and_seen" "mixed_and_seen" 383 49 3 157 158 (.ref 159) (.ref 160) 161 389 390) ::
 (nat_lit 163,hF "mixed_and_seen" "mixed_and_seen" (dF 19) .none .none (hS "hushcards.gates" 367) none (.ref 162) .none) ::
 (nat_lit 164,hT []) ::
 (nat_lit 167,hC "turning" "turning" 392 51 2 164 165 .none .none 166 395 396) ::
 (nat_lit 168,hF "turning" "turning" (dF 20) .none .none (hS "hushcards.gates" 367) none (.ref 167) .none) ::
 (nat_lit 169,hT []) ::
 (nat_lit 171,hT [hS "one" 401,hS "low" 402,hS "high" 403]) ::
 (nat_lit 172,hT []) ::
 (nat_lit 174,hC "choosing" "choosing" 398 53 3 169 170 (.ref 171) (.ref 172) 173 404 405) ::
 (nat_lit 175,hF "choosing" "choosing" (dF 21) .none .none (hS "hushcards.gates" 367) none (.ref 174) .none) ::
 (nat_lit 176,hT []) ::
 (nat_lit 178,hT [hS "thing" 416]) ::
 (nat_lit 179,hT []) ::
 (nat_lit 181,hC "is_made" "is_made" 413 58 1 176 177 (.ref 178) (.ref 179) 180 417 418) ::
 (nat_lit 182,hF "is_made" "is_made" (dF 25) .none .none (hS "hushcards.formulas" 407) none (.ref 181) .none) ::
 (nat_lit 183,hT []) ::
 (nat_lit 185,hT [hS "formulas" 423,hS "inner" 424,hS "formula" 425]) ::
 (nat_lit 186,hT []) ::
 (nat_lit 188,hC "formulas_within" "formulas_within" 420 66 1 183 184 (.ref 185) (.ref 186) 187 426 427) ::
 (nat_lit 189,hF "formulas_within" "formulas_within" (dF 26) .none .none (hS "hushcards.formulas" 407) none (.ref 188) .none) ::
 (nat_lit 190,hT []) ::
 (nat_lit 193,hC "is_formula" "is_formula" 429 72 1 190 191 .none .none 192 432 433) ::
 (nat_lit 194,hF "is_formula" "is_formula" (dF 27) .none .none (hS "hushcards.formulas" 407) none (.ref 193) .none) ::
 (nat_lit 195,hT []) ::
 (nat_lit 198,hC "reckoned" "reckoned" 435 85 2 195 196 .none .none 197 438 439) ::
 (nat_lit 199,hF "reckoned" "reckoned" (dF 28) .none .none (hS "hushcards.formulas" 407) none (.ref 198) .none) ::
 (nat_lit 200,hT []) ::
 (nat_lit 202,hT [hS "formula" 444,hS "bits" 445]) ::
 (nat_lit 203,hT []) ::
 (nat_lit 205,hC "worth" "worth" 441 96 2 200 201 (.ref 202) (.ref 203) 204 446 447) ::
 (nat_lit 206,hF "worth" "worth" (dF 29) .none .none (hS "hushcards.formulas" 407) none (.ref 205) .none) ::
 (nat_lit 207,hT []) ::
 (nat_lit 209,hT [hS "formula" 452,hS "against" 453,hS "pair" 454,hS "gate" 455]) ::
 (nat_lit 210,hT []) ::
 (nat_lit 212,hC "steps_of" "steps_of" 449 100 2 207 208 (.ref 209) (.ref 210) 211 456 457) ::
 (nat_lit 213,hF "steps_of" "steps_of" (dF 30) .none .none (hS "hushcards.formulas" 407) none (.ref 212) .none) ::
 (nat_lit 214,hT []) ::
 (nat_lit 216,hT [hS "gate" 462,hS "one" 463,hS "other" 464,hS "free" 465]) ::
 (nat_lit 217,hT []) ::
 (nat_lit 219,hC "piles_of" "piles_of" 459 110 4 214 215 (.ref 216) (.ref 217) 218 466 467) ::
 (nat_lit 220,hF "piles_of" "piles_of" (dF 31) .none .none (hS "hushcards.formulas" 407) none (.ref 219) .none) ::
 (nat_lit 221,hT []) ::
 (nat_lit 223,hT [hS "gate" 472,hS "piles" 473,hS "other" 474,hS "seen" 475]) ::
 (nat_lit 224,hT []) ::
 (nat_lit 226,hC "pair_behind" "pair_behind" 469 116 4 221 222 (.ref 223) (.ref 224) 225 476 477) ::
 (nat_lit 227,hF "pair_behind" "pair_behind" (dF 32) .none .none (hS "hushcards.formulas" 407) none (.ref 226) .none) ::
 (nat_lit 228,hT []) ::
 (nat_lit 230,hT [hS "many" 482,hS "steps" 483,hS "pairs" 484,hS "free" 485,hS "step" 486,hS "one" 487,hS "other" 488,hS "piles" 489,hS "plans" 490,hS "seen" 491,hS "told" 492,hS "freed" 493]) ::
 (nat_lit 231,hT []) ::
 (nat_lit 233,hC "plan_from" "plan_from" 479 120 4 228 229 (.ref 230) (.ref 231) 232 494 495) ::
 (nat_lit 234,hF "plan_from" "plan_from" (dF 33) .none .none (hS "hushcards.formulas" 407) none (.ref 233) .none) ::
 (nat_lit 235,hT []) ::
 (nat_lit 238,hC "plan_of" "plan_of" 497 135 1 235 236 .none .none 237 500 501) ::
 (nat_lit 239,hF "plan_of" "plan_of" (dF 34) .none .none (hS "hushcards.formulas" 407) none (.ref 238) .none) ::
 (nat_lit 240,hT []) ::
 (nat_lit 242,hT [hS "script" 508,hS "k" 509]) ::
 (nat_lit 243,hT []) ::
 (nat_lit 245,hC "_law_cell_at" "_law_cell_at" 505 142 2 240 241 (.ref 242) (.ref 243) 244 510 511) ::
 (nat_lit 246,hF "_law_cell_at" "_law_cell_at" (dF 36) .none .none (hS "law_hushcards_k55_formulas_known" 503) none (.ref 245) .none) ::
 (nat_lit 247,hT []) ::
 (nat_lit 249,hT [hS "script" 516,hS "k" 517,hS "cell" 518]) ::
 (nat_lit 250,hT []) ::
 (nat_lit 252,hC "_law_state" "_law_state" 513 146 2 247 248 (.ref 249) (.ref 250) 251 519 520) ::
 (nat_lit 253,hF "_law_state" "_law_state" (dF 37) .none .none (hS "law_hushcards_k55_formulas_known" 503) none (.ref 252) .none) ::
 (nat_lit 254,hT []) ::
 (nat_lit 256,hT [hS "state" 525,hS "many" 526,hS "found" 527,hS "mixed" 528]) ::
 (nat_lit 257,hT []) ::
 (nat_lit 259,hC "_law_take" "_law_take" 522 151 2 254 255 (.ref 256) (.ref 257) 258 529 530) ::
 (nat_lit 260,hF "_law_take" "_law_take" (dF 38) .none .none (hS "law_hushcards_k55_formulas_known" 503) none (.ref 259) .none) ::
 (nat_lit 261,hT []) ::
 (nat_lit 264,hC "_law_order" "_law_order" 532 160 2 261 262 .none .none 263 535 536) ::
 (nat_lit 265,hF "_law_order" "_law_order" (dF 39) .none .none (hS "law_hushcards_k55_formulas_known" 503) none (.ref 264) .none) ::
 (nat_lit 266,hT []) ::
 (nat_lit 268,hT [hS "state" 541,hS "bits" 542,hS "found" 543,hS "cut_at" 544,hS "parts" 545,hS "turn" 546]) ::
 (nat_lit 269,hT []) ::
 (nat_lit 271,hC "_law_formula" "_law_formula" 538 163 2 266 267 (.ref 268) (.ref 269) 270 547 548) ::
 (nat_lit 272,hF "_law_formula" "_law_formula" (dF 40) .none .none (hS "law_hushcards_k55_formulas_known" 503) none (.ref 271) .none) ::
 (nat_lit 273,hT []) ::
 (nat_lit 275,hT [hS "state" 553,hS "bits" 554]) ::
 (nat_lit 276,hT []) ::
 (nat_lit 278,hC "_law_some_formula" "_law_some_formula" 550 173 1 273 274 (.ref 275) (.ref 276) 277 555 556) ::
 (nat_lit 279,hF "_law_some_formula" "_law_some_formula" (dF 41) .none .none (hS "law_hushcards_k55_formulas_known" 503) none (.ref 278) .none) ::
 (nat_lit 280,hT []) ::
 (nat_lit 282,hT [hS "formula" 561,hS "bits" 562,hS "count" 563]) ::
 (nat_lit 283,hT []) ::
 (nat_lit 285,hC "_law_worth" "_law_worth" 558 176 2 280 281 (.ref 282) (.ref 283) 284 564 565) ::
 (nat_lit 286,hF "_law_worth" "_law_worth" (dF 42) .none .none (hS "law_hushcards_k55_formulas_known" 503) none (.ref 285) .none) ::
 (nat_lit 287,hT []) ::
 (nat_lit 289,hT [hS "formula" 570,hS "found" 571,hS "part" 572]) ::
 (nat_lit 290,hT []) ::
 (nat_lit 292,hC "_law_bits_in" "_law_bits_in" 567 183 1 287 288 (.ref 289) (.ref 290) 291 573 574) ::
 (nat_lit 293,hF "_law_bits_in" "_law_bits_in" (dF 43) .none .none (hS "law_hushcards_k55_formulas_known" 503) none (.ref 292) .none) ::
 (nat_lit 294,hT []) ::
 (nat_lit 297,hC "_law_all_bits" "_law_all_bits" 576 190 1 294 295 .none .none 296 579 580) ::
 (nat_lit 298,hF "_law_all_bits" "_law_all_bits" (dF 44) .none .none (hS "law_hushcards_k55_formulas_known" 503) none (.ref 297) .none) ::
 (nat_lit 299,hT []) ::
 (nat_lit 301,hT [hS "e" 585,hS "marks" 586]) ::
 (nat_lit 302,hT []) ::
 (nat_lit 304,hC "_law_mark" "_law_mark" 582 195 1 299 300 (.ref 301) (.ref 302) 303 587 588) ::
 (nat_lit 305,hF "_law_mark" "_law_mark" (dF 45) .none .none (hS "law_hushcards_k55_formulas_known" 503) none (.ref 304) .none) ::
 (nat_lit 306,hT []) ::
 (nat_lit 308,hT [hS "formula" 593,hS "deep" 594,hS "turn" 595]) ::
 (nat_lit 309,hT []) ::
 (nat_lit 311,hC "_law_deep" "_law_deep" 590 203 2 306 307 (.ref 308) (.ref 309) 310 596 597) ::
 (nat_lit 312,hF "_law_deep" "_law_deep" (dF 46) .none .none (hS "law_hushcards_k55_formulas_known" 503) none (.ref 311) .none) ::
 (nat_lit 313,hT []) ::
 (nat_lit 315,hT [hS "state" 602,hS "formula" 603,hS "way" 604,hS "odds" 605,hS "odd" 606,hS "some" 607]) ::
 (nat_lit 316,hT []) ::
 (nat_lit 318,hC "_law_bent" "_law_bent" 599 207 2 313 314 (.ref 315) (.ref 316) 317 608 609) ::
 (nat_lit 319,hF "_law_bent" "_law_bent" (dF 47) .none .none (hS "law_hushcards_k55_formulas_known" 503) none (.ref 318) .none) ::
 (nat_lit 320,hT []) ::
 (nat_lit 323,hC "_law_look" "_law_look" 611 220 2 320 321 .none .none 322 614 615) ::
 (nat_lit 324,hF "_law_look" "_law_look" (dF 48) .none .none (hS "law_hushcards_k55_formulas_known" 503) none (.ref 323) .none) ::
 (nat_lit 325,hT []) ::
 (nat_lit 327,hT [hS "thing" 620,hS "found" 621]) ::
 (nat_lit 328,hT []) ::
 (nat_lit 330,hC "_law_due" "_law_due" 617 235 1 325 326 (.ref 327) (.ref 328) 329 622 623) ::
 (nat_lit 331,hF "_law_due" "_law_due" (dF 49) .none .none (hS "law_hushcards_k55_formulas_known" 503) none (.ref 330) .none) ::
 (nat_lit 332,hT []) ::
 (nat_lit 334,hT [hS "way" 628,hS "thing" 629,hS "e" 630]) ::
 (nat_lit 335,hT []) ::
 (nat_lit 337,hC "_law_refused" "_law_refused" 625 238 2 332 333 (.ref 334) (.ref 335) 336 631 632) ::
 (nat_lit 338,hF "_law_refused" "_law_refused" (dF 50) .none .none (hS "law_hushcards_k55_formulas_known" 503) none (.ref 337) .none) ::
 (nat_lit 339,hT []) ::
 (nat_lit 341,hT [hS "thing" 637,hS "found" 638,hS "bits" 639,hS "told" 640]) ::
 (nat_lit 342,hT []) ::
 (nat_lit 344,hC "_law_right" "_law_right" 634 247 1 339 340 (.ref 341) (.ref 342) 343 641 642) ::
 (nat_lit 345,hF "_law_right" "_law_right" (dF 51) .none .none (hS "law_hushcards_k55_formulas_known" 503) none (.ref 344) .none) ::
 (nat_lit 346,hT []) ::
 (nat_lit 349,hC "law" "law" 644 258 1 346 347 .none .none 348 647 648) ::
 (nat_lit 350,hF "law" "law" (dF 52) .none .none (hS "law_hushcards_k55_formulas_known" 503) none (.ref 349) .none)::[]
noncomputable def vw:RF:={PySem.Challenge.pw_hushcards_k55_formulas_known with main:={PySem.Challenge.pw_hushcards_k55_formulas_known.main with body:=([1,2,3,4,5,6,7,8,10,12,13,14,15,17,18,19,20,21,23,24,25,26,27,28,29,30,31,32,33,34,36,37,38,39,40,41,42,43,44,45,46,47,48,49,50,51,52]:List Nat).map dF}}
noncomputable def hk:PySem.W.Hook:=PySem.W.kHook Kf [2,3,15,22,23,24,25,28,35,36,37,40,47,49,50,52,53,54,55,56,59,66,67,68,71,78,79,80,83,90,91,92,95,102,103,104,107,114,115,116,119,121,122,124,125,126,128,129,131,132,133,136,137,138,141,142,143,145,146,148,149,150,152,153,155,156,157,159,160,162,163,164,167,168,169,171,172,174,175,176,178,179,181,182,183,185,186,188,189,190,193,194,195,198,199,200,202,203,205,206,207,209,210,212,213,214,216,217,219,220,221,223,224,226,227,228,230,231,233,234,235,238,239,240,242,243,245,246,247,249,250,252,253,254,256,257,259,260,261,264,265,266,268,269,271,272,273,275,276,278,279,280,282,283,285,286,287,289,290,292,293,294,297,298,299,301,302,304,305,306,308,309,311,312,313,315,316,318,319,320,323,324,325,327,328,330,331,332,334,335,337,338,339,341,342,344,345,346,349,350] (λ_=>by kernel_rfl)
noncomputable abbrev Oc:=PySem.Challenge.rw_hushcards_k55_formulas_known.row
theorem left:PySem.W.LeftO Oc.prog vw [] (λs=>PySem.W.xlAt vw [] s&&PySem.W.recOk (PySem.W.RowW.records Oc.toRowW) s) hk.obs hk.val 5862:=λw=>by kernel_rfl
end Hc
namespace L2
noncomputable abbrev Key:=Sum Int Str
noncomputable def sr:Key->QG->Bool
 | .inl k,v=>Value.isInt k v
 | .inr x,v=>Value.isStrOf x v
noncomputable def Mi (w:Rx):Key->Int
 | .inl k=>hashInt k
 | .inr x=>hashStr w x
theorem cD:∀{k:Key} {v:QG},sr k v=true->(∃i t,k=Sum.inl i/\v=Value.int i t)\/(∃x t,k=Sum.inr x/\v=Value.str x t)
 | .inl i,v,h=>by
  obtain⟨t,e⟩:=Value.isInt_shape (k:=i) (v:=v) h;exact .inl ⟨i,t,rfl,e⟩
 | .inr x,v,h=>by
  obtain⟨t,e⟩:=Value.isStrOf_shape (x:=x) (v:=v) h;exact .inr ⟨x,t,rfl,e⟩
theorem zg (i:Int)(t:Tok):sr (.inl i) (.int i t)=true:=by simp[sr,Value.isInt]
theorem zh (x:Str)(t:Tok):sr (.inr x) (.str x t)=true:=by simp[sr,Value.isStrOf]
theorem G7 (a b:Int):decide ((Sum.inl a:Key)=Sum.inl b)=(a==b):=by
 by_cases e:a=b
 ·subst e;simp
 ·have h:¬(Sum.inl a:Key)=Sum.inl b:=λq=>e (Sum.inl.inj q);rw[hJ h];exact (beq_eq_false_iff_ne.mpr e).symm
theorem G8 (a b:Str):decide ((Sum.inr a:Key)=Sum.inr b)=decide (a=b):=by
 by_cases e:a=b
 ·subst e;simp
 ·have h:¬(Sum.inr a:Key)=Sum.inr b:=λq=>e (Sum.inr.inj q);rw[hJ h,hJ e]
theorem G9 (a:Int)(b:Str):decide ((Sum.inl a:Key)=Sum.inr b)=false:=hJ (λq=>nomatch q)
theorem G_ (a:Str)(b:Int):decide ((Sum.inr a:Key)=Sum.inl b)=false:=hJ (λq=>nomatch q)
noncomputable def c8 (prog:RF)(w:Rx):PySem.KeyKind prog w Key where
 is:=sr
 hash:=Mi w
 inj:=λv a b ha hb=>by
  rcases cD ha with⟨i,t,rfl,rfl⟩|⟨x,t,rfl,rfl⟩
  ·rcases cD hb with⟨j,u,rfl,e⟩|⟨y,u,rfl,e⟩
   ·injection e with e1 _;rw[e1]
   ·exact nomatch e
  ·rcases cD hb with⟨j,u,rfl,e⟩|⟨y,u,rfl,e⟩
   ·exact nomatch e
   ·injection e with e1 _;rw[e1]
 byValue:=λk v h=>by
  rcases cD h with⟨i,t,rfl,rfl⟩|⟨x,t,rfl,rfl⟩<;>rfl
 pyHash:=λhv h=>by
  rcases cD hv with⟨i,t,rfl,rfl⟩|⟨x,t,rfl,rfl⟩
  ·exact wpAny_pyHash_int h
  ·exact wpAny_pyHash_str h
 eqBool:=λhu hv h=>by
  rcases cD hu with⟨i,t,rfl,rfl⟩|⟨x,t,rfl,rfl⟩
  ·rcases cD hv with⟨j,u,rfl,rfl⟩|⟨y,u,rfl,rfl⟩
   ·rw[G7] at h;exact wpAny_eqBool_int h
   ·rw[G9] at h;exact T4 i t y u _ _ _ _ h
  ·rcases cD hv with⟨j,u,rfl,rfl⟩|⟨y,u,rfl,rfl⟩
   ·rw[G_] at h;exact T5 x t j u _ _ _ _ h
   ·rw[G8] at h;exact wpAny_eqBool_str h
 «strs»:=λk x t v h=>by
  rcases cD h with⟨i,u,rfl,e⟩|⟨y,u,rfl,e⟩
  ·exact nomatch e
  ·injection e with e1 _
   subst e1;cases v<;>rfl
theorem uY (prog:RF)(w:Rx)(i:Int)(t:Tok):(c8 prog w).is (.inl i) (.int i t)=true:=zg i t
theorem uZ (prog:RF)(w:Rx)(x:Str)(t:Tok):(c8 prog w).is (.inr x) (.str x t)=true:=zh x t
end L2
namespace L2
inductive V where
 |non|bl (b:Bool)|int (i:Int)|str (x:Str)|byt (b:Array UInt8)|flt (b:UInt64)|ref (a:QX)|ty (n:String)
 deriving DecidableEq
def bc:V->QG->Prop
 | .non,u=>u=Value.none
 | .bl b,u=>u=Value.bool b
 | .int i,u=>∃t,u=Value.int i t
 | .str x,u=>∃t,u=Value.str x t
 | .byt b,u=>∃t,u=Value.bytes b t
 | .flt b,u=>∃t,u=Value.float b t
 | .ref a,u=>u=Value.ref a
 | .ty n,u=>u=Value.type n
abbrev a8:List V->List QG->Prop:=Paired bc
theorem a8.length {xs:List V}{us:List QG}(r:a8 xs us):xs.length=us.length:=Paired.length r
theorem a8.get:∀{xs:List V} {us:List QG} {i:Nat} {x:V},a8 xs us->xs[i]? = some x->∃u,us[i]? = some u/\bc x u
 |_,_,_,_,.nil,e=>by simp at e
 |_,_,0,_,.cons r _,e=>by simp at e;subst e;exact⟨_,rfl,r⟩
 |_,_,i+1,x,.cons _ t,e=>by
  obtain⟨u,h1,h2⟩:=a8.get (i:=i) (x:=x) t (by simpa using e);exact⟨u,by simpa using h1,h2⟩
theorem a8.set {x:V}{u:QG}(r:bc x u):∀{xs:List V} {us:List QG} (i:Nat),a8 xs us->a8 (xs.set i x) (us.set i u)
 |_,_,_,.nil=>.nil
 |_,_,0,.cons _ t=>.cons r t
 |_,_,i+1,.cons q t=>.cons q (a8.set r i t)
theorem a8.append:∀{xs ys:List V} {us ws:List QG},a8 xs us->a8 ys ws->a8 (xs++ys) (us++ws)
 |_,_,_,_,.nil,s=>s
 |_,_,_,_,.cons r t,s=>.cons r (a8.append t s)
theorem a8.take:∀{xs:List V} {us:List QG} (n:Nat),a8 xs us->a8 (xs.take n) (us.take n)
 |_,_,0,_=>.nil
 |_,_,_+1,.nil=>.nil
 |_,_,n+1,.cons r t=>.cons r (a8.take n t)
theorem a8.drop:∀{xs:List V} {us:List QG} (n:Nat),a8 xs us->a8 (xs.drop n) (us.drop n)
 |_,_,0,r=>r
 |_,_,_+1,.nil=>.nil
 |_,_,n+1,.cons _ t=>a8.drop n t
def tm:Option V->Option QG->Prop
 |some v,some u=>bc v u
 |none,none=>True
 |_,_=>False
def KV {κ:Type}:List (κ×V)->List (κ×QG)->Prop:=Paired λ(p:κ×V) (q:κ×QG)=>p.1=q.1/\bc p.2 q.2
noncomputable def kV:Key->V
 | .inl i=>.int i
 | .inr x=>.str x
inductive HO where
 |lst (xs:List V)
 |tup (xs:List V)
 |dK (bA:List (Key×V))|dT (bA:List (List Key×V))
 |set (S:Int->Bool) (n:Nat)
 |ins (C dx:QX) (fs:List (Str×V))
 |own (x:QX)
 |xd (fs:List (Str×V))
 |met (f x:QX)
 |rng (lo hi:Int)
 |frz (o:Obj) (u:HO)
 |tbl (ps:Array QG)
 |ext (φ:S2->Prop)
noncomputable abbrev Hp:=QX->Option HO
noncomputable def cE (H:Hp)(a:QX)(o:HO):Hp:=λb=>if b=a then some o else H b
theorem aT {H:Hp}{o:HO}:cE H a o a=some o:=by unfold cE;rw[hV rfl]
theorem aL {H:Hp}{o:HO}(h:b≠a):cE H a o b=H b:=by unfold cE;rw[hU h]
theorem bz {H:Hp}{o:HO}(h:H a=some o)(h':H b=none):a≠b:=by
 intro e;subst e;rw[h] at h';cases h'
section
variable (P:RF)(w:Rx)
def bU (H:Hp)(h:S2)(a:QX):HO->Prop
 | .lst xs=>xs.length<=QC/\∃(ay:List QG) (n:Nat),a8 xs ay/\h.get? a=some {cls:=.type "list",data:=.seq ay.toArray n}
 | .tup xs=>xs.length<=QC/\∃ay:List QG,a8 xs ay/\IsTup h a ay.toArray/\∃n,h.get? a=some {cls:=.type "tuple",data:=.seq ay.toArray n}
 | .dK bA=>bA.length<=QC/\(a==SM)=false/\∃vs,KV bA vs/\h.DictOf (c8 P w) a vs
 | .dT bA=>bA.length<=QC/\(a==SM)=false/\∃xs:List (List Key×QX×QG),
   Paired (λ(p:List Key×V) (q:List Key×QX×QG)=>p.1=q.1/\H q.2.1=some (.tup (p.1.map kV))/\bc p.2 q.2.2) bA xs/\
   ∃o es ep,h.get? a=some o/\o.ExactDict/\o.data=.dict es ep/\es.toList=xs.map (entryOfKey (tupleKind (c8 P w)))/\(xs.map (·.1)).Nodup
 | .set S n=>h.SetOf (intKind P w) a S n
 | .ins C dx fs=>H dx=some (.own a)/\fs.length<=1000/\dx≠a/\h.get? a=some (PySem.W.instObj C dx)/\
   ∃mA,h.Ns1 dx mA/\(∀f,tm (fs.lookup f) (mA f))/\PySem.Within mA (fs.map (·.1))
 | .own _=>∃o,h.get? a=some o
 | .xd fs=>∃mA,h.Ns1 a mA/\∀f,tm (fs.lookup f) (mA f)
 | .rng lo hi=>∃t u v,h.get? a=some {cls:=.type "range",data:=.fields (List.toArray [.int lo t,.int hi u,.int 1 v])}
 | .frz o u=>h.get? a=some o/\bU H h a u
 | .tbl ps=>h.get? a=some {cls:=.none,data:=.fields ps}
 | .met f x=>h.get? a=some (Ui (.ref f) (.ref x))
 | .ext φ=>φ h/\(∃o,h.get? a=some o)/\∀h1 h2:S2,φ h1->(∀o,h1.get? a=some o->h2.get? a=some o)->φ h2
def jR (H:Hp)(h:S2):Prop:=∀a o,H a=some o->bU P w H h a o
end
section
variable {w:Rx}{H H':Hp}{o:HO}
theorem bU.lt (x:bU P w H h a o):a<h.objs.size:=by
 cases o with
 |lst xs=>obtain⟨_,_,_,_,e⟩:=x;exact QO e
 |tup xs=>obtain⟨_,_,_,p,_⟩:=x;exact p.lt
 |dK bA=>obtain⟨_,_,_,_,o,_,_,e,_⟩:=x;exact QO e
 |dT bA=>obtain⟨_,_,_,_,o,_,_,e,_⟩:=x;exact QO e
 |set S n=>obtain⟨o,_,_,_,e,_⟩:=x;exact QO e
 |ins C dx fs=>obtain⟨_,_,_,e,_⟩:=x;exact QO e
 |own y=>obtain⟨_,e⟩:=x;exact QO e
 |xd fs=>obtain⟨_,⟨_,_,_,e,_⟩,_⟩:=x;exact QO e
 |rng lo hi=>obtain⟨_,_,_,e⟩:=x;exact QO e
 |frz ob u=>obtain⟨e,_⟩:=x;exact QO e
 |tbl ps=>exact QO (show h.get? a=some _ from x)
 |met f y=>exact QO (show h.get? a=some _ from x)
 |ext φ=>obtain⟨_,⟨_,e⟩,_⟩:=x;exact QO e
theorem Paired.mapP {α β:Type}{F G:α->β->Prop}:∀{l₁:List α} {l₂:List β},Paired F l₁ l₂->(∀a b,F a b->G a b)->Paired G l₁ l₂
 |_,_,.nil,_=>.nil
 |_,_,.cons r t,f=>.cons (f _ _ r) (Paired.mapP t f)
theorem bU.stay (x:bU P w H h a o)(k:∀b u,(b=a\/H b=some (.own a))->h.get? b=some u->h'.get? b=some u)
  (ho:∀b,H b=some (.own a)->H' b=some (.own a)) (ht:∀b xs,H b=some (.tup xs)->H' b=some (.tup xs)):bU P w H' h' a o:=by
 induction o with
 |lst xs=>obtain⟨z,ay,n,r,e⟩:=x;exact⟨z,ay,n,r,k _ _ (.inl rfl) e⟩
 |tup xs=>obtain⟨z,ay,r,⟨ob,e,c⟩,n2,e2⟩:=x;exact⟨z,ay,r,⟨ob,k _ _ (.inl rfl) e,c⟩,n2,k _ _ (.inl rfl) e2⟩
 |dK bA=>obtain⟨z,y,vs,r,ob,es,ep,e,c⟩:=x;exact⟨z,y,vs,r,ob,es,ep,k _ _ (.inl rfl) e,c⟩
 |dT bA=>
  obtain⟨z,y,xs,r,ob,es,ep,e,c⟩:=x;exact⟨z,y,xs,Paired.mapP r λp q z=>⟨z.1,ht _ _ z.2.1,z.2.2⟩,ob,es,ep,k _ _ (.inl rfl) e,c⟩
 |set S n=>obtain⟨ob,es,ep,t,e,c⟩:=x;exact⟨ob,es,ep,t,k _ _ (.inl rfl) e,c⟩
 |ins C dx fs=>
  obtain⟨d,z,ne,e,mA,⟨od,es,ep,e2,c⟩,r⟩:=x;exact⟨ho _ d,z,ne,k _ _ (.inl rfl) e,mA,⟨od,es,ep,k _ _ (.inr d) e2,c⟩,r⟩
 |own y=>obtain⟨ob,e⟩:=x;exact⟨ob,k _ _ (.inl rfl) e⟩
 |xd fs=>obtain⟨mA,⟨od,es,ep,e,c⟩,r⟩:=x;exact⟨mA,⟨od,es,ep,k _ _ (.inl rfl) e,c⟩,r⟩
 |rng lo hi=>obtain⟨t,u,v,e⟩:=x;exact⟨t,u,v,k _ _ (.inl rfl) e⟩
 |frz ob u ih=>obtain⟨e,q⟩:=x;exact⟨k _ _ (.inl rfl) e,ih q⟩
 |tbl ps=>
  have e:h.get? a=some {cls:=.none,data:=.fields ps}:=x;show h'.get? a=some {cls:=.none,data:=.fields ps};exact k a _ (.inl rfl) e
 |met f y=>
  have e:h.get? a=some (Ui (.ref f) (.ref y)):=x;show h'.get? a=some (Ui (.ref f) (.ref y));exact k a _ (.inl rfl) e
 |ext φ=>obtain⟨p,⟨o,e⟩,st⟩:=x;exact⟨st _ _ p λo q=>k _ _ (.inl rfl) q,⟨o,k _ _ (.inl rfl) e⟩,st⟩
theorem jR.lt (x:jR P w H h)(e:H a=some o):a<h.objs.size:=(x a o e).lt
theorem jR.fresh (x:jR P w H h)(e:h.objs.size<=a):H a=none:=by
 cases q:H a with
 |none=>rfl
 |some u=>exact absurd (Q3 (x.lt q) e) (RT _)
theorem jR.kept (x:jR P w H h)(k:∀b u,h.get? b=some u->h'.get? b=some u):jR P w H h':=λa o e=>
 (x a o e).stay (λb u _ q=>k b u q) (λ_ q=>q) λ_ _ q=>q
theorem jR.laid (x:jR P w H h)(k:∀b u,h.get? b=some u->h'.get? b=some u)(hp:h.objs.size<=a)(new:bU P w (cE H a o) h' a o):jR P w (cE H a o) h':=λb u e=>by
 have hn:=x.fresh hp;by_cases hb:b=a
 ·subst hb;rw[aT] at e;cases e;exact new
 ·rw[aL hb] at e;exact (x b u e).stay (λc v _ q=>k c v q) (λc q=>by rw[aL (bz q hn)];exact q) λc xs q=>by rw[aL (bz q hn)];exact q
end
def Rd (H:Hp)(a:QX)(u:HO):Prop:=H a=some u\/∃o,H a=some (.frz o u)
theorem Rd.ok {w:Rx}{H:Hp}{u:HO}(r:Rd H a u)(x:jR P w H h):bU P w H h a u:=by
 rcases r with r|⟨o,r⟩
 ·exact x a u r
 ·obtain⟨_,q⟩:=x a _ r;exact q
def JM:Option HO->Prop
 |some (.lst _)=>True
 |some (.dK _)=>True
 |some (.dT _)=>True
 |some (.set _ _)=>True
 |some (.ins _ _ _)=>True
 |some (.ext _)=>True
 |_=>False
section
variable {w:Rx}{H:Hp}{x e:QX}{o':HO}
theorem jR.write (ok:jR P w H h)(mu:JM (H x))(he:e=x\/H e=some (.own x))(k:∀b u,b≠e->h.get? b=some u->h'.get? b=some u)(JH:∃u,h'.get? e=some u)
  (new:bU P w (cE H x o') h' x o'):jR P w (cE H x o') h':=λb u q=>by
 have Ll:∀c y,H c=some (.own y)->c≠x:=λc y r z=>by subst z;rw[r] at mu;exact mu
 have Nh:∀c xs,H c=some (.tup xs)->c≠x:=λc xs r z=>by subst z;rw[r] at mu;exact mu
 by_cases hb:b=x
 ·subst hb;rw[aT] at q;cases q;exact new
 ·rw[aL hb] at q;by_cases hbe:b=e
  ·have q':H b=some (.own x):=by
    rcases he with z|z
    ·exact absurd (hbe.trans z) hb
    ·rw[hbe];exact z
   rw[q] at q';cases q';obtain⟨v,hv⟩:=JH;exact⟨v,by rw[hbe];exact hv⟩
  ·refine (ok b u q).stay (λc v hc r=>k c v ?_ r) (λc r=>by rw[aL (Ll c b r)];exact r) λc xs r=>by rw[aL (Nh c xs r)];exact r
   rcases hc with rfl|hc
   ·exact hbe
   ·rintro rfl;rcases he with z|z
    ·exact Ll c b hc z
    ·rw[hc] at z;cases z;exact hb rfl
end
structure Un (fs ex:List QX)(H H':Hp)(h h':S2):Prop where
 keep:∀b o,h.get? b=some o->H b=none->b∉fs->b∉ex->h'.get? b=some o
 slot:∀b o,h.get? b=some o->H b=none->b∈fs->b∉ex->∃sl,h'.get? b=some {o with slots:=sl}
 free:∀b o,h.get? b=some o->H b=none->b∉ex->H' b=none
 there:∀b o,h.get? b=some o->b∉ex->∃o',h'.get? b=some o'
 tups:∀b xs,H b=some (.tup xs)->H' b=some (.tup xs)
 frzs:∀b o u,H b=some (.frz o u)->H' b=some (.frz o u)
 tbls:∀b ps,H b=some (.tbl ps)->∃more,H' b=some (.tbl (ps++more))
section
variable {fs fs' ex ex':List QX}{H H1 H2:Hp}{h1 h2:S2}{x e:QX}{o:HO}
theorem Un.any (u:Un fs ex H H1 h h1){ob:Obj}(q:h.get? b=some ob)(n:H b=none)(hx:b∉ex):∃sl,h1.get? b=some {ob with slots:=sl}:=by
 by_cases hb:b∈fs
 ·exact u.slot b ob q n hb hx
 ·exact⟨ob.slots,u.keep b ob q n hb hx⟩
theorem Un.kept (k:∀b u,h.get? b=some u->h'.get? b=some u):Un fs ex H H h h' :=
 ⟨λb ob q _ _ _=>k b ob q,λb ob q _ _ _=>⟨ob.slots,k b ob q⟩,λ_ _ _ n _=>n,λb ob q _=>⟨ob,k b ob q⟩,λ_ _ q=>q,λ_ _ _ q=>q,λ_ ps q=>⟨(List.toArray []),by rw[q];simp⟩⟩
theorem Un.refl:Un fs ex H H h h:=Un.kept λ_ _ q=>q
theorem Un.laid (k:∀b u,h.get? b=some u->h'.get? b=some u)(hp:h.objs.size<=a)(hn:H a=none):Un fs ex H (cE H a o) h h' where
 keep:=λb u q _ _ _=>k b u q
 slot:=λb u q _ _ _=>⟨u.slots,k b u q⟩
 free:=λb u q n _=>by rw[aL (Q_ (Q3 (QO q) hp))];exact n
 there:=λb u q _=>⟨u,k b u q⟩
 tups:=λb xs q=>by rw[aL (bz q hn)];exact q
 frzs:=λb u xs q=>by rw[aL (bz q hn)];exact q
 tbls:=λb ps q=>⟨(List.toArray []),by rw[aL (bz q hn),q];simp⟩
theorem Un.write (mu:JM (H x))(he:e=x\/H e=some (.own x))(k:∀b u,b≠e->h.get? b=some u->h'.get? b=some u)(JH:∃u,h'.get? e=some u):Un fs ex H (cE H x o) h h':=by
 have hx:∀b,H b=none->b≠x:=λb n z=>by subst z;rw[n] at mu;exact mu
 have hb:∀b,H b=none->b≠e:=λb n z=>by
  subst z;rcases he with r|r
  ·exact hx b n r
  ·rw[n] at r;cases r
 have hm:∀b u,H b=some u->¬JM (some u)->b≠x:=λb u q nm z=>by subst z;rw[q] at mu;exact nm mu
 refine⟨λb u q n _ _=>k b u (hb b n) q,λb u q n _ _=>⟨u.slots,k b u (hb b n) q⟩,λb u q n _=>by rw[aL (hx b n)];exact n,λb u q _=>?_,
  λb xs q=>by rw[aL (hm b _ q λz=>z)];exact q,λb u xs q=>by rw[aL (hm b _ q λz=>z)];exact q,λb ps q=>⟨(List.toArray []),by rw[aL (hm b _ q λz=>z),q];simp⟩⟩
 by_cases hbe:b=e
 ·subst hbe;exact JH
 ·exact⟨u,k b u hbe q⟩
end
noncomputable def LM (h:S2)(H:Hp):List QX:=(RL h.objs.size).filter λa=>(H a).isSome
noncomputable def tq (h:S2)(H:Hp):S2:=PySem.W.hideAll h (LM h H)
theorem zj (h:S2)(H:Hp):(tq h H).objs.size=h.objs.size:=PySem.W.hideAll_size _ _
theorem AO {H:Hp}{o:Obj}(e:h.get? b=some o)(n:H b=none):(tq h H).get? b=some o:=
 PySem.W.hideAll_get _ e λhm=>by
  have q:(H b).isSome=true:=(List.mem_filter.mp hm).2;rw[n] at q;simp at q
theorem D7 {H:Hp}{o:Obj}(e:(tq h H).get? b=some o):h.get? b=some o/\H b=none:=by
 have e':h.get? b=some o:=PySem.W.of_hideAll (LM h H) e;refine⟨e',?_⟩;cases q:H b with
 |none=>rfl
 |some x=>
  have hm:b∈LM h H:=List.mem_filter.mpr ⟨Tq.mpr (QO e'),by simp[q]⟩;have z:(tq h H).get? b=none:=PySem.W.hideAll_none (LM h H) hm;rw[z] at e;cases e
end L2
variable {xs vs:List L2.V}{H H' H1 H2:L2.Hp}{o:L2.HO}{v y:L2.V}{bA:List (L2.Key×L2.V)}
namespace L2
structure Mod (K:QB)(mg:Str->Option QG)(base:S2):Prop where
 kin:K.In base
 glob:base.Ns QT mg
 blt:∃mb,base.Ns builtinsNs mb/\∀x:Str,x≠"__name__"->mb x=Ra x
 nolimit:base.NoLimit
structure Cx where
 prog:RF
 w:Rx
 K:QB
 mg:Str->Option QG
 base:S2
 A:Rk
 N:List Str
 s₀:QP
 H₀:Hp
 env:Env
 outer:List Env
 stack:List Env
 ex:List QX
 fn:Str->Bool
 calm:Bool
 pn:List (QX×Obj)
 xe:QG->QP->Prop
noncomputable def pT (l:List Env):List QX:=l.filterMap (·.frame)
noncomputable abbrev Cx.fs (X:Cx):List QX:=pT X.outer
def zk (sc:Ud)(x:Str):Prop:=sc.names.lookup x=some .local\/sc.names.lookup x=some .cell\/sc.names.lookup x=some .free
def AQ (sc:Ud)(x:Str):Prop:=sc.names.lookup x=some .local\/sc.names.lookup x=some .cell
def Mj (env:Env)(h:S2)(m:Str->Option QG)(x:Str)(u:QG):Prop:=
 (env.kindOf x=some .local/\m x=some u)\/((env.kindOf x=some .cell\/env.kindOf x=some .free)/\∃c,env.cells.lookup x=some c/\h.IsCell c (some u))
structure Cx.Ok (X:Cx):Prop where
 mod:Mod X.K X.mg X.base
 kind:X.env.scope.kind=.function
 glob:X.env.globals=QT
 blt:X.env.builtins=builtinsNs
 above:X.s₀.heap.objs.size<=X.env.locals
 inj:∀x y c,X.env.cells.lookup x=some c->X.env.cells.lookup y=some c->x=y
 has:∀x,(X.env.kindOf x=some .cell\/X.env.kindOf x=some .free)->∃c,X.env.cells.lookup x=some c
 cab:∀x c,X.fn x=true->X.env.cells.lookup x=some c->X.s₀.heap.objs.size<=c
 hd:X.calm=true->X.A.handled=none
 frames:X.A.frames=some X.stack
 stk:X.stack=X.outer\/(X.stack=X.env::X.outer/\X.env.frame=some X.env.locals)
 exf:∀b∈X.ex,b≠X.env.locals/\∀x c,X.env.cells.lookup x=some c->c≠b
 bs:∀b o,X.base.get? b=some o->X.s₀.heap.get? b=some o/\X.H₀ b=none
 bsz:X.base.objs.size<=X.s₀.heap.objs.size
 noex:∀b o,X.base.get? b=some o->b∉X.ex
 exfs:∀b∈X.ex,b∉X.fs
 funs:X.s₀.heap.FunFrames X.base X.outer
 frf:∀b∈X.fs,X.H₀ b=none
structure aG (X:Cx)(pins:List (QX×Obj))(σ:List (Option V))(H:Hp)(s:QP):Prop where
 ok:X.Ok
 os:s.os=X.s₀.os
 bare:Ue s.gens
 base:Un X.fs X.ex X.H₀ H X.s₀.heap s.heap
 loc:∃m,s.heap.Ns X.env.locals m/\∀(i:Nat) (x:Str) (v:V),X.N[i]? = some x->σ[i]? = some (some v)->zk X.env.scope x->∃u,bc v u/\Mj X.env s.heap m x u
 cell:∀x c,X.env.cells.lookup x=some c->∃v,s.heap.IsCell c v
 free:H X.env.locals=none
 freeC:∀x c,X.env.cells.lookup x=some c->H c=none
 pin:∀p∈X.pn++pins,s.heap.get? p.1=some p.2/\H p.1=none/\p.1≠X.env.locals/\p.1∉X.fs/\∀v,p.2.data≠.cell v
 hok:jR X.prog X.w H s.heap
 len:σ.length=X.N.length
section
variable {X:Cx}{σ:List (Option V)}
theorem Cx.Ok.nofr (ok:X.Ok){o:Obj}(e:X.base.get? b=some o):b∉X.fs:=λhb=>by
 have:=(ok.funs.mem hb).1;rw[e] at this;cases this
theorem aG.bs (I:aG X pins σ H s):∀b o,X.base.get? b=some o->s.heap.get? b=some o/\H b=none:=λb o e=>
 ⟨I.base.keep b o (I.ok.bs b o e).1 (I.ok.bs b o e).2 (I.ok.nofr e) (I.ok.noex b o e),I.base.free b o (I.ok.bs b o e).1 (I.ok.bs b o e).2 (I.ok.noex b o e)⟩
theorem aG.bk (I:aG X pins σ H s):∀b o,X.base.get? b=some o->s.heap.get? b=some o:=λb o e=>(I.bs b o e).1
theorem aG.mod (I:aG X pins σ H s):Mod X.K X.mg X.base:=I.ok.mod
theorem aG.kIn (I:aG X pins σ H s):X.K.In s.heap:=I.ok.mod.kin.keeps I.bk
theorem aG.lt (I:aG X pins σ H s):X.env.locals<s.heap.objs.size:=let ⟨_,hn,_⟩:=I.loc;hn.lt
theorem aG.sz (I:aG X pins σ H s):X.s₀.heap.objs.size<=s.heap.objs.size:=Rn I.ok.above (T6 I.lt)
theorem aG.nofs (I:aG X pins σ H s)(h:s.heap.objs.size<=a):a∉X.fs:=λhb=>by
 obtain⟨_,o,ho,_⟩:=I.ok.funs.mem hb;exact absurd (Q3 (QO ho) (Rn I.sz h)) (RT _)
theorem aG.cne (I:aG X pins σ H s):∀x c,X.env.cells.lookup x=some c->c≠X.env.locals:=λx c e z=>by
 obtain⟨v,o,ho,hd⟩:=I.cell x c e;obtain⟨m,⟨o',es,ep,wI,hd',_⟩,_⟩:=I.loc;rw[z,wI] at ho;cases ho;rw[hd'] at hd;cases hd
theorem aG.funs (I:aG X pins σ H s):s.heap.FunFrames X.base X.outer:=by
 have all:∀(l:List Env),(∀b∈pT l,b∈X.fs)->X.s₀.heap.FunFrames X.base l->s.heap.FunFrames X.base l:=by
  intro l
  induction l with
  |nil=>intro _ _;trivial
  |cons env r ih=>
   intro hs hl;obtain⟨hk,⟨L,o,hf,hn,ho,hd⟩,hr⟩:=hl;have hL:L∈X.fs:=hs L (by unfold pT;rw[S3,hf];exact QZ);obtain⟨sl,e⟩:=I.base.slot L o ho (I.ok.frf L hL) hL λz=>I.ok.exfs L z hL;exact⟨hk,⟨L,_,hf,hn,e,hd⟩,ih (λb hb=>hs b (by unfold pT;rw[S3,hf];exact QW _ hb)) hr⟩
 exact all X.outer (λ_ hb=>hb) I.ok.funs
theorem aG.stack (I:aG X pins σ H s):s.heap.FunFrames X.base X.stack:=by
 rcases I.ok.stk with e|⟨e,hf⟩
 ·rw[e];exact I.funs
 ·rw[e];obtain⟨m,hn,_⟩:=I.loc;refine .cons (by rw[I.ok.kind];decide) hf hn ?_ I.funs;exact Heap.get?_none_of_le (Rn I.ok.bsz I.ok.above)
theorem aG.stkSub (I:aG X pins σ H s):∀b∈pT X.stack,b∈X.env.locals::X.fs:=λb hb=>by
 rcases I.ok.stk with e|⟨e,hf⟩
 ·rw[e] at hb;exact QW _ hb
 ·rw[e] at hb;unfold pT at hb;rw[S3,hf] at hb;exact hb
theorem aG.stkFree (I:aG X pins σ H s):∀b∈pT X.stack,H b=none:=λb hb=>by
 rcases QN.mp (I.stkSub b hb) with e|hb
 ·rw[e];exact I.free
 ·obtain⟨_,o,ho,_⟩:=I.ok.funs.mem hb;exact I.base.free b o ho (I.ok.frf b hb) λz=>I.ok.exfs b z hb
theorem aG.step {t':Nat}{d':Drawn}(I:aG X pins σ H s)(D6:∀b∈ch,(b∈X.ex\/X.s₀.heap.objs.size<=b)/\b≠X.env.locals/\(∀x c,X.env.cells.lookup x=some c->c≠b)/\∀p∈X.pn++pins,p.1≠b)(keep:∀b o,b≠X.env.locals->b∉X.fs->b∉ch->s.heap.get? b=some o->H b=none->h'.get? b=some o)(slot:∀b o,b≠X.env.locals->b∈X.fs->b∉ch->s.heap.get? b=some o->H b=none->∃sl,h'.get? b=some {o with slots:=sl})(free:∀b o,b∉ch->s.heap.get? b=some o->H b=none->H' b=none)(there:∀b o,b∉ch->s.heap.get? b=some o->∃o',h'.get? b=some o')(tups:∀b xs,H b=some (.tup xs)->H' b=some (.tup xs))(frzs:∀b o u,H b=some (.frz o u)->H' b=some (.frz o u))(tbls:∀b ps,H b=some (.tbl ps)->∃more,H' b=some (.tbl (ps++more)))(ns:∀m,s.heap.Ns X.env.locals m->h'.Ns X.env.locals m)(hok:jR X.prog X.w H' h')(hg:Ue g') :
  aG X pins σ H' {s with heap:=h',gens:=g',drawn:=d',toks:=t'}:=by
 have Fp:∀b o,X.s₀.heap.get? b=some o->b≠X.env.locals:=λb o e=>Q_ (Q3 (QO e) I.ok.above);have Ma:∀b o,X.s₀.heap.get? b=some o->b∉X.ex->b∉ch:=λb o e hx hb=>by
  rcases (D6 b hb).1 with z|z
  ·exact hx z
  ·exact absurd (Q3 (QO e) z) (RT _)
 have GV:∀x c,X.env.cells.lookup x=some c->∀v,s.heap.IsCell c v->h'.IsCell c v:=λx c e v h00=>by
  obtain⟨o,ho,hd⟩:=h00;have Lm:c∉ch:=λz=>(D6 c z).2.2.1 x c e rfl;by_cases hc:c∈X.fs
  ·obtain⟨sl,q⟩:=slot c o (I.cne x c e) hc Lm ho (I.freeC x c e);exact⟨_,q,hd⟩
  ·exact⟨o,keep c o (I.cne x c e) hc Lm ho (I.freeC x c e),hd⟩
 refine⟨I.ok,I.os,hg,⟨λb o e n hb hx=>?_,λb o e n hb hx=>?_,λb o e n hx=>?_,λb o e hx=>?_,λb xs e=>tups b xs (I.base.tups b xs e),λb o xs e=>frzs b o xs (I.base.frzs b o xs e),λb ps e=>?_⟩,?_,λx c e=>?_,?_,λx c e=>?_,λp hp=>?_,hok,I.len⟩
 ·exact keep b o (Fp b o e) hb (Ma b o e hx) (I.base.keep b o e n hb hx) (I.base.free b o e n hx)
 ·obtain⟨sl,e1⟩:=I.base.slot b o e n hb hx;obtain⟨LD,e2⟩:=slot b _ (Fp b o e) hb (Ma b o e hx) e1 (I.base.free b o e n hx);exact⟨LD,e2⟩
 ·obtain⟨o',e1⟩:=I.base.there b o e hx;exact free b o' (Ma b o e hx) e1 (I.base.free b o e n hx)
 ·obtain⟨o',e1⟩:=I.base.there b o e hx;exact there b o' (Ma b o e hx) e1
 ·obtain⟨m1,e1⟩:=I.base.tbls b ps e;obtain⟨m2,e2⟩:=tbls b _ e1;exact⟨m1++m2,by rw[e2,Array.append_assoc]⟩
 ·obtain⟨m,hn,hl⟩:=I.loc;refine⟨m,ns m hn,λi x v e1 e2 e3=>?_⟩;obtain⟨u,r,l⟩:=hl i x v e1 e2 e3;refine⟨u,r,?_⟩;rcases l with l|⟨k,c,e,z⟩
  ·exact .inl l
  ·exact .inr ⟨k,c,e,GV x c e _ z⟩
 ·obtain⟨v,z⟩:=I.cell x c e;exact⟨v,GV x c e v z⟩
 ·obtain⟨m,⟨o,_,_,ho,_⟩,_⟩:=I.loc;exact free _ o (λz=>(D6 _ z).2.1 rfl) ho I.free
 ·obtain⟨v,o,ho,hd⟩:=I.cell x c e;exact free c o (λz=>(D6 c z).2.2.1 x c e rfl) ho (I.freeC x c e)
 ·obtain⟨e,n,ne,nf,d⟩:=I.pin p hp;have Lm:p.1∉ch:=λz=>(D6 p.1 z).2.2.2 p hp rfl;exact⟨keep p.1 p.2 ne nf Lm e n,free p.1 p.2 Lm e n,ne,nf,d⟩
theorem aG.un {t':Nat}(I:aG X pins σ H s)(u:Un X.fs [] H H' s.heap h')(hok:jR X.prog X.w H' h'):aG X pins σ H' {s with heap:=h',toks:=t'}:=by
 obtain⟨m,⟨o,es,ep,ho,r⟩,_⟩:=id I.loc;obtain⟨sl,hL⟩:=u.any ho I.free (by simp);exact I.step (g':=s.gens) (d':=s.drawn) (ch:=[]) (λ_ z=>nomatch z) (λb o _ hb _ e n=>u.keep b o e n hb (by simp)) (λb o _ hb _ e n=>u.slot b o e n hb (by simp)) (λb o _ e n=>u.free b o e n (by simp)) (λb o _ e=>u.there b o e (by simp)) u.tups u.frzs u.tbls (λm' hm=>by
  obtain⟨o',es',ep',wI,r'⟩:=hm;rw[ho] at wI;cases wI;exact⟨_,es',ep',hL,r'⟩) hok I.bare
theorem aG.call {t':Nat}{d':Drawn}(I:aG X pins σ H s)(u:Un (pT X.stack) ch H H' s.heap h')(hok:jR X.prog X.w H' h')(hg:Ue g')(D6:∀b∈ch,(b∈X.ex\/X.s₀.heap.objs.size<=b)/\b≠X.env.locals/\(∀x c,X.env.cells.lookup x=some c->c≠b)/\∀p∈X.pn++pins,p.1≠b) :
  aG X pins σ H' {s with heap:=h',gens:=g',drawn:=d',toks:=t'}:=by
 obtain⟨m,⟨o,es,ep,ho,r⟩,_⟩:=id I.loc;obtain⟨sl,hL⟩:=u.any ho I.free λz=>(D6 _ z).2.1 rfl;exact I.step (ch:=ch) D6 (λb o hL hb hc e n=>u.keep b o e n (λz=>(QN.mp (I.stkSub b z)).elim hL hb) hc) (λb o _ _ hc e n=>u.any e n hc) (λb o hc e n=>u.free b o e n hc) (λb o hc e=>u.there b o e hc) u.tups u.frzs u.tbls (λm' hm=>by
  obtain⟨o',es',ep',wI,r'⟩:=hm;rw[ho] at wI;cases wI;exact⟨_,es',ep',hL,r'⟩) hok hg
theorem aG.turned {t':Nat}(I:aG X pins σ H s)(k:∀b o,b≠it->s.heap.get? b=some o->h'.get? b=some o)(hn:H it=none)(hL:it≠X.env.locals)(h1:it∈X.ex\/X.s₀.heap.objs.size<=it)(h2:∀x c,X.env.cells.lookup x=some c->c≠it)(h3:∀p∈X.pn++pins,p.1≠it):aG X pins σ H {s with heap:=h',toks:=t'}:=by
 have Oh:∀b u,H b=some u->b≠it:=λb u e z=>by rw[z,hn] at e;cases e
 refine I.step (g':=s.gens) (d':=s.drawn) (ch:=[it]) (λb hb=>?_) (λb o _ _ hc e _=>k b o (λz=>hc (by simp[z])) e) (λb o _ _ hc e _=>⟨o.slots,k b o (λz=>hc (by simp[z])) e⟩) (λ_ _ _ _ n=>n)
  (λb o hc e=>⟨o,k b o (λz=>hc (by simp[z])) e⟩) (λ_ _ e=>e) (λ_ _ _ e=>e) (λb ps e=>⟨(List.toArray []),by rw[e];simp⟩) (λm hm=>?_) (λb u e=>?_) I.bare
 ·have e:b=it:=by simpa using hb
  subst e;exact⟨h1,hL,h2,h3⟩
 ·obtain⟨o,es,ep,ho,r⟩:=hm;exact⟨o,es,ep,k _ o (Ne.symm hL) ho,r⟩
 ·refine (I.hok b u e).stay (λc v hc q=>k c v ?_ q) (λ_ q=>q) λ_ _ q=>q;rcases hc with z|z
  ·rw[z];exact Oh b u e
  ·exact Oh c _ z
theorem aG.tok (I:aG X pins σ H s)(t:Nat):aG X pins σ H {s with toks:=t}:=I.un (h':=s.heap) (t':=t) Un.refl I.hok
theorem aG.kept {t':Nat}(I:aG X pins σ H s)(k:∀b u,s.heap.get? b=some u->h'.get? b=some u):aG X pins σ H {s with heap:=h',toks:=t'}:=I.un (Un.kept k) (I.hok.kept k)
theorem aG.laid {t':Nat}(I:aG X pins σ H s)(k:∀b u,s.heap.get? b=some u->h'.get? b=some u)(hp:s.heap.objs.size<=a)(new:bU X.prog X.w (cE H a o) h' a o) :
  aG X pins σ (cE H a o) {s with heap:=h',toks:=t'}:=I.un (Un.laid k hp (I.hok.fresh hp)) (I.hok.laid k hp new)
theorem aG.write {t':Nat}{x e:QX}(I:aG X pins σ H s)(mu:JM (H x))(he:e=x\/H e=some (.own x))(k:∀b u,b≠e->s.heap.get? b=some u->h'.get? b=some u)(JH:∃u,h'.get? e=some u)(new:bU X.prog X.w (cE H x o) h' x o):aG X pins σ (cE H x o) {s with heap:=h',toks:=t'}:=I.un (Un.write mu he k JH) (I.hok.write mu he k JH new)
theorem aG.pins_of {GW:List (QX×Obj)}(I:aG X pins σ H s)(h:∀p∈GW,s.heap.get? p.1=some p.2/\H p.1=none/\p.1≠X.env.locals/\p.1∉X.fs/\∀v,p.2.data≠.cell v):aG X GW σ H s:=
 ⟨I.ok,I.os,I.bare,I.base,I.loc,I.cell,I.free,I.freeC,λp hp=>(Sw.mp hp).elim (λz=>I.pin p (Rc _ z)) (h p),I.hok,I.len⟩
theorem pU (hN:N.Nodup)(a:N[i]? = some x)(b:N[j]? = some x):i=j:=by
 obtain⟨h1,e1⟩:=QH.mp a;obtain⟨h2,e2⟩:=QH.mp b;exact (List.getElem_inj hN).mp (e1.trans e2.symm)
theorem su {A:Rk}{u:QG}{Q:Unit->QP->Prop}(I:aG X pins σ H s)(hN:X.N.Nodup)(hi:X.N[i]? = some x)(hx:AQ X.env.scope x)(r:bc v u)(h:∀s',aG X pins (σ.set i (some v)) H s'->(∃a,T7 a s.heap s'.heap/\(a=X.env.locals\/X.env.cells.lookup x=some a))->Q () s')(hf:X.fn x=true\/X.env.scope.names.lookup x=some .local:=by first|exact .inl rfl|exact .inr rfl|assumption):Q2 M A (storeName X.env x u) Q E s:=by
 obtain⟨m,hn,hl⟩:=id I.loc;have I_:(X.env.scope.kind==.class||(X.env.scope.kind==.module&&X.env.locals != X.env.globals))=false:=by rw[I.ok.kind];rfl
 have Mb:i<σ.length:=by rw[I.len];exact (QH.mp hi).1
 have cne:=I.cne;have y9:∀{a:QX} {h':S2},(∃o,s.heap.get? a=some o/\H a=none)->T7 a s.heap h'->jR X.prog X.w H h':=λ{a h'} ha hs b ob e=>by
  obtain⟨_,_,hfree⟩:=ha;refine (I.hok b ob e).stay (λc w' hc q=>(hs.2 c ?_).trans q) (λ_ q=>q) λ_ _ q=>q;rintro rfl;rcases hc with rfl|hc
  ·rw[hfree] at e;cases e
  ·rw[hfree] at hc;cases hc
 rcases hx with hk|hk
 ·refine wpAny_storeName_local hk hn (λh' Ni hs=>?_) I_;obtain⟨oL,_,_,Mg,_⟩:=id hn;refine h _ ⟨I.ok,I.os,I.bare,⟨λb o e n hb hx=>?_,λb o e n hb hx=>?_,I.base.free,λb o e hx=>?_,I.base.tups,I.base.frzs,I.base.tbls⟩,⟨_,Ni,λj y v' e1 e2 e3=>?_⟩,λy c e=>?_,I.free,I.freeC,λp hp=>?_,y9 ⟨oL,Mg,I.free⟩ hs,by simpa using I.len⟩ ⟨_,hs,.inl rfl⟩
  ·exact (hs.2 b (Q_ (Q3 (QO e) I.ok.above))).trans (I.base.keep b o e n hb hx)
  ·obtain⟨sl,e1⟩:=I.base.slot b o e n hb hx;exact⟨sl,(hs.2 b (Q_ (Q3 (QO e) I.ok.above))).trans e1⟩
  ·obtain⟨o',e1⟩:=I.base.there b o e hx;exact⟨o',(hs.2 b (Q_ (Q3 (QO e) I.ok.above))).trans e1⟩
  ·by_cases hj:j=i
   ·subst hj;rw[hi] at e1;cases e1;rw[RY Mb] at e2;cases e2;exact⟨u,r,.inl ⟨hk,by simp⟩⟩
   ·rw[QY (Ne.symm hj)] at e2;obtain⟨u',r',q⟩:=hl j y v' e1 e2 e3;refine⟨u',r',?_⟩;rcases q with⟨k,e⟩|⟨k,c,e,z⟩
    ·refine .inl ⟨k,?_⟩;have:y≠x:=λe=>hj (pU hN e1 (e▸hi));simp[this,e]
    ·exact .inr ⟨k,c,e,z.sameBut hs (cne y c e)⟩
  ·obtain⟨w',z⟩:=I.cell y c e;exact⟨w',z.sameBut hs (cne y c e)⟩
  ·obtain⟨e,n,ne,nf,d⟩:=I.pin p hp;exact⟨(hs.2 p.1 ne).trans e,n,ne,nf,d⟩
 ·have Nj:X.fn x=true:=by
   rcases hf with z|z
   ·exact z
   ·rw[z] at hk;cases hk
  obtain⟨c,hc⟩:=I.ok.has x (.inl hk);obtain⟨w',z⟩:=I.cell x c hc;refine wpAny_storeName_cell I.ok.kind hk hc z (λh' Oi hs=>?_);obtain⟨oc,hoc,hocd⟩:=id z;refine h {s with heap:=h'} ⟨I.ok,I.os,I.bare,⟨λb o e n hb hx=>?_,λb o e n hb hx=>?_,I.base.free,λb o e hx=>?_,I.base.tups,I.base.frzs,I.base.tbls⟩,⟨m,hn.sameBut hs (Ne.symm (cne x c hc)),λj y v' e1 e2 e3=>?_⟩,λy c' e=>?_,I.free,I.freeC,λp hp=>?_,y9 ⟨oc,hoc,I.freeC x c hc⟩ hs,by simpa using I.len⟩ ⟨c,hs,.inr hc⟩
  ·exact (hs.2 b (Q_ (Q3 (QO e) (I.ok.cab x c Nj hc)))).trans (I.base.keep b o e n hb hx)
  ·obtain⟨sl,e1⟩:=I.base.slot b o e n hb hx;exact⟨sl,(hs.2 b (Q_ (Q3 (QO e) (I.ok.cab x c Nj hc)))).trans e1⟩
  ·obtain⟨o',e1⟩:=I.base.there b o e hx;exact⟨o',(hs.2 b (Q_ (Q3 (QO e) (I.ok.cab x c Nj hc)))).trans e1⟩
  ·by_cases hj:j=i
   ·subst hj;rw[hi] at e1;cases e1;rw[RY Mb] at e2;cases e2;exact⟨u,r,.inr ⟨.inl hk,c,hc,Oi⟩⟩
   ·rw[QY (Ne.symm hj)] at e2;obtain⟨u',r',q⟩:=hl j y v' e1 e2 e3;refine⟨u',r',?_⟩;rcases q with q|⟨k,c',e,z'⟩
    ·exact .inl q
    ·refine .inr ⟨k,c',e,z'.sameBut hs ?_⟩;rintro rfl;exact hj (pU hN e1 (I.ok.inj _ _ _ e hc▸hi))
  ·by_cases hcc:c'=c
   ·subst hcc;exact⟨_,Oi⟩
   ·obtain⟨w2,z2⟩:=I.cell y c' e;exact⟨w2,z2.sameBut hs hcc⟩
  ·obtain⟨e,n,ne,nf,d⟩:=I.pin p hp;refine⟨(hs.2 p.1 ?_).trans e,n,ne,nf,d⟩;intro q;rw[q,hoc] at e;have q':oc=p.2:=Q0 e;exact d w' (by rw[←q'];exact hocd)
theorem lU {A:Rk}{u:QG}{Q:Unit->QP->Prop}(I:aG X pins σ H s)(hN:X.N.Nodup)(hi:X.N[i]? = some x)(hx:AQ X.env.scope x)(r:bc v u)(h:∀s',aG X pins (σ.set i (some v)) H s'->Q () s')(hf:X.fn x=true\/X.env.scope.names.lookup x=some .local:=by first|exact .inl rfl|exact .inr rfl|assumption):Q2 M A (storeName X.env x u) Q E s:=
 su I hN hi hx r (λs' I' _=>h s' I') hf
theorem aG.call' {s':QP}(I:aG X pins σ H s)(ho:s'.os=s.os)(u:Un (pT X.stack) ch H H' s.heap s'.heap)(hok:jR X.prog X.w H' s'.heap)(hg:Ue s'.gens)(D6:∀b∈ch,(b∈X.ex\/X.s₀.heap.objs.size<=b)/\b≠X.env.locals/\(∀x c,X.env.cells.lookup x=some c->c≠b)/\∀p∈X.pn++pins,p.1≠b):aG X pins σ H' s':=by
 obtain⟨h',g',d',t',o'⟩:=s';have e:o'=s.os:=ho;subst e;exact I.call (g':=g') (t':=t') (d':=d') u hok hg D6
end
abbrev XK:=QG->Option QX->Hp->Prop
noncomputable abbrev St:=List (Option V)
abbrev VK:=V->Hp->Prop
abbrev TE:=St->Hp->VK->Prop
abbrev TT:=St->Hp->(Bool->Hp->Prop)->Prop
abbrev TA:=St->Hp->(List V->Hp->Prop)->Prop
structure lu where
 nx:St->Hp->Prop
 rt:VK
 bk:St->Hp->Prop:=λ_ _=>False
 ct:St->Hp->Prop:=λ_ _=>False
abbrev TS:=lu->St->Hp->Prop
def EP (X:Cx)(pins:List (QX×Obj))(σ:St)(Q:VK)(u:QG)(s':QP):Prop:=∃v H',aG X pins σ H' s'/\bc v u/\Q v H'
def TP (X:Cx)(pins:List (QX×Obj))(σ:St)(Q:Bool->Hp->Prop)(b:Bool)(s':QP):Prop:=∃H',aG X pins σ H' s'/\Q b H'
def AP (X:Cx)(pins:List (QX×Obj))(σ:St)(Q:List V->Hp->Prop)(us:List QG)(s':QP):Prop:=∃vs H',aG X pins σ H' s'/\a8 vs us/\Q vs H'
def SP (X:Cx)(pins:List (QX×Obj))(D:lu)(f:Flow)(s':QP):Prop:=
 match f with
 | .next=>∃σ' H',aG X pins σ' H' s'/\D.nx σ' H'
 | .brk=>∃σ' H',aG X pins σ' H' s'/\D.bk σ' H'
 | .cont=>∃σ' H',aG X pins σ' H' s'/\D.ct σ' H'
 | .ret u=>∃v σ' H',aG X pins σ' H' s'/\bc v u/\D.rt v H'
def PE (X:Cx)(e:RP)(t:TE):Prop:=
 ∀(pins:List (QX×Obj)) (s:QP) (σ:St) (H:Hp) (Q:VK),aG X pins σ H s->t σ H Q->Q2 (Q7 X.prog X.w) X.A (Sv e X.env) (EP X pins σ Q) X.xe s
def PT (X:Cx)(e:RP)(t:TT):Prop:=
 ∀(pins:List (QX×Obj)) (s:QP) (σ:St) (H:Hp) (Q:Bool->Hp->Prop),aG X pins σ H s->t σ H Q->Q2 (Q7 X.prog X.w) X.A (isTrue e X.env (Sv e X.env)) (TP X pins σ Q) X.xe s
def PW (X:Cx)(e:RP)(t:TT):Prop:=
 ∀(mV:Sem QG) (pins:List (QX×Obj)) (s:QP) (σ:St) (H:Hp) (Q:Bool->Hp->Prop),aG X pins σ H s->t σ H Q->Q2 (Q7 X.prog X.w) X.A (isTrue e X.env mV) (TP X pins σ Q) X.xe s
theorem PW.pt {X:Cx}{e:RP}{t:TT}(h:PW X e t):PT X e t:=h _
def PA (X:Cx)(es:List RP)(t:TA):Prop:=
 ∀(pos:Pos) (pins:List (QX×Obj)) (s:QP) (σ:St) (H:Hp) (Q:List V->Hp->Prop),aG X pins σ H s->t σ H Q->Q2 (Q7 X.prog X.w) X.A (spliced (Sd pos (QK es X.env))) (AP X pins σ Q) X.xe s
def PS (X:Cx)(st:Si)(t:TS):Prop:=
 ∀(pins:List (QX×Obj)) (s:QP) (σ:St) (H:Hp) (D:lu),aG X pins σ H s->t D σ H->Q2 (Q7 X.prog X.w) X.A (exec st X.env) (SP X pins D) X.xe s
def pj (X:Cx)(st:List Si)(t:TS):Prop:=
 ∀(pins:List (QX×Obj)) (s:QP) (σ:St) (H:Hp) (D:lu),aG X pins σ H s->t D σ H->Q2 (Q7 X.prog X.w) X.A (execs st X.env) (SP X pins D) X.xe s
theorem dy {α:Type}{t:Sem α}{Q Q':α->QP->Prop}{A:Rk}(h:Q2 M A t Q E s)(hQ:∀a s,Q a s->Q' a s):Q2 M A t Q' E s:=Rh h hQ λ_ _ x=>x
end L2
variable {X:L2.Cx}{tb:L2.TS}{σ:L2.St}{te:L2.TE}
namespace L2
section
theorem Qq {a b:RP}{ta tb:TE}(ha:PE X a ta)(hb:PE X b tb){R:V->V->Hp->Prop}(I:aG X pins σ H s)(h:ta σ H λx H1=>tb σ H1 λy H2=>R x y H2){α:Type}{Q:α->QP->Prop}{f:QG->QG->Sem α}(hf:∀v u s2 x y H2,aG X pins σ H2 s2->bc x v->bc y u->R x y H2->Q2 (Q7 X.prog X.w) X.A (f v u) Q X.xe s2) :
  Q2 (Q7 X.prog X.w) X.A (Sv a X.env) (λv s₁=>Q2 (Q7 X.prog X.w) X.A (Sv b X.env) (λu s₂=>Q2 (Q7 X.prog X.w) X.A (f v u) Q X.xe s₂) X.xe s₁) X.xe s:=by
 refine dy (ha pins s σ H _ I h) λv s1 ⟨x,H1,I1,r1,q1⟩=>?_;refine dy (hb pins s1 σ H1 _ I1 q1) λu s2 ⟨y,H2,I2,r2,q2⟩=>?_;exact hf v u s2 x y H2 I2 r1 r2 q2
def D8 (i:Nat):TE:=λσ H Q=>∃v,σ[i]? = some (some v)/\Q v H
def tC (v:V):TE:=λ_ H Q=>Q v H
theorem iR (hN:X.N[i]? = some x)(hv:zk X.env.scope x)(hd:(x==("__debug__":Str))=false:=by decide)(kn:(x==("__classdict__":Str))=false:=by decide):PE X (.Name x pos) (D8 i):=by
 intro pins s σ H Q I h;obtain⟨v,e,h⟩:=h;obtain⟨m,hn,hl⟩:=I.loc;obtain⟨u,r,l⟩:=hl i x v hN e hv;have ko:EP X pins σ Q u s:=⟨v,H,I,r,h⟩;rcases l with⟨hk,hm⟩|⟨hk,c,hc,oV⟩
 ·exact wpAny_Name (wpAny_loadName_local I.ok.kind hk hn hm ko) hd
 ·rcases hk with hk|hk
  ·exact wpAny_Name (wpAny_loadName_cell I.ok.kind hk hc oV ko) hd
  ·exact wpAny_Name (wpAny_loadName_free I.ok.kind hk hc oV ko kn) hd
theorem iS {i j pos}:PE X (.Constant (.int i) j pos) (tC (.int i)):=λ_ _ _ H _ I h=>wpAny_Constant_int ⟨.int i,H,I.tok _,⟨_,rfl⟩,h⟩
theorem AR {b j pos}:PE X (.Constant (.bool b) j pos) (tC (.bl b)):=λ_ _ _ H _ I h=>Constant_bool ⟨.bl b,H,I,rfl,h⟩
theorem Ha {j pos}:PE X (.Constant .none j pos) (tC .non):=λ_ _ _ H _ I h=>Constant_none ⟨.non,H,I,rfl,h⟩
theorem eO {x j pos}:PE X (.Constant (.str x) j pos) (tC (.str x)):=λ_ _ _ H _ I h=>Calls.Constant_str ⟨.str x,H,I.tok _,⟨_,rfl⟩,h⟩
def Gl (X:Cx)(x:Str):Prop:=X.env.kindOf x=some .globalImplicit
theorem kE {u:QG}(I:aG X pins σ H s)(hg:Gl X x)(hm:X.mg x=some u)(h:Q u s)(hd:(x==("__debug__":Str))=false:=by decide):Q2 (Q7 X.prog X.w) X.A (Sv (.Name x pos) X.env) Q E s:=
 TZ I.ok.kind hg (Calls.loadGlobal_global (by rw[I.ok.glob];exact I.mod.glob.keeps I.bk) hm h) hd
theorem pV {u:QG}(I:aG X pins σ H s)(hg:Gl X x)(hm:X.mg x=none)(hv:Ra x=some u)(h:Q u s)(hn:x≠"__name__":=by decide)(hd:(x==("__debug__":Str))=false:=by decide):Q2 (Q7 X.prog X.w) X.A (Sv (.Name x pos) X.env) Q E s:=by
 obtain⟨mb,h1,h2⟩:=I.mod.blt;exact TZ I.ok.kind hg (Calls.loadGlobal_builtin (by rw[I.ok.glob];exact I.mod.glob.keeps I.bk) hm (by rw[I.ok.blt];exact h1.keeps I.bk) ((h2 x hn).trans hv) h) hd
theorem xV {u:QG}(hg:Gl X x)(hm:X.mg x=some u)(r:bc v u)(hd:(x==("__debug__":Str))=false:=by decide):PE X (.Name x pos) (tC v):=
 λ_ _ _ H _ I h=>kE I hg hm ⟨v,H,I,r,h⟩ hd
theorem xW {u:QG}(hg:Gl X x)(hm:X.mg x=none)(hv:Ra x=some u)(r:bc v u)(hn:x≠"__name__":=by decide)(hd:(x==("__debug__":Str))=false:=by decide):PE X (.Name x pos) (tC v):=
 λ_ _ _ H _ I h=>pV I hg hm hv ⟨v,H,I,r,h⟩ hn hd
variable {a b:RP}{ta tb:TE}
def PC (X:Cx)(op:CmpOp)(a b:RP)(t:TE):Prop:=
 ∀(pins:List (QX×Obj)) (s:QP) (σ:St) (H:Hp) (Q:VK),aG X pins σ H s->t σ H Q->
  Q2 (Q7 X.prog X.w) X.A (Sv a X.env) (λv s₁=>Q2 (Q7 X.prog X.w) X.A (Sv b X.env) (λu s₂=>Q2 (Q7 X.prog X.w) X.A (RD op v u) (EP X pins σ Q) X.xe s₂) X.xe s₁) X.xe s
def tB (t:TE):TT:=λσ H Q=>t σ H λx H1=>∃c,x=.bl c/\Q c H1
theorem Ml {t:TE}(h:PC X op a b t)(h1:SN op b=false:=by first|exact nobehind _ (by decide) (by decide)|rfl):PT X (.Compare a [op] [b] pos) (tB t):=by
 intro pins s σ H Q I hw;refine wpAny_isTrue_Compare1 (dy (h pins s σ H _ I hw) λv s1 h1=>dy h1 λu s2 h2=>dy h2 λc s3 ⟨x,H1,I1,r1,q1⟩=>?_) h1;obtain⟨d,rfl,q⟩:=q1;cases r1;exact RM ⟨H1,I1,q⟩
theorem AS {e:RP}{t:TE}(h:PE X e t)(he:∀mV,isTrue e X.env mV=(do let v ←mV;standAt e.pos;holding [v] (truthy v)):=by intro _;rfl):PT X e (tB t):=by
 intro pins s σ H Q I hw;refine isTrue_plain (dy (h pins s σ H _ I hw) λv s1 ⟨x,H1,I1,r1,q1⟩=>?_) (he _);obtain⟨d,rfl,q⟩:=q1;cases r1;exact RM ⟨H1,I1,q⟩
variable {tA tB':TT}{rest:List RP}
def JN (t u:TT):TT:=λσ H Q=>t σ H λc H1=>if c=true then u σ H1 Q else Q false H1
def NP (t u:TT):TT:=λσ H Q=>t σ H λc H1=>if c=true then Q true H1 else u σ H1 Q
def Mm (t:TT):TT:=λσ H Q=>t σ H λc H1=>Q (!c) H1
theorem D9 (ha:PT X a tA):PW X (.BoolOp .And [a] pos) tA:=by
 intro wh pins s σ H Q I h;refine isTrue_and (dy (ha pins s σ H Q I h) λc s1 e=>?_);cases c with
 |true=>exact isTrue_and_nil e
 |false=>exact e
theorem Hb (ha:PT X a tA):PW X (.BoolOp .Or [a] pos) tA:=by
 intro wh pins s σ H Q I h;refine isTrue_or (dy (ha pins s σ H Q I h) λc s1 e=>?_);cases c with
 |false=>exact isTrue_or_nil e
 |true=>exact e
theorem Hd (ha:PT X a tA)(hb:PW X (.BoolOp .And (b::rest) pos) tB'):PW X (.BoolOp .And (a::b::rest) pos) (JN tA tB'):=by
 intro wh pins s σ H Q I h;refine isTrue_and (dy (ha pins s σ H _ I h) λc s1 ⟨H1,I1,q1⟩=>?_);cases c with
 |true=>exact hb wh pins s1 σ H1 Q I1 q1
 |false=>exact⟨H1,I1,q1⟩
theorem JO (ha:PT X a tA)(hb:PW X (.BoolOp .Or (b::rest) pos) tB'):PW X (.BoolOp .Or (a::b::rest) pos) (NP tA tB'):=by
 intro wh pins s σ H Q I h;refine isTrue_or (dy (ha pins s σ H _ I h) λc s1 ⟨H1,I1,q1⟩=>?_);cases c with
 |true=>exact⟨H1,I1,q1⟩
 |false=>exact hb wh pins s1 σ H1 Q I1 q1
theorem AU (ha:PT X a tA):PT X (.UnaryOp .Not a pos) (Mm tA):=by
 intro pins s σ H Q I h;exact isTrue_not (ha pins s σ H (λc H1=>Q (!c) H1) I h)
def JP (ta tb:TE):TE:=λσ H Q=>ta σ H λx H1=>∃c,x=.bl c/\if c=true then tb σ H1 Q else Q (.bl false) H1
def JQ (ta:TE):TE:=λσ H Q=>ta σ H λx H1=>∃c,x=.bl c/\Q (.bl (!c)) H1
theorem He {op}{t:TE}(h:PE X a t):PE X (.BoolOp op [a] pos) t:=λpins s σ H Q I hw=>BoolOp_one (h pins s σ H Q I hw)
theorem Hf (ha:PE X a ta)(hb:PE X (.BoolOp .And (b::rest) pos) tb):PE X (.BoolOp .And (a::b::rest) pos) (JP ta tb):=by
 intro pins s σ H Q I h;refine BoolOp_and (dy (ha pins s σ H _ I h) λv s1 ⟨x,H1,I1,r1,q1⟩=>?_);obtain⟨c,rfl,q1⟩:=q1;cases r1;refine RM ?_;cases c with
 |true=>exact hb pins s1 σ H1 Q I1 q1
 |false=>exact⟨.bl false,H1,I1,rfl,q1⟩
theorem Hg (ha:PE X a ta):PE X (.UnaryOp .Not a pos) (JQ ta):=by
 intro pins s σ H Q I h;refine UnaryOp_ (dy (ha pins s σ H _ I h) λv s1 ⟨x,H1,I1,r1,q1⟩=>?_);obtain⟨c,rfl,q1⟩:=q1;cases r1;exact not_of (RM ⟨.bl (!c),H1,I1,rfl,q1⟩)
def OH (t:TT)(ta tb:TE):TE:=λσ H Q=>t σ H λc H1=>if c=true then ta σ H1 Q else tb σ H1 Q
theorem AV (hc:PT X c tA)(ha:PE X a ta)(hb:PE X b tb):PE X (.IfExp c a b pos) (OH tA ta tb):=by
 intro pins s σ H Q I h;refine wpAny_IfExp (dy (hc pins s σ H _ I h) λd s1 ⟨H1,I1,q1⟩=>?_);cases d with
 |true=>exact ha pins s1 σ H1 Q I1 q1
 |false=>exact hb pins s1 σ H1 Q I1 q1
end
end L2
namespace L2
def fi (K:QB)(H:Hp)(a:QX)(xs:List V):Prop:=
 Rd H a (.lst xs) \/
  ∃(o:Obj) (ay:Array QG) (n:Nat),K.lookup a=some o/\o.cls=.type "list"/\o.dict=none/\o.data=.seq ay n/\ay.size<=QC/\a8 xs ay.toList
def gL (K:QB)(H:Hp)(a:QX)(xs:List V):Prop:=
 Rd H a (.tup xs) \/
  ∃(o:Obj) (ay:Array QG) (n:Nat),K.lookup a=some o/\o.cls=.type "tuple"/\o.data=.seq ay n/\ay.size<=QC/\a8 xs ay.toList
noncomputable def Mn:QG->Option V
 | .none=>some .non
 | .bool b=>some (.bl b)
 | .int i _=>some (.int i)
 | .str x _=>some (.str x)
 | .bytes b _=>some (.byt b)
 | .float b _=>some (.flt b)
 | .ref a=>some (.ref a)
 | .type n=>some (.ty n)
 |_=>none
theorem bc.abs {x:V}{u:QG}(r:bc x u):Mn u=some x:=by
 cases x with
 |non=>cases r;rfl
 |bl _=>cases r;rfl
 |int _=>obtain⟨t,rfl⟩:=r;rfl
 |str _=>obtain⟨t,rfl⟩:=r;rfl
 |byt _=>obtain⟨t,rfl⟩:=r;rfl
 |flt _=>obtain⟨t,rfl⟩:=r;rfl
 |ref _=>cases r;rfl
 |ty _=>cases r;rfl
theorem bc.inj {x:V}{u:QG}(r:bc x u)(q:bc y u):x=y:=Q0 (r.abs.symm.trans q.abs)
theorem a8.inj:∀{xs ys:List V} {us:List QG},a8 xs us->a8 ys us->xs=ys
 |_,_,_,.nil,.nil=>rfl
 |_,_,_,.cons r t,.cons r' t'=>by rw[r.inj r',a8.inj t t']
section
variable {ys:List V}
theorem fi.of (h:H a=some (.lst xs)):fi K H a xs:=.inl (.inl h)
theorem gL.of (h:H a=some (.tup xs)):gL K H a xs:=.inl (.inl h)
theorem aG.list (I:aG X pins σ H s)(h:fi X.K H a xs):∃ay:List QG,a8 xs ay/\PlainL s.heap a ay.toArray/\xs.length<=QC:=by
 rcases h with h|⟨o,ay,n,hk,hc,hd,hs,hz,r⟩
 ·obtain⟨z,ay,n,r,e⟩:=h.ok I.hok;exact⟨ay,r,⟨_,n,e,rfl,rfl,rfl⟩,z⟩
 ·refine⟨ay.toList,r,⟨o,n,I.kIn a o hk,hc,hd,by simpa using hs⟩,?_⟩;have e:=r.length;simp only[S4] at e;lia
theorem aG.tuple (I:aG X pins σ H s)(h:gL X.K H a xs):∃ay:List QG,a8 xs ay/\IsTup s.heap a ay.toArray/\xs.length<=QC:=by
 rcases h with h|⟨o,ay,n,hk,hc,hs,hz,r⟩
 ·obtain⟨z,ay,r,p,_⟩:=h.ok I.hok;exact⟨ay,r,p,z⟩
 ·refine⟨ay.toList,r,⟨o,I.kIn a o hk,hc,n,by simpa using hs⟩,?_⟩;have e:=r.length;simp only[S4] at e;lia
theorem aG.list_inj (I:aG X pins σ H s)(h:fi X.K H a xs)(h':fi X.K H a ys):xs=ys:=by
 obtain⟨ay,r,⟨o,n,e,_,_,d⟩,_⟩:=I.list h;obtain⟨its',r',⟨o',n',e',_,_,d'⟩,_⟩:=I.list h';rw[e] at e';cases e';rw[d] at d';injection d' with d1 _
 have:ay=its':=by simpa using congrArg Array.toList d1
 subst this;exact r.inj r'
theorem aG.tuple_inj (I:aG X pins σ H s)(h:gL X.K H a xs)(h':gL X.K H a ys):xs=ys:=by
 obtain⟨ay,r,⟨o,e,_,n,d⟩,_⟩:=I.tuple h;obtain⟨its',r',⟨o',e',_,n',d'⟩,_⟩:=I.tuple h';rw[e] at e';cases e';rw[d] at d';injection d' with d1 _
 have:ay=its':=by simpa using congrArg Array.toList d1
 subst this;exact r.inj r'
end
noncomputable abbrev Cx.wish (X:Cx)(E:QG->QP->Prop):Cx:={X with xe:=E}
noncomputable abbrev Cx.nox (X:Cx):Cx:=X.wish λ_ _=>False
theorem Cx.Ok.wish (ok:X.Ok)(E:QG->QP->Prop):(X.wish E).Ok:=
 ⟨ok.mod,ok.kind,ok.glob,ok.blt,ok.above,ok.inj,ok.has,ok.cab,ok.hd,ok.frames,ok.stk,ok.exf,ok.bs,ok.bsz,ok.noex,ok.exfs,ok.funs,ok.frf⟩
theorem Cx.Ok.unwish (ok:(X.wish E).Ok):X.Ok:=
 ⟨ok.mod,ok.kind,ok.glob,ok.blt,ok.above,ok.inj,ok.has,ok.cab,ok.hd,ok.frames,ok.stk,ok.exf,ok.bs,ok.bsz,ok.noex,ok.exfs,ok.funs,ok.frf⟩
theorem aG.wish (I:aG X pins σ H s)(E:QG->QP->Prop):aG (X.wish E) pins σ H s:=⟨I.ok.wish E,I.os,I.bare,I.base,I.loc,I.cell,I.free,I.freeC,I.pin,I.hok,I.len⟩
theorem aG.unwish (I:aG (X.wish E) pins σ H s):aG X pins σ H s:=⟨I.ok.unwish,I.os,I.bare,I.base,I.loc,I.cell,I.free,I.freeC,I.pin,I.hok,I.len⟩
theorem SP.unwish {D:lu}{f:Flow}{s':QP}(h:SP (X.wish E) pins D f s'):SP X pins D f s':=by
 cases f with
 |next=>obtain⟨σ',H',I,q⟩:=h;exact⟨σ',H',I.unwish,q⟩
 |brk=>obtain⟨σ',H',I,q⟩:=h;exact⟨σ',H',I.unwish,q⟩
 |cont=>obtain⟨σ',H',I,q⟩:=h;exact⟨σ',H',I.unwish,q⟩
 |ret u=>obtain⟨v,σ',H',I,r,q⟩:=h;exact⟨v,σ',H',I.unwish,r,q⟩
theorem pj.nox {st:List Si}{t:TS}(h:pj X.nox st t):pj X st t:=λpins s σ H D I hw=>
 Rh (h pins s σ H D (I.wish _) hw) (λ_ _ q=>q.unwish) λ_ _ z=>Ry z
section
variable {st:Si}{rest:List Si}{t u:TS}{e:RP}
def JR:TS:=λD σ H=>D.nx σ H
def Mo (t u:TS):TS:=λD σ H=>t {D with nx:=u D} σ H
theorem tu:pj X [] JR:=λ_ _ σ H _ I h=>Ta ⟨σ,H,I,h⟩
theorem g5 (h1:PS X st t)(h2:pj X rest u):pj X (st::rest) (Mo t u):=by
 intro pins s σ H D I h;refine Tv (dy (h1 pins s σ H {D with nx:=u D} I h) λf s1 q=>?_);cases f with
 |next=>
  obtain⟨σ',H',I',q⟩:=q;exact h2 pins s1 σ' H' D I' q
 |ret v=>exact q
 |brk=>exact q
 |cont=>exact q
theorem kF (h1:PS X st t):pj X [st] t:=by
 intro pins s σ H D I h;refine Tv (dy (h1 pins s σ H D I h) λf s1 q=>?_);cases f with
 |next=>exact Ta q
 |ret v=>exact q
 |brk=>exact q
 |cont=>exact q
theorem aG.quiet (I:aG X pins σ H s):interactive X.env=false:=by simp[interactive,I.ok.kind]
def JS (te:TE):TS:=λD σ H=>te σ H λ_ H1=>D.nx σ H1
theorem D_ (he:PE X e te)(hs:TM e none pos.line X.env=pure false:=by rfl):PS X (.Expr e pos) (JS te):=by
 intro pins s σ H D I h;exact wpAny_Expr_any (dy (he pins s σ H _ I h) λv s1 ⟨x,H1,I1,r1,q1⟩=>⟨σ,H1,I1,q1⟩) I.quiet hs
def Mp (te:TE):TS:=λD σ H=>te σ H D.rt
theorem jY (he:PE X e te):PS X (.Return (some e) pos) (Mp te):=by
 intro pins s σ H D I h;exact wpAny_Return_some (dy (he pins s σ H _ I h) λv s1 ⟨x,H1,I1,r1,q1⟩=>⟨x,σ,H1,I1,r1,q1⟩)
def Mq (c:TT)(t u:TS):TS:=λD σ H=>c σ H λb H1=>if b=true then t D σ H1 else u D σ H1
theorem AW {a b:List Si}{tc:TT}(hc:PT X c tc)(ha:pj X a t)(hb:pj X b u):PS X (.If c a b pos) (Mq tc t u):=by
 intro pins s σ H D I h;refine wpAny_If (dy (hc pins s σ H _ I h) λd s1 ⟨H1,I1,q1⟩=>?_);cases d with
 |true=>exact ha pins s1 σ H1 D I1 q1
 |false=>exact hb pins s1 σ H1 D I1 q1
def Hh:TS:=λ_ _ _=>False
theorem sv {Ja:List Si}:pj X Ja Hh:=λ_ _ _ _ _ _ h=>h.elim
end
abbrev TG:=V->St->Hp->(St->Hp->Prop)->Prop
abbrev Ea:=List V->St->Hp->(St->Hp->Prop)->Prop
def PG (X:Cx)(nV:RP)(t:TG):Prop:=
 ∀(pins:List (QX×Obj)) (s:QP) (σ:St) (H:Hp) (v:V) (u:QG) (Q:St->Hp->Prop),aG X pins σ H s->bc v u->t v σ H Q->
  Q2 (Q7 X.prog X.w) X.A (assign nV X.env u) (λ_ s'=>∃σ' H',aG X pins σ' H' s'/\Q σ' H') X.xe s
def Fx (X:Cx)(ts:List RP)(t:Ea):Prop:=
 ∀(pins:List (QX×Obj)) (s:QP) (σ:St) (H:Hp) (vs:List V) (us:List QG) (Q:St->Hp->Prop),aG X pins σ H s->a8 vs us->t vs σ H Q->
  Q2 (Q7 X.prog X.w) X.A (assignInOrder ((Sl ts X.env).map (·.2)) us) (λ_ s'=>∃σ' H',aG X pins σ' H' s'/\Q σ' H') X.xe s
abbrev Hi:=V->V->V->Hp->(Hp->Prop)->Prop
def JT (X:Cx)(t:Hi):Prop:=
 ∀(pins:List (QX×Obj)) (s:QP) (σ:St) (H:Hp) (o i v:V) (ov iv u:QG) (Q:Hp->Prop),aG X pins σ H s->bc o ov->bc i iv->bc v u->t o i v H Q->
  Q2 (Q7 X.prog X.w) X.A (setItem ov iv u) (λ_ s'=>∃H',aG X pins σ H' s'/\Q H') X.xe s
abbrev LN:=V->V->Hp->VK->Prop
def Mr (X:Cx)(op:Operator)(t:LN):Prop:=
 ∀(pins:List (QX×Obj)) (s:QP) (σ:St) (H:Hp) (x y:V) (v u:QG) (Q:VK),aG X pins σ H s->bc x v->bc y u->t x y H Q->
  Q2 (Q7 X.prog X.w) X.A (inplaceOp op v u) (EP X pins σ Q) X.xe s
def u3 (i:Nat):TG:=λv σ H Q=>Q (σ.set i (some v)) H
theorem Eb (hN:X.N.Nodup)(hi:X.N[i]? = some x)(hx:AQ X.env.scope x)(hf:X.fn x=true\/X.env.scope.names.lookup x=some .local:=by first|exact .inl rfl|exact .inr rfl|assumption):PG X (.Name x pos) (u3 i):=by
 intro pins s σ H v u Q I r h;exact wpAny_assign_Name (lU I hN hi hx r (λs' I'=>⟨_,H,I',h⟩) hf)
def Ms:Ea:=λvs σ H Q=>vs=[]/\Q σ H
def JU (t:TG)(u:Ea):Ea:=λvs σ H Q=>∃v r,vs=v::r/\t v σ H λσ' H'=>u r σ' H' Q
theorem Ec:Fx X [] Ms:=by
 intro pins s σ H vs us Q I r h;obtain⟨e,h⟩:=h;subst e;cases r;exact assignInOrder_nil ⟨σ,H,I,h⟩
theorem AX {e:RP}{t:TG}{u:Ea}(h1:PG X e t)(h2:Fx X es u)(hs:(Sl (e::es) X.env).map (·.2)=assign e X.env::(Sl es X.env).map (·.2):=by rfl):Fx X (e::es) (JU t u):=by
 intro pins s σ H vs us Q I r h;obtain⟨v,vr,e1,h⟩:=h;subst e1;cases r with
 |cons r rr=>
  rw[hs];refine assignInOrder_cons (dy (h1 pins s σ H _ _ _ I r h) λ_ s1 ⟨σ1,H1,I1,q1⟩=>?_);exact h2 pins s1 σ1 H1 _ _ Q I1 rr q1
def Mt (K:QB)(n:Nat)(t:Ea):TG:=λv σ H Q=>∃a xs,v=.ref a/\gL K H a xs/\xs.length=n/\t xs σ H Q
theorem Hj {t:Ea}(hc:X.calm=true)(h:Fx X es t)(hn:(Sl es X.env).length=n:=by rfl)(GX:(Sl es X.env).findIdx? (·.1)=none:=by rfl):PG X (.Tuple es k pos) (Mt X.K n t):=by
 intro pins s σ H v u Q I r hw;obtain⟨a,xs,e1,hq,hl,hw⟩:=hw;subst e1;cases r;obtain⟨ay,rv,ht,hz⟩:=I.tuple hq;refine assign_Tuple_tuple (I.ok.hd hc) ht (by simp[hn,←hl,rv.length]) GX λh' hx=>?_;have I1:aG X pins σ H {s with heap:=h'}:=I.kept (t':=s.toks) λb o e=>hx b o (Q_ (QO e)) e;exact h pins _ σ H xs _ Q I1 (by simpa using rv) hw
def Mv (to ti:TE)(t:Hi):TG:=λv σ H Q=>to σ H λo H1=>ti σ H1 λi H2=>t o i v H2 λH3=>Q σ H3
theorem Hk {o i:RP}{to ti:TE}{t:Hi}(ho:PE X o to)(hi:PE X i ti)(hs:JT X t)
  (ha:∀v,assign (.Subscript o i pos) X.env v=(do
   let ov ←holding [v] (Sv o X.env)
   let iv ←holding [v,ov] (Sv i X.env)
   standAt pos
   holding [v,ov,iv] (setItem ov iv v)
   release [v,ov,iv] []):=by intro _;rfl):PG X (.Subscript o i pos) (Mv to ti t):=by
 intro pins s σ H v u Q I r h;rw[ha];refine Qz (R3 (dy (ho pins s σ H _ I h) λov s1 ⟨x,H1,I1,r1,q1⟩=>?_));refine Qz (R3 (dy (hi pins s1 σ H1 _ I1 q1) λiv s2 ⟨y,H2,I2,r2,q2⟩=>?_));refine Qz (wpAny_standAt (Qz (R3 (dy (hs pins s2 σ H2 x y v ov iv u _ I2 r1 r2 r q2) λ_ s3 ⟨H3,I3,q3⟩=>?_))));exact wpAny_release ⟨σ,H3,I3,q3⟩
def AY (te:TE)(g:TG):TS:=λD σ H=>te σ H λx H1=>g x σ H1 D.nx
theorem Hl {e:RP}{g:TG}(he:PE X e te)(hg:PG X tg g)(hs:swapsWithSole [tg] e pos.line X.env=pure false:=by rfl)(hw:swappedStores [tg] e X.env=pure none:=by rfl)(h1:(Sl [tg] X.env).map (·.2)=[assign tg X.env]:=by rfl):PS X (.Assign [tg] e pos) (AY te g):=by
 intro pins s σ H D I h;refine wpAny_Assign_stores (dy (he pins s σ H _ I h) λv s1 ⟨x,H1,I1,r1,q1⟩=>?_) hs hw;rw[h1];exact dy (hg pins s1 σ H1 x v _ I1 r1 q1) λ_ s2 q=>q
theorem tw {e:RP}{lN:Pos}(hN:X.N.Nodup)(hi:X.N[i]? = some x)(hx:AQ X.env.scope x)(he:PE X e te)(hs:TM e (some (.Name x lN)) pos.line X.env=pure false:=by rfl)(hf:X.fn x=true\/X.env.scope.names.lookup x=some .local:=by first|exact .inl rfl|exact .inr rfl|assumption) :
  PS X (.Assign [.Name x lN] e pos) (AY te (u3 i)):=by
 intro pins s σ H D I h;refine wpAny_Assign_Name (dy (he pins s σ H _ I h) λv s1 ⟨y,H1,I1,r1,q1⟩=>?_) hs;exact lU I1 hN hi hx r1 (λs2 I2=>⟨_,H1,I2,q1⟩) hf
def Mw (i:Nat)(te:TE)(ti:LN):TS:=λD σ H=>∃x,σ[i]? = some (some x)/\te σ H λy H1=>ti x y H1 λz H2=>D.nx (σ.set i (some z)) H2
theorem Hm {e:RP}{op:Operator}{ti:LN}{lN:Pos}(hN:X.N.Nodup)(hi:X.N[i]? = some x)(hx:AQ X.env.scope x)(he:PE X e te)(ho:Mr X op ti)(hf:X.fn x=true\/X.env.scope.names.lookup x=some .local:=by first|exact .inl rfl|exact .inr rfl|assumption) :
  PS X (.AugAssign (.Name x lN) op e pos) (Mw i te ti):=by
 intro pins s σ H D I h;obtain⟨v,e1,h⟩:=h;obtain⟨m,hn,hl⟩:=I.loc;have OX:zk X.env.scope x:=by rcases hx with k|k;exact .inl k;exact .inr (.inl k)
 obtain⟨u,r,l⟩:=hl i x v hi e1 OX;refine wpAny_AugAssign_Name ?_;have go:Q2 (Q7 X.prog X.w) X.A (Sv e X.env) (λw s₂=>Q2 (Q7 X.prog X.w) X.A (inplaceOp op u w) (λr s₃=>Q2 (Q7 X.prog X.w) X.A (storeName X.env x r) (λ_=>SP X pins D .next) X.xe s₃) X.xe s₂) X.xe s:=by
  refine dy (he pins s σ H _ I h) λw s1 ⟨y,H1,I1,r1,q1⟩=>?_;refine dy (ho pins s1 σ H1 v y u w _ I1 r r1 q1) λz s2 ⟨zv,H2,I2,r2,q2⟩=>?_;exact lU I2 hN hi hx r2 (λs3 I3=>⟨_,H2,I3,q2⟩) hf
 rcases l with⟨hk,hm⟩|⟨hk,c,hc,oV⟩
 ·exact wpAny_loadName_local I.ok.kind hk hn hm go
 ·rcases hk with hk|hk
  ·exact wpAny_loadName_cell I.ok.kind hk hc oV go
  ·rcases hx with k|k
   ·have:X.env.scope.names.lookup x=some .free:=hk;rw[k] at this;cases this
   ·have:X.env.scope.names.lookup x=some .free:=hk;rw[k] at this;cases this
def NQ (f:Int->Int->Int):LN:=λx y H Q=>∃i j,x=.int i/\y=.int j/\Q (.int (f i j)) H
theorem Hn:Mr X .Add (NQ λi j=>i+j):=by
 intro pins s σ H x y v u Q I r1 r2 h;obtain⟨i,j,e1,e2,q⟩:=h;subst e1;subst e2;obtain⟨t,rfl⟩:=r1;obtain⟨t',rfl⟩:=r2;exact iadd_int ⟨.int _,H,I.tok _,⟨_,rfl⟩,q⟩
def Ho (c:TT)(tb:TS):TS:=λD σ H=>∃W:Nat->St->Hp->Prop,(∃m,W m σ H)/\∀m σ H,W m σ H->
 c σ H λb H1=>if b=true then ∃N:St->Hp->Prop,(∀σ' H',N σ' H'->∃m',m'<m/\W m' σ' H')/\tb {D with nx:=N,ct:=N,bk:=D.nx} σ H1 else D.nx σ H1
theorem AZ {tc:TT}(hp:Uu (Q7 X.prog X.w) X.A X.env X.xe)(hc:PT X c tc)(hb:pj X body tb):PS X (.While c body [] pos) (Ho tc tb):=by
 intro pins s σ H D I h;obtain⟨W,⟨m0,w0⟩,turn⟩:=h;refine wpAny_While (codeAny_whileLoop (λn s'=>∃σ' H',aG X pins σ' H' s'/\W n σ' H') ?_ m0 ⟨σ,H,I,w0⟩);rintro n s1 ⟨σ1,H1,I1,w1⟩;refine Se hp (dy (hc pins s1 σ1 H1 _ I1 (turn n σ1 H1 w1)) λb s2 ⟨H2,I2,q2⟩=>?_);cases b with
 |true=>
  obtain⟨N,hN,q2⟩:=q2;rw[hV rfl];refine Se hp (dy (hb pins s2 σ1 H2 _ I2 q2) λf s3 q3=>?_);cases f with
  |next=>
   obtain⟨σ3,H3,I3,n3⟩:=q3;obtain⟨m',hm,w3⟩:=hN σ3 H3 n3;exact⟨m',hm,σ3,H3,I3,w3⟩
  |cont=>
   obtain⟨σ3,H3,I3,n3⟩:=q3;obtain⟨m',hm,w3⟩:=hN σ3 H3 n3;exact⟨m',hm,σ3,H3,I3,w3⟩
  |brk=>exact q3
  |ret v=>exact q3
 |false=>
  rw[hU QA];exact Ta ⟨σ1,H2,I2,q2⟩
structure It where
 go:Nat->Hp->Prop
 yld:Nat->Hp->V->Hp->Prop
 stop:Nat->Hp->Prop
def oX (X:Cx)(pins:List (QX×Obj))(H:Hp)(b:QX):Prop:=
 H b=none/\b≠X.env.locals/\b∉X.fs/\(b∈X.ex\/X.s₀.heap.objs.size<=b)/\(∀x c,X.env.cells.lookup x=some c->c≠b)/\∀p∈X.pn++pins,p.1≠b
theorem aG.fpOk (I:aG X pins σ H s)(hb:s.heap.objs.size<=b)(hn:H' b=none):oX X pins H' b:=by
 refine⟨hn,Nat.ne_of_gt (Q3 I.lt hb),I.nofs hb,.inr (Rn I.sz hb),λx c e z=>?_,λp hp z=>?_⟩
 ·obtain⟨v,q⟩:=I.cell x c e;exact absurd (Q3 q.lt (by rw[z];exact hb)) (RT _)
 ·exact absurd (Q3 (QO (I.pin p hp).1) (by rw[z];exact hb)) (RT _)
structure zm (P:RF)(w:Rx)(K:QB)(tg:RP)(J:It)(fp:List QX)(it:QX)(tn:Nat->S2->Prop):Prop where
 mem:it∈fp
 obj:∀i h,tn i h->∀b∈fp,∃o,h.get? b=some o/\∀v,o.data≠.cell v
 keep:∀i h h',tn i h->(∀b∈fp,∀o,h.get? b=some o->h'.get? b=some o)->tn i h'
 item:∀(X:Cx),X.prog=P->X.w=w->X.K=K->X.calm=true->∀(i:Nat) (pins:List (QX×Obj)) (s:QP) (σ:St) (H:Hp) (E:QG->QP->Prop),aG X pins σ H s->(∀b∈fp,oX X pins H b)->tn i s.heap->J.go i H->
  Q2 (Q7 P w) X.A (pyNext (.ref it)) (λr s1=>∃u,r=some u/\
   Q2 (Q7 P w) X.A (TN tg (.ref it) u) (λ_ s2=>∃x H',aG X pins σ H' s2/\bc x u/\J.yld i H x H'/\tn (i+1) s2.heap/\∀b∈fp,H' b=none) E s1) E s
 done:∀(X:Cx),X.prog=P->X.w=w->X.K=K->X.calm=true->∀(i:Nat) (pins:List (QX×Obj)) (s:QP) (σ:St) (H:Hp) (E:QG->QP->Prop),aG X pins σ H s->(∀b∈fp,oX X pins H b)->tn i s.heap->J.stop i H->
  Q2 (Q7 P w) X.A (pyNext (.ref it)) (λr s1=>r=none/\aG X pins σ H s1) E s
 self:∀(A:Rk) (i:Nat) (s:QP) (Q:QG->QP->Prop) (E:QG->QP->Prop),tn i s.heap->Q (.ref it) s->Q2 (Q7 P w) A (pyIter (.ref it)) Q E s
abbrev TI:=St->Hp->(It->Hp->Prop)->Prop
def NR (X:Cx)(pins:List (QX×Obj))(σ:St)(tg:RP)(R:It->Hp->Prop)(Mc:QG)(s2:QP):Prop:=
 ∃(it:QX) (fp:List QX) (tn:Nat->S2->Prop) (J:It) (H':Hp),Mc=.ref it/\aG X pins σ H' s2/\zm X.prog X.w X.K tg J fp it tn/\tn 0 s2.heap/\(∀b∈fp,oX X pins H' b)/\R J H'
def PI (X:Cx)(tg dH:RP)(wi:TI):Prop:=
 ∀(pins:List (QX×Obj)) (s:QP) (σ:St) (H:Hp) (R:It->Hp->Prop),aG X pins σ H s->wi σ H R->
  Q2 (Q7 X.prog X.w) X.A (Sv dH X.env) (λv s1=>Q2 (Q7 X.prog X.w) X.A (pyIter v) (NR X pins σ tg R) X.xe s1) X.xe s
theorem A4 {A:Rk}{u:QG}{o:Obj}{n:String}{vs:Array QG}{Q:Unit->QP->Prop}(ho:s.heap.get? it=some o)(hc:o.cls=.type n)(hd:o.data=.fields vs)(hn:["enumerate","zip","dict_itemiterator","dict_reverseitemiterator","odict_iterator","itertools.zip_longest","itertools.pairwise"].contains n=false)(hQ:Q () s):Q2 M A (TN tg (.ref it) u) Q E s:=by
  unfold TN;cases tg<;>first
    |exact QR hQ
    | (cases u<;>first
        |exact QR hQ
        | (refine Qz (wpAny_load ho ?_)
           rw[hc,hd];show Q2 M A (if (["enumerate","zip","dict_itemiterator","dict_reverseitemiterator","odict_iterator","itertools.zip_longest","itertools.pairwise"].contains n&&vs[0]? == some (rawInt _))=true then _ else _) Q E s;rw[hU (by intro h;rw[hn,Bool.false_and] at h;cases h)];exact QR hQ))
noncomputable def LO (K:QB)(a:QX):It:=
 ⟨λi H=>∃xs x,fi K H a xs/\xs[i]? = some x,λi H x H'=>H'=H/\∀xs,fi K H a xs->xs[i]? = some x,λi H=>∃xs,fi K H a xs/\xs.length<=i⟩
noncomputable def Mx (K:QB)(a:QX):It:=
 ⟨λi H=>∃xs x,gL K H a xs/\xs[i]? = some x,λi H x H'=>H'=H/\∀xs,gL K H a xs->xs[i]? = some x,λi H=>∃xs,gL K H a xs/\xs.length<=i⟩
noncomputable def LP (lo:Int)(n:Nat):It:=⟨λi _=>i<n,λi H x H'=>H'=H/\x=.int (lo+i),λi _=>n<=i⟩
theorem zo {w:Rx}(a it:QX):zm P w K tg (LO K a) [it] it (λi h=>h.IsListIter it a i) where
 mem:=by simp
 obj:=λi h st b hb=>by
  have e:b=it:=by simpa using hb
  subst e;obtain⟨o,e,c,d⟩:=st;exact⟨o,e,λv z=>by rw[d] at z;cases z⟩
 keep:=λi h h' st k=>st.at λo e=>k it (by simp) o e
 item:=by
  intro X hP hw hK hc i pins s σ H E I hf st hg;subst hP hw hK;obtain⟨xs,x,hq,hx⟩:=hg;obtain⟨ay,rv,p,hz⟩:=I.list hq;obtain⟨u,hu,ru⟩:=rv.get hx;obtain⟨f0,f1,f2,f3,f4,f5⟩:=hf it (by simp);refine wpAny_pyNext_list_item st p.isList (x:=u) (by simpa using hu) λh' GY sb=>?_;have I1:aG X pins σ H {s with heap:=h'}:=I.turned (t':=s.toks) (λb o hb e=>(sb.2 b hb).trans e) f0 f1 f3 f4 f5;obtain⟨o,e,c,d⟩:=id GY;exact⟨u,rfl,A4 (s:={s with heap:=h'}) e c d (by decide) ⟨x,H,I1,ru,⟨rfl,λys hy=>by rw[I.list_inj hy hq];exact hx⟩,GY,λb hb=>(hf b hb).1⟩⟩
 done:=by
  intro X hP hw hK hc i pins s σ H E I hf st hg;subst hP hw hK;obtain⟨xs,hq,hx⟩:=hg;obtain⟨ay,rv,p,hz⟩:=I.list hq;obtain⟨f0,f1,f2,f3,f4,f5⟩:=hf it (by simp);have hl:=rv.length;exact wpAny_pyNext_list_end (I.ok.hd hc) st p.isList (by simp;lia) λh' eb=>⟨rfl,I.turned (t':=s.toks) (λb o hb e=>eb b o hb e) f0 f1 f3 f4 f5⟩
 self:=λ_ _ _ _ _ st h=>wpAny_pyIter_listiter st h
theorem wK {w:Rx}(a it:QX):zm P w K tg (Mx K a) [it] it (λi h=>h.IsTupleIter it a i) where
 mem:=by simp
 obj:=λi h st b hb=>by
  have e:b=it:=by simpa using hb
  subst e;obtain⟨o,e,c,d⟩:=st;exact⟨o,e,λv z=>by rw[d] at z;cases z⟩
 keep:=λi h h' st k=>st.at λo e=>k it (by simp) o e
 item:=by
  intro X hP hw hK hc i pins s σ H E I hf st hg;subst hP hw hK;obtain⟨xs,x,hq,hx⟩:=hg;obtain⟨ay,rv,p,hz⟩:=I.tuple hq;obtain⟨u,hu,ru⟩:=rv.get hx;obtain⟨f0,f1,f2,f3,f4,f5⟩:=hf it (by simp);refine wpAny_pyNext_tuple_item st (show s.heap.IsTuple a ay.toArray from p) (x:=u) (by simpa using hu) λh' GY sb=>?_;have I1:aG X pins σ H {s with heap:=h'}:=I.turned (t':=s.toks) (λb o hb e=>(sb.2 b hb).trans e) f0 f1 f3 f4 f5;obtain⟨o,e,c,d⟩:=id GY;exact⟨u,rfl,A4 (s:={s with heap:=h'}) e c d (by decide) ⟨x,H,I1,ru,⟨rfl,λys hy=>by rw[I.tuple_inj hy hq];exact hx⟩,GY,λb hb=>(hf b hb).1⟩⟩
 done:=by
  intro X hP hw hK hc i pins s σ H E I hf st hg;subst hP hw hK;obtain⟨xs,hq,hx⟩:=hg;obtain⟨ay,rv,p,hz⟩:=I.tuple hq;obtain⟨f0,f1,f2,f3,f4,f5⟩:=hf it (by simp);have hl:=rv.length;exact wpAny_pyNext_tuple_end (I.ok.hd hc) st (show s.heap.IsTuple a ay.toArray from p) (by simp;lia) λh' eb=>⟨rfl,I.turned (t':=s.toks) (λb o hb e=>eb b o hb e) f0 f1 f3 f4 f5⟩
 self:=λ_ _ _ _ _ st h=>wpAny_pyIter_tupleiter st h
theorem wL {w:Rx}(it:QX)(lo:Int)(n:Nat):zm P w K tg (LP lo n) [it] it (λi h=>IsRangeIter h it (lo+(i:Nat)*1) ((n:Int)-(i:Nat)) 1) where
 mem:=by simp
 obj:=λi h st b hb=>by
  have e:b=it:=by simpa using hb
  subst e;exact⟨_,st,λv z=>by
   have z':Data.fields _=Data.cell v:=z;cases z'⟩
 keep:=λi h h' st k=>k it (by simp) _ st
 item:=by
  intro X hP hw hK hc i pins s σ H E I hf st hg;subst hP hw hK;obtain⟨f0,f1,f2,f3,f4,f5⟩:=hf it (by simp);have W:=Walks.range (prog:=X.prog) (w:=X.w) (I.ok.hd hc) it lo 1 n;refine W.item i s _ _ hg st λv h' tk hv GY kk=>?_;obtain⟨t,rfl⟩:=hv;have I1:aG X pins σ H {s with heap:=h',toks:=tk}:=I.turned (λb o hb e=>kk b o (by simpa using hb) e) f0 f1 f3 f4 f5;refine⟨_,rfl,A4 (s:={s with heap:=h',toks:=tk}) (n:="range_iterator") GY rfl rfl (by decide) ⟨.int (lo+i),H,I1,⟨t,?_⟩,⟨rfl,rfl⟩,GY,λb hb=>(hf b hb).1⟩⟩;rw[Int.mul_one]
 done:=by
  intro X hP hw hK hc i pins s σ H E I hf st hg;subst hP hw hK;obtain⟨f0,f1,f2,f3,f4,f5⟩:=hf it (by simp);exact wpAny_pyNext_range_end (I.ok.hd hc) st (by have:n<=i:=hg;lia) λh' eb=>⟨rfl,I.turned (t':=s.toks) (λb o hb e=>eb b o hb e) f0 f1 f3 f4 f5⟩
 self:=λ_ _ _ _ _ st h=>wpAny_pyIter_rangeiter st h
end L2
variable {wi:L2.TI}
namespace L2
def JV (K:QB)(tl:TE):TI:=λσ H R=>tl σ H λx H1=>∃a,x=.ref a/\(∃xs,fi K H1 a xs)/\R (LO K a) H1
def My (K:QB)(tl:TE):TI:=λσ H R=>tl σ H λx H1=>∃a,x=.ref a/\(∃xs,gL K H1 a xs)/\R (Mx K a) H1
theorem Ed {l:RP}{tl:TE}(hl:PE X l tl):PI X tg l (JV X.K tl):=by
 intro pins s σ H R I h;refine dy (hl pins s σ H _ I h) λv s1 ⟨x,H1,I1,r1,q1⟩=>?_;obtain⟨a,e,⟨xs,hq⟩,q⟩:=q1;subst e;cases r1;obtain⟨ay,rv,p,hz⟩:=I1.list hq;refine Uj p.isList ?_;refine⟨s1.heap.objs.size,[s1.heap.objs.size],_,_,H1,rfl,I1.kept (t':=s1.toks) λb o e=>QF _ e,zo a _,⟨_,QS _ rfl,rfl,rfl⟩,λb hb=>?_,q⟩;have e:b=s1.heap.objs.size:=by simpa using hb
 subst e;exact I1.fpOk (QJ _) (I1.hok.fresh (QJ _))
theorem Hq {l:RP}{tl:TE}(hl:PE X l tl):PI X tg l (My X.K tl):=by
 intro pins s σ H R I h;refine dy (hl pins s σ H _ I h) λv s1 ⟨x,H1,I1,r1,q1⟩=>?_;obtain⟨a,e,⟨xs,hq⟩,q⟩:=q1;subst e;cases r1;obtain⟨ay,rv,p,hz⟩:=I1.tuple hq;refine wpAny_pyIter_tuple (show s1.heap.IsTuple a ay.toArray from p) ?_;refine⟨s1.heap.objs.size,[s1.heap.objs.size],_,_,H1,rfl,I1.kept (t':=s1.toks) λb o e=>QF _ e,wK a _,⟨_,QS _ rfl,rfl,rfl⟩,λb hb=>?_,q⟩;have e:b=s1.heap.objs.size:=by simpa using hb
 subst e;exact I1.fpOk (QJ _) (I1.hok.fresh (QJ _))
theorem A5 {R:It->Hp->Prop}{lo hi:Int}{t u v:Tok}{tk:Nat}(I:aG X pins σ H s)(h1 : -(2 ^ 62)<=lo)(h2:lo<2 ^ 62)(h3 : -(2 ^ 62)<=hi)(h4:hi<2 ^ 62)(q:R (LP lo (hi-lo).toNat) H):Q2 (Q7 X.prog X.w) X.A (pyIter (.ref s.heap.objs.size)) (NR X pins σ tg R) E {s with heap:=s.heap.push {cls:=.type "range",data:=.fields (List.toArray [.int lo t,.int hi u,.int 1 v])},toks:=tk}:=by
 refine wpAny_pyIter_range (IsRange.new ..) (small_one h1 h2 h3 h4) ?_;have I1:aG X pins σ H {s with heap:=s.heap.push {cls:=.type "range",data:=.fields (List.toArray [.int lo t,.int hi u,.int 1 v])},toks:=tk}:=I.kept λb o e=>QF _ e;refine⟨(s.heap.push {cls:=.type "range",data:=.fields (List.toArray [.int lo t,.int hi u,.int 1 v])}).objs.size,[(s.heap.push {cls:=.type "range",data:=.fields (List.toArray [.int lo t,.int hi u,.int 1 v])}).objs.size],_,_,H,rfl,
  I1.kept (t':=tk) λb o e=>QF _ e,wL _ lo (hi-lo).toNat,?_,λb hb=>?_,q⟩
 ·have e1:lo+((0:Nat):Int)*1=lo:=by simp
  have e2:(((hi-lo).toNat:Nat):Int)-((0:Nat):Int)=Builtin.Range.rangeSize lo hi 1:=by rw[rangeSize_one];split<;>lia
  show IsRangeIter _ _ (lo+((0:Nat):Int)*1) ((((hi-lo).toNat:Nat):Int)-((0:Nat):Int)) 1;rw[e1,e2];exact QS _ rfl
 ·have e:b=(s.heap.push {cls:=.type "range",data:=.fields (List.toArray [.int lo t,.int hi u,.int 1 v])}).objs.size:=by simpa using hb
  subst e;exact I1.fpOk (QJ _) (I1.hok.fresh (QJ _))
def JW (ta:TA):TI:=λσ H R=>ta σ H λvs H1=>∃j:Int,vs=[.int j]/\ -(2 ^ 62)<=j/\j<2 ^ 62/\R (LP 0 j.toNat) H1
theorem zp {a:RP}{ta:TA}{p:Pos}(hg:Gl X "range")(hm:X.mg "range"=none)(ha:PA X [a] ta)(hs:QK [a] X.env=[(false,Sv a X.env)]:=by rfl):PI X tg (.Call (.Name "range" p) [a] [] pos) (JW ta):=by
 intro pins s σ H R I h;refine Call_ (pV I hg hm boot_range (Sz (dy (ha pos pins s σ H _ I h) λus s1 ⟨vs,H1,I1,r1,q1⟩=>?_) hs rfl));obtain⟨j,e,q1,q2,q⟩:=q1;subst e;cases r1 with
 |cons r rr=>
  cases rr;obtain⟨t,rfl⟩:=r;exact call_range_1 (A5 I1 (by lia) (by lia) q1 q2 (by simpa using q))
def Mz (wi:TI)(g:TG)(tb:TS):TS:=λD σ H=>wi σ H λJ H1=>∃W:Nat->Nat->St->Hp->Prop,(∃m,W 0 m σ H1)/\∀i m σ H,W i m σ H->
 (J.stop i H/\D.nx σ H)\/(J.go i H/\∃N:St->Hp->Prop,(∀σ' H',N σ' H'->∃m',m'<m/\W (i+1) m' σ' H')/\∀x H',J.yld i H x H'->g x σ H' λσ2 H2=>tb {D with nx:=N,ct:=N,bk:=D.nx} σ2 H2)
noncomputable def pW (fp:List QX)(h:S2):List (QX×Obj):=fp.filterMap λb=>(h.get? b).map λo=>(b,o)
theorem jh {o:Obj}(hb:b∈fp)(e:h.get? b=some o):(b,o)∈pW fp h:=T8.mpr ⟨b,hb,by rw[e];rfl⟩
theorem zq {p:QX×Obj}(hp:p∈pW fp h):p.1∈fp/\h.get? p.1=some p.2:=by
 obtain⟨b,hb,e⟩:=T8.mp hp;cases q:h.get? b with
 |none=>rw[q] at e;cases e
 |some o=>
  rw[q] at e;have e':(b,o)=p:=Q0 e;subst e';exact⟨hb,q⟩
theorem aG.pinned (I:aG X pins σ H s)(hf:∀b∈fp,oX X pins H b)(ho:∀b∈fp,∃o,s.heap.get? b=some o/\∀v,o.data≠.cell v):aG X (pins++pW fp s.heap) σ H s:=
 I.pins_of λp hp=>(Sw.mp hp).elim (λz=>I.pin p (QQ _ z)) λz=>by
  obtain⟨hb,e⟩:=zq z;obtain⟨f0,f1,f2,_⟩:=hf p.1 hb;obtain⟨o,e',d⟩:=ho p.1 hb;rw[e] at e';cases e';exact⟨e,f0,f1,f2,d⟩
theorem aG.unpinned {pl:List (QX×Obj)}(I:aG X (pins++pl) σ H s):aG X pins σ H s:=I.pins_of λp hp=>I.pin p (QQ _ (Rc _ hp))
theorem Hr {g:TG}(hp:Uu (Q7 X.prog X.w) X.A X.env X.xe)(hc:X.calm=true)(hi:PI X tg dH wi)(hg:PG X tg g)(hb:pj X body tb)(hs:∀x,RN dH X.env x=pure x:=by intro _;rfl):PS X (.For tg dH body [] pos) (Mz wi g tb):=by
 intro pins s σ H D I h;refine wpAny_For (dy (hi pins s σ H _ I h) λv s1 h1=>dy h1 λMc s2 h2=>?_) hs;obtain⟨it,fp,tn,J,H2,e,I2,T,DR,f2,W,⟨m0,w0⟩,turn⟩:=h2;subst e;have Jb:∀{H':Hp},(∀b∈fp,H' b=none)->∀b∈fp,oX X pins H' b:=λhn b hb=>⟨hn b hb,(f2 b hb).2⟩;refine codeAny_forLoop_any (λn s'=>∃i σ' H',aG X pins σ' H' s'/\tn i s'.heap/\(∀b∈fp,H' b=none)/\W i n σ' H') ?_ m0 ⟨0,σ,H2,I2,DR,λb hb=>(f2 b hb).1,w0⟩;rintro n s3 ⟨i,σ3,H3,I3,st3,fr3,w3⟩;rcases turn i n σ3 H3 w3 with⟨stop,qn⟩|⟨go,N,hN,step⟩
 ·refine Se hp (dy (T.done X rfl rfl rfl hc i pins s3 σ3 H3 X.xe I3 (Jb fr3) st3 stop) λr s4 ⟨hr,I4⟩=>?_);subst hr;exact Ta ⟨σ3,H3,I4,qn⟩
 ·refine Se hp (dy (T.item X rfl rfl rfl hc i pins s3 σ3 H3 X.xe I3 (Jb fr3) st3 go) λr s4 ⟨u,hr,h4⟩=>?_);subst hr;refine Se hp (dy h4 λ_ s5 ⟨x,H5,I5,r5,y5,st5,fr5⟩=>?_);have Nk:=I5.pinned (Jb fr5) (T.obj _ _ st5);refine Se hp (dy (hg _ s5 σ3 H5 x u _ Nk r5 (step x H5 y5)) λ_ s6 ⟨σ6,H6,I6,q6⟩=>?_);refine Se hp (dy (hb _ s6 σ6 H6 _ I6 q6) λf s7 q7=>?_);have again:∀{σ7:St} {H7:Hp},aG X (pins++pW fp s5.heap) σ7 H7 s7->N σ7 H7->∃m,m<n/\∃i σ' H',aG X pins σ' H' s7/\tn i s7.heap/\(∀b∈fp,H' b=none)/\W i m σ' H':=λ{σ7 H7} I7 n7=>by
   obtain⟨m',hm,w7⟩:=hN σ7 H7 n7;refine⟨m',hm,i+1,σ7,H7,I7.unpinned,T.keep _ _ _ st5 λb hb o e=>(I7.pin (b,o) (QQ _ (QQ _ (jh hb e)))).1,λb hb=>?_,w7⟩;obtain⟨o,e,d⟩:=T.obj _ _ st5 b hb;exact (I7.pin (b,o) (QQ _ (QQ _ (jh hb e)))).2.1
  cases f with
  |next=>obtain⟨σ7,H7,I7,n7⟩:=q7;exact again I7 n7
  |cont=>obtain⟨σ7,H7,I7,n7⟩:=q7;exact again I7 n7
  |brk=>obtain⟨σ7,H7,I7,q7⟩:=q7;exact⟨σ7,H7,I7.unpinned,q7⟩
  |ret v=>obtain⟨x7,σ7,H7,I7,r7,q7⟩:=q7;exact⟨x7,σ7,H7,I7.unpinned,r7,q7⟩
end L2
namespace L2
abbrev R2:=V->V->Hp->VK->Prop
def iY (X:Cx)(f:QG->QG->Sem QG)(r:R2):Prop:=
 ∀(pins:List (QX×Obj)) (s:QP) (σ:St) (H:Hp) (x y:V) (v u:QG) (Q:VK),aG X pins σ H s->bc x v->bc y u->r x y H Q->
  Q2 (Q7 X.prog X.w) X.A (f v u) (EP X pins σ Q) X.xe s
def LQ (X:Cx)(f:QG->Sem QG)(r:V->Hp->VK->Prop):Prop:=
 ∀(pins:List (QX×Obj)) (s:QP) (σ:St) (H:Hp) (x:V) (v:QG) (Q:VK),aG X pins σ H s->bc x v->r x H Q->
  Q2 (Q7 X.prog X.w) X.A (f v) (EP X pins σ Q) X.xe s
def fj (X:Cx)(f:QG)(r:List V->Hp->VK->Prop):Prop:=
 ∀(pins:List (QX×Obj)) (s:QP) (σ:St) (H:Hp) (xs:List V) (us:List QG) (Q:VK),aG X pins σ H s->a8 xs us->r xs H Q->
  Q2 (Q7 X.prog X.w) X.A (call f us) (EP X pins σ Q) X.xe s
def MA (X:Cx)(r:V->Hp->(Bool->Hp->Prop)->Prop):Prop:=
 ∀(pins:List (QX×Obj)) (s:QP) (σ:St) (H:Hp) (x:V) (v:QG) (Q:Bool->Hp->Prop),aG X pins σ H s->bc x v->r x H Q->
  Q2 (Q7 X.prog X.w) X.A (truthy v) (TP X pins σ Q) X.xe s
def JX (r:R2)(ta tb:TE):TE:=λσ H Q=>ta σ H λx H1=>tb σ H1 λy H2=>r x y H2 Q
def NT (r:V->Hp->VK->Prop)(ta:TE):TE:=λσ H Q=>ta σ H λx H1=>r x H1 Q
def rI (C:Int->Int->Prop)(g:Int->Int->V):R2:=λx y H Q=>∃i j,x=.int i/\y=.int j/\C i j/\Q (g i j) H
def wM (g:Int->Int->V):R2:=λx y H Q=>∃i j,x=.int i/\y=.int j/\Q (g i j) H
def rU (g:Int->V):V->Hp->VK->Prop:=λx H Q=>∃i,x=.int i/\Q (g i) H
section
variable {a b:RP}{ta tb tc:TE}
theorem Hs (ha:PE X a ta)(hb:PE X b tb){R:V->V->Hp->Prop}(I:aG X pins σ H s)(h:ta σ H λx H1=>tb σ H1 λy H2=>R x y H2){f:QG->QG->Sem QG}(hf:∀v u s2 x y H2,aG X pins σ H2 s2->bc x v->bc y u->R x y H2->Q2 (Q7 X.prog X.w) X.A (f v u) Q X.xe s2) :
  Q2 (Q7 X.prog X.w) X.A (Sv a X.env) (λv s₁=>Q2 (Q7 X.prog X.w) X.A (Sv b X.env) (λu s₂=>Q2 (Q7 X.prog X.w) X.A (f v u) Q X.xe s₂) X.xe s₁) X.xe s:=by
 refine dy (ha pins s σ H _ I h) λv s1 ⟨x,H1,I1,r1,q1⟩=>?_;refine dy (hb pins s1 σ H1 _ I1 q1) λu s2 ⟨y,H2,I2,r2,q2⟩=>?_;exact hf v u s2 x y H2 I2 r1 r2 q2
theorem A6 {op:Operator}{r:R2}(ho:iY X (Sr op) r)(ha:PE X a ta)(hb:PE X b tb):PE X (.BinOp a op b pos) (JX r ta tb):=by
 intro pins s σ H Q I h;exact wpAny_BinOp (Hs ha hb I h λv u s2 x y H2 I2 rx ry q=>ho pins s2 σ H2 x y v u Q I2 rx ry q)
theorem JY {op:UnaryOp}{r:V->Hp->VK->Prop}(ho:LQ X (unaryOp op) r)(ha:PE X a ta):PE X (.UnaryOp op a pos) (NT r ta):=by
 intro pins s σ H Q I h;exact UnaryOp_ (dy (ha pins s σ H _ I h) λv s1 ⟨x,H1,I1,r1,q1⟩=>ho pins s1 σ H1 x v Q I1 r1 q1)
theorem LS {f:QG->QG->Sem QG}{C:Int->Int->Prop}{g:Int->Int->Int}
  (rule:∀(i j:Int) (t u:Tok) (s:QP) (Q:QG->QP->Prop) (E:QG->QP->Prop),C i j->Q (.int (g i j) s.toks) {s with toks:=s.toks+1}->Q2 (Q7 X.prog X.w) X.A (f (.int i t) (.int j u)) Q E s) :
  iY X f (rI C λi j=>.int (g i j)):=by
 intro pins s σ H x y v u Q I rx ry h;obtain⟨i,j,rfl,rfl,hc,q⟩:=h;obtain⟨t,rfl⟩:=rx;obtain⟨t',rfl⟩:=ry;exact rule i j t t' s _ _ hc ⟨.int (g i j),H,I.tok _,⟨_,rfl⟩,q⟩
theorem JZ {f:QG->QG->Sem QG}{g:Int->Int->Int}
  (rule:∀(i j:Int) (t u:Tok) (s:QP) (Q:QG->QP->Prop) (E:QG->QP->Prop),Q (.int (g i j) s.toks) {s with toks:=s.toks+1}->Q2 (Q7 X.prog X.w) X.A (f (.int i t) (.int j u)) Q E s) :
  iY X f (wM λi j=>.int (g i j)):=by
 intro pins s σ H x y v u Q I rx ry h;obtain⟨i,j,rfl,rfl,q⟩:=h;obtain⟨t,rfl⟩:=rx;obtain⟨t',rfl⟩:=ry;exact rule i j t t' s _ _ ⟨.int (g i j),H,I.tok _,⟨_,rfl⟩,q⟩
theorem Ee {f:QG->QG->Sem QG}{g:Int->Int->Bool}
  (rule:∀(i j:Int) (t u:Tok) (s:QP) (Q:QG->QP->Prop) (E:QG->QP->Prop),Q (.bool (g i j)) s->Q2 (Q7 X.prog X.w) X.A (f (.int i t) (.int j u)) Q E s) :
  iY X f (wM λi j=>.bl (g i j)):=by
 intro pins s σ H x y v u Q I rx ry h;obtain⟨i,j,rfl,rfl,q⟩:=h;obtain⟨t,rfl⟩:=rx;obtain⟨t',rfl⟩:=ry;exact rule i j t t' s _ _ ⟨.bl (g i j),H,I,rfl,q⟩
def J2 (i j:Int):Prop:=0<=j/\j<=1000000/\i.natAbs<2 ^ 64
def Ef (i j:Int):Prop:=(-(2 ^ 64)<i/\i<2 ^ 64)\/(-(2 ^ 64)<j/\j<2 ^ 64)
theorem Ef.ok {i j:Int}(h:Ef i j):IntMulOk i j:=by
 rcases h with⟨h1,h2⟩|⟨h1,h2⟩
 ·exact .of_left (intBits_le_64 h1 h2)
 ·exact .of_right (intBits_le_64 h1 h2)
theorem Ht:iY X (Sr .Add) (wM λi j=>.int (i+j)):=JZ λ_ _ _ _ _ _ _ q=>add_int q
theorem tx:iY X (Sr .Sub) (wM λi j=>.int (i-j)):=JZ λ_ _ _ _ _ _ _ q=>sub_int q
theorem jZ:iY X (Sr .Mult) (rI Ef λi j=>.int (i*j)):=LS λ_ _ _ _ _ _ _ hc q=>mul_int q hc.ok
theorem lx:iY X (Sr .Mod) (rI (λ_ j=>0<j) λi j=>.int (i % j)):=LS λi j _ _ _ _ _ hc q=>by
 have h1:(0:Int)<j:=hc;exact mod_int' (by lia) (by rw[Int.fmod_eq_emod_of_nonneg i (by lia)];exact q)
theorem A7:iY X (Sr .Pow) (rI J2 λi j=>.int (i ^ j.toNat)):=LS λ_ _ _ _ _ _ _ hc q=>pow_int_small hc.1 hc.2.1 hc.2.2 q
theorem OI {f:QG->Sem QG}{g:Int->Int}
  (rule:∀(i:Int) (t:Tok) (s:QP) (Q:QG->QP->Prop) (E:QG->QP->Prop),Q (.int (g i) s.toks) {s with toks:=s.toks+1}->Q2 (Q7 X.prog X.w) X.A (f (.int i t)) Q E s) :
  LQ X f (rU λi=>.int (g i)):=by
 intro pins s σ H x v Q I rx h;obtain⟨i,rfl,q⟩:=h;obtain⟨t,rfl⟩:=rx;exact rule i t s _ _ ⟨.int (g i),H,I.tok _,⟨_,rfl⟩,q⟩
theorem ly:LQ X (unaryOp .USub) (rU λi=>.int (-i)):=OI λ_ _ _ _ _ q=>neg_int q
end
noncomputable def J3:V->V->Bool
 | .non,.non=>true|.non,.int _=>true|.int _,.non=>true|.non,.bl _=>true|.bl _,.non=>true|.non,.str _=>true|.str _,.non=>true
 | .int _,.int _=>true|.bl _,.bl _=>true|.str _,.str _=>true|.byt _,.byt _=>true
 | .int _,.str _=>true|.str _,.int _=>true|.bl _,.str _=>true|.str _,.bl _=>true
 |_,_=>false
def NU:R2:=λx y H Q=>J3 x y=true/\Q (.bl (decide (x=y))) H
def NV:R2:=λx y H Q=>J3 x y=true/\Q (.bl (!decide (x=y))) H
theorem pq {i j:Int}:decide (V.int i=V.int j)=(i==j):=by
 rw[RV];simp
theorem tE {i j:Bool}:decide (V.bl i=V.bl j)=(i==j):=by
 rw[RV];simp
theorem pw {i j:Str}:decide (V.str i=V.str j)=(i==j):=by
 rw[RV];simp
theorem xX {i j:Array UInt8}:decide (V.byt i=V.byt j)=(i.toList==j.toList):=by
 rw[RV];cases i;cases j;simp
section
variable {a b:RP}{ta tb tc:TE}
theorem bq {Q:VK}{k k':Bool}(I:aG X pins σ H s)(q:Q (.bl k) H)(e:k=k'):EP X pins σ Q (.bool k') s:=by
 subst e;exact⟨.bl k,H,I,rfl,q⟩
theorem ed:iY X (RD .Eq) NU:=by
 intro pins s σ H x y v u Q I rx ry h;obtain⟨hs,q⟩:=h;cases x with
 |non=>
  cases rx;cases y with
  |non=>cases ry;exact PySem.EqNone.eq_none_none (bq I q (by simp))
  |bl j=>cases ry;exact PySem.EqNone.eq_none_bool (bq I q (by simp))
  |int j=>obtain⟨t',rfl⟩:=ry;exact PySem.EqNone.eq_none_int (bq I q (by simp))
  |str j=>obtain⟨t',rfl⟩:=ry;exact PySem.EqNone.eq_none_str (bq I q (by simp))
  |_=>exact absurd (show false=true from hs) QA
 |bl i=>
  cases rx;cases y with
  |non=>cases ry;exact PySem.EqNone.eq_bool_none (bq I q (by simp))
  |bl j=>cases ry;exact eq_bool (bq I q tE)
  |str j=>obtain⟨t',rfl⟩:=ry;exact PySem.EqMixed.eq_bool_str (bq I q (by simp))
  |_=>exact absurd (show false=true from hs) QA
 |int i=>
  obtain⟨t,rfl⟩:=rx;cases y with
  |non=>cases ry;exact PySem.EqNone.eq_int_none (bq I q (by simp))
  |int j=>obtain⟨t',rfl⟩:=ry;exact eq_int (bq I q pq)
  |str j=>obtain⟨t',rfl⟩:=ry;exact PySem.EqMixed.eq_int_str (bq I q (by simp))
  |_=>exact absurd (show false=true from hs) QA
 |str i=>
  obtain⟨t,rfl⟩:=rx;cases y with
  |non=>cases ry;exact PySem.EqNone.eq_str_none (bq I q (by simp))
  |bl j=>cases ry;exact PySem.EqMixed.eq_str_bool (bq I q (by simp))
  |int j=>obtain⟨t',rfl⟩:=ry;exact PySem.EqMixed.eq_str_int (bq I q (by simp))
  |str j=>obtain⟨t',rfl⟩:=ry;exact eq_str (bq I q pw)
  |_=>exact absurd (show false=true from hs) QA
 |byt i=>
  obtain⟨t,rfl⟩:=rx;cases y with
  |byt j=>obtain⟨t',rfl⟩:=ry;exact PySem.W.eq_bytes (bq I q xX)
  |_=>exact absurd (show false=true from hs) QA
 |_=>cases y<;>exact absurd (show false=true from hs) QA
theorem u4:iY X (RD .NotEq) NV:=by
 intro pins s σ H x y v u Q I rx ry h;obtain⟨hs,q⟩:=h;cases x with
 |non=>
  cases rx;cases y with
  |non=>cases ry;exact PySem.EqNone.ne_none_none (bq I q (by simp))
  |bl j=>cases ry;exact PySem.EqNone.ne_none_bool (bq I q (by simp))
  |int j=>obtain⟨t',rfl⟩:=ry;exact PySem.EqNone.ne_none_int (bq I q (by simp))
  |str j=>obtain⟨t',rfl⟩:=ry;exact PySem.EqNone.ne_none_str (bq I q (by simp))
  |_=>exact absurd (show false=true from hs) QA
 |bl i=>
  cases rx;cases y with
  |non=>cases ry;exact PySem.EqNone.ne_bool_none (bq I q (by simp))
  |bl j=>cases ry;exact ne_bool (bq I q (congrArg not tE))
  |str j=>obtain⟨t',rfl⟩:=ry;exact PySem.EqMixed.ne_bool_str (bq I q (by simp))
  |_=>exact absurd (show false=true from hs) QA
 |int i=>
  obtain⟨t,rfl⟩:=rx;cases y with
  |non=>cases ry;exact PySem.EqNone.ne_int_none (bq I q (by simp))
  |int j=>obtain⟨t',rfl⟩:=ry;exact ne_int (bq I q (congrArg not pq))
  |str j=>obtain⟨t',rfl⟩:=ry;exact PySem.EqMixed.ne_int_str (bq I q (by simp))
  |_=>exact absurd (show false=true from hs) QA
 |str i=>
  obtain⟨t,rfl⟩:=rx;cases y with
  |non=>cases ry;exact PySem.EqNone.ne_str_none (bq I q (by simp))
  |bl j=>cases ry;exact PySem.EqMixed.ne_str_bool (bq I q (by simp))
  |int j=>obtain⟨t',rfl⟩:=ry;exact PySem.EqMixed.ne_str_int (bq I q (by simp))
  |str j=>obtain⟨t',rfl⟩:=ry;exact ne_str (bq I q (congrArg not pw))
  |_=>exact absurd (show false=true from hs) QA
 |byt i=>
  obtain⟨t,rfl⟩:=rx;cases y with
  |byt j=>obtain⟨t',rfl⟩:=ry;exact PySem.W.ne_bytes (bq I q (congrArg not xX))
  |_=>exact absurd (show false=true from hs) QA
 |_=>cases y<;>exact absurd (show false=true from hs) QA
theorem xY:iY X (RD .Lt) (wM λi j=>.bl (decide (i<j))):=Ee λ_ _ _ _ _ _ _ q=>lt_int q
theorem Fy:iY X (RD .LtE) (wM λi j=>.bl (decide (i<=j))):=Ee λ_ _ _ _ _ _ _ q=>le_int q
theorem u5:iY X (RD .Gt) (wM λi j=>.bl (decide (j<i))):=Ee λ_ _ _ _ _ _ _ q=>gt_int q
theorem J5:iY X (RD .GtE) (wM λi j=>.bl (decide (j<=i))):=Ee λ_ _ _ _ _ _ _ q=>ge_int q
theorem Hu:iY X (RD .Is) (λx y H Q=>y=.non/\Q (.bl (decide (x=.non))) H):=by
 intro pins s σ H x y v u Q I rx ry h;obtain⟨rfl,q⟩:=h;cases ry;refine is_none_gen (bq I q ?_);cases x<;>first
  | (cases rx;rfl)
  | (obtain⟨t,rfl⟩:=rx;rfl)
theorem Eg:iY X (RD .IsNot) (λx y H Q=>y=.non/\Q (.bl (!decide (x=.non))) H):=by
 intro pins s σ H x y v u Q I rx ry h;obtain⟨rfl,q⟩:=h;cases ry;refine isnot_none_gen (bq I q ?_);cases x<;>first
  | (cases rx;rfl)
  | (obtain⟨t,rfl⟩:=rx;rfl)
theorem iY.or {f:QG->QG->Sem QG}{r r':R2}(h:iY X f r)(h':iY X f r'):iY X f (λx y H Q=>r x y H Q\/r' x y H Q):=by
 intro pins s σ H x y v u Q I rx ry q;rcases q with q|q
 ·exact h pins s σ H x y v u Q I rx ry q
 ·exact h' pins s σ H x y v u Q I rx ry q
theorem aD (b:RP)(h:op≠.In:=by decide)(h2:op≠.NotIn:=by decide):SN op b=false:=by
 have e1:(op==CmpOp.In)=false:=by cases op<;>first|rfl|exact absurd rfl h
 have e2:(op==CmpOp.NotIn)=false:=by cases op<;>first|rfl|exact absurd rfl h2
 cases b<;>simp[SN,e1,e2]
theorem Eh {r:R2}(ho:iY X (RD op) r)(ha:PE X a ta)(hb:PE X b tb)(hm:SN op b=false):PE X (.Compare a [op] [b] pos) (JX r ta tb):=by
 intro pins s σ H Q I h;exact wpAny_Compare1 (Hs ha hb I h λv u s2 x y H2 I2 rx ry q=>ho pins s2 σ H2 x y v u Q I2 rx ry q) hm
def J6 (t:TE):TT:=λσ H Q=>t σ H λx H'=>∃k,x=.bl k/\Q k H'
theorem pz {r:R2}(ho:iY X (RD op) r)(ha:PE X a ta)(hb:PE X b tb)(hm:SN op b=false):PT X (.Compare a [op] [b] pos) (J6 (JX r ta tb)):=by
 intro pins s σ H Q I h;refine wpAny_isTrue_Compare1 (dy (ha pins s σ H _ I h) λv s1 ⟨x,H1,I1,r1,q1⟩=>dy (hb pins s1 σ H1 _ I1 q1) λu s2 ⟨y,H2,I2,r2,q2⟩=>
  dy (ho pins s2 σ H2 x y v u _ I2 r1 r2 q2) λc s3 ⟨z,H3,I3,r3,k,e,q3⟩=>?_) hm
 subst e;cases r3;exact RM ⟨H3,I3,q3⟩
def A8 (r r':R2)(ta tb tc:TE):TE:=λσ H Q=>ta σ H λx H1=>tb σ H1 λy H2=>r x y H2 λz H3=>∃k,z=.bl k/\
 (if k=true then tc σ H3 λw' H4=>r' y w' H4 Q else Q (.bl false) H3)
theorem A9 {Jc:CmpOp}{r r':R2}(ho:iY X (RD op) r)(wI:iY X (RD Jc) r')(ha:PE X a ta)(hb:PE X b tb)(hc:PE X c tc)(hm:lastMarks [op,Jc] [b,c]=false:=by with_unfolding_all rfl):PE X (.Compare a [op,Jc] [b,c] pos) (A8 r r' ta tb tc):=by
 intro pins s σ H Q I h;refine Compare_chain (dy (ha pins s σ H _ I h) λv s1 ⟨x,H1,I1,r1,q1⟩=>chain_link (dy (hb pins s1 σ H1 _ I1 q1) λu s2 ⟨y,H2,I2,r2,q2⟩=>
  dy (ho pins s2 σ H2 x y v u _ I2 r1 r2 q2) λd s3 ⟨z,H3,I3,r3,k,e,q3⟩=>?_)) hm
 subst e;cases r3;refine RM ?_;cases k with
 |false=>exact ite_ff ⟨.bl false,H3,I3,rfl,q3⟩
 |true=>exact ite_tt (chain_last (dy (hc pins s3 σ H3 _ I3 q3) λw' s4 ⟨z',H4,I4,r4,q4⟩=>wI pins s4 σ H4 y z' u w' Q I4 r2 r4 q4))
def MB (K:QB)(x:V)(H:Hp)(k:Bool):Prop:=
 match x with
 | .non=>k=false
 | .bl b=>k=b
 | .int i=>k=(i != 0)
 | .str y=>y.length<=QC/\k=((y.length:Int) != 0)
 | .byt y=>y.size<=QC/\k=((y.size:Int) != 0)
 | .ref p=>(∃xs,fi K H p xs/\k = !xs.isEmpty)\/(∃xs,gL K H p xs/\k = !xs.isEmpty)\/∃bA,H p=some (.dK bA)/\k = !bA.isEmpty
 |_=>False
theorem wN {κ:Type}{bA:List (κ×V)}{vs:List (κ×QG)}(r:KV bA vs):(!vs.isEmpty) = !bA.isEmpty:=by
 cases r<;>rfl
theorem pX (r:a8 xs ay):(!ay.toArray.isEmpty) = !xs.isEmpty:=by
 cases r<;>simp
theorem mY:(QC:Nat)<2 ^ 63:=by rw[S5];decide
theorem MC:MA X (λx H Q=>∃k,MB X.K x H k/\Q k H):=by
 intro pins s σ H x v Q I rx h;obtain⟨k,e,q⟩:=h;have hl:=mY;have hs:QC=16777216:=S5;cases x with
 |non=>
  cases rx;have e':k=false:=e;subst e';exact truthy_none ⟨H,I,q⟩
 |bl b=>
  cases rx;have e':k=b:=e;subst e';exact RM ⟨H,I,q⟩
 |int i=>
  obtain⟨t,rfl⟩:=rx;have e':k=(i != 0):=e;subst e';exact PySem.P.truthy_int ⟨H,I,q⟩
 |str y=>
  obtain⟨t,rfl⟩:=rx;obtain⟨hy,e'⟩:y.length<=QC/\k=((y.length:Int) != 0):=e;subst e';exact PySem.P.truthy_str (by lia) ⟨H,I.tok _,q⟩
 |byt y=>
  obtain⟨t,rfl⟩:=rx;obtain⟨hy,e'⟩:y.size<=QC/\k=((y.size:Int) != 0):=e;subst e';exact PySem.W.truthy_bytes (by lia) ⟨H,I.tok _,q⟩
 |ref p=>
  cases rx;have e':(∃xs,fi X.K H p xs/\k = !xs.isEmpty)\/(∃xs,gL X.K H p xs/\k = !xs.isEmpty)\/∃bA,H p=some (.dK bA)/\k = !bA.isEmpty:=e;rcases e' with⟨xs,hx,e'⟩|⟨xs,hx,e'⟩|⟨bA,hx,e'⟩
  ·subst e';obtain⟨ay,r,pl,hz⟩:=I.list hx;have iq:=r.length;exact wpAny_truthy_list pl.isList (by simp only[QD];lia) ⟨H,I.tok _,by rw[pX r];exact q⟩
  ·subst e';obtain⟨ay,r,pl,hz⟩:=I.tuple hx;have iq:=r.length;exact truthy_tuple pl (by simp only[QD];lia) ⟨H,I.tok _,by rw[pX r];exact q⟩
  ·subst e';obtain⟨hz,hS,vs,r,m⟩:bA.length<=QC/\(p==SM)=false/\∃vs,KV bA vs/\s.heap.DictOf (c8 X.prog X.w) p vs:=I.hok p _ hx;have iq:bA.length=vs.length:=Paired.length r;exact wpAny_truthy_dict hS m (by lia) ⟨H,I.tok _,by rw[wN r];exact q⟩
 |_=>exact (show False from e).elim
theorem jG {x:V}{us:List QG}(r:a8 [x] us):∃u,us=[u]/\bc x u:=by
 cases r with
 |cons r1 r2=>cases r2;exact⟨_,rfl,r1⟩
theorem xZ {x:V}{us:List QG}(r:a8 [x,y] us):∃u w',us=[u,w']/\bc x u/\bc y w':=by
 cases r with
 |cons r1 r2=>
  cases r2 with
  |cons r3 r4=>cases r4;exact⟨_,_,rfl,r1,r3⟩
theorem zu (hc:X.calm=true):fj X (.builtin "max") (λxs H Q=>∃i j,xs=[.int i,.int j]/\Q (.int (if j>i then j else i)) H):=by
 intro pins s σ H xs us Q I r h;obtain⟨i,j,rfl,q⟩:=h;obtain⟨u,w',rfl,⟨t,rfl⟩,⟨t',rfl⟩⟩:=xZ r;refine max_two_ints (I.ok.hd hc) λh' tk k=>⟨_,H,I.kept k,?_,q⟩;by_cases hj:j>i
 ·rw[hV hj,hV hj];exact⟨_,rfl⟩
 ·rw[hU hj,hU hj];exact⟨_,rfl⟩
theorem zw (hc:X.calm=true):fj X (.builtin "min") (λxs H Q=>∃i j,xs=[.int i,.int j]/\Q (.int (if j<i then j else i)) H):=by
 intro pins s σ H xs us Q I r h;obtain⟨i,j,rfl,q⟩:=h;obtain⟨u,w',rfl,⟨t,rfl⟩,⟨t',rfl⟩⟩:=xZ r;refine min_two_ints (I.ok.hd hc) λh' tk k=>⟨_,H,I.kept k,?_,q⟩;by_cases hj:j<i
 ·rw[hV hj,hV hj];exact⟨_,rfl⟩
 ·rw[hU hj,hU hj];exact⟨_,rfl⟩
theorem zx:fj X (.type "int") (λxs H Q=>(∃i,xs=[.int i]/\Q (.int i) H)\/∃k,xs=[.bl k]/\Q (.int (if k then 1 else 0)) H):=by
 intro pins s σ H xs us Q I r h;rcases h with⟨i,rfl,q⟩|⟨k,rfl,q⟩
 ·obtain⟨u,rfl,t,rfl⟩:=jG r;exact call_int_int ⟨.int i,H,I,⟨_,rfl⟩,q⟩
 ·obtain⟨u,rfl,r1⟩:=jG r;cases r1;exact call_int_bool ⟨.int (if k then 1 else 0),H,I.tok _,⟨_,rfl⟩,q⟩
def J7 (K:QB)(x:V)(H:Hp)(n:Nat):Prop:=
 match x with
 | .str y=>y.length<=QC/\n=y.length
 | .byt y=>y.size<=QC/\n=y.size
 | .ref p=>(∃xs,fi K H p xs/\n=xs.length)\/∃xs,gL K H p xs/\n=xs.length
 |_=>False
theorem bb:fj X (.builtin "len") (λxs H Q=>∃x n,xs=[x]/\J7 X.K x H n/\Q (.int n) H):=by
 intro pins s σ H xs us Q I r h;obtain⟨x,n,rfl,e,q⟩:=h;obtain⟨u,rfl,rx⟩:=jG r;have hl:=mY;have hs:QC=16777216:=S5;cases x with
 |str y=>
  obtain⟨t,rfl⟩:=rx;obtain⟨hy,e'⟩:y.length<=QC/\n=y.length:=e;subst e';exact len_str (by lia) ⟨.int _,H,I.tok _,⟨_,rfl⟩,q⟩
 |byt y=>
  obtain⟨t,rfl⟩:=rx;obtain⟨hy,e'⟩:y.size<=QC/\n=y.size:=e;subst e';exact PySem.W.len_bytes (by lia) ⟨.int _,H,I.tok _,⟨_,rfl⟩,q⟩
 |ref p=>
  cases rx;have e':(∃xs,fi X.K H p xs/\n=xs.length)\/∃xs,gL X.K H p xs/\n=xs.length:=e;rcases e' with⟨xs,hx,e'⟩|⟨xs,hx,e'⟩
  ·subst e';obtain⟨ay,r',pl,hz⟩:=I.list hx;have iq:=r'.length;exact Calls.call_len_list pl.isList (by simp only[QD];lia) ⟨.int xs.length,H,I.tok _,⟨_,by simp only[QD];rw[iq]⟩,q⟩
  ·subst e';obtain⟨ay,r',pl,hz⟩:=I.tuple hx;have iq:=r'.length;exact len_tuple pl (by simp only[QD];lia) ⟨.int xs.length,H,I.tok _,⟨_,by simp only[QD];rw[iq]⟩,q⟩
 |_=>exact (show False from e).elim
end
end L2
variable {r r':L2.R2}
namespace L2
structure Hv (h:S2)(x dx C:QX)(mA:Str->Option QG):Prop where
 obj:h.get? x=some (PySem.W.instObj C dx)
 ns:h.Ns1 dx mA
 ne:dx≠x
theorem zy {dx:QX}{mA:Str->Option QG}(n:h.Ns1 dx mA):∃od,h.get? dx=some od/\∀name,PySem.W.lookIn name od=some (mA name):=by
 obtain⟨o,es,ep,ho,hd,hk,_,hm⟩:=n;refine⟨o,ho,λname=>?_⟩;have e:=hm name;unfold nsFind findBy at e;rw[←Array.find?_toList] at e;unfold PySem.W.lookIn;rw[hd];dsimp only;split
 ·rename_i y q;rw[q] at e;exact congrArg some e
 ·rename_i q;rw[q] at e;have a:es.toList.any (·.refKey)=false:=by
   rw[List.any_eq_false];intro y hy;obtain⟨z,t,hkey⟩:=hk y (Array.mem_toList_iff.mp hy);simp[DictEntry.refKey,hkey]
  have a':¬es.toList.any (·.refKey)=true:=by rw[a];exact QA
  rw[hU a'];exact congrArg some e
theorem Hv.look {x dx:QX}{mA:Str->Option QG}(I:Hv h x dx C mA):∃od,PySem.W.InstAt h x (PySem.W.instObj C dx) C (some od)/\∀name,PySem.W.lookIn name od=some (mA name):=
 let ⟨od,ho,hl⟩:=zy I.ns
 ⟨od,⟨I.obj,rfl,rfl,ho⟩,hl⟩
theorem tm.some_of {o:Option QG}(r:tm (some v) o):∃u,o=some u/\bc v u:=by
 cases o with
 |none=>exact (show False from r).elim
 |some u=>exact⟨u,rfl,r⟩
section
variable {w:Rx}{dx:QX}{fs fs':List (Str×V)}
theorem Ei (hok:jR P w H h)(e:H a=some (.ins C dx fs)):∃mA,Hv h a dx C mA/\(∀f,tm (fs.lookup f) (mA f))/\PySem.Within mA (fs.map (·.1))/\fs.length<=1000/\H dx=some (.own a):=by
 obtain⟨d,z,ne,ob,mA,n,r,q⟩:=(show bU P w H h a (.ins C dx fs) from hok a _ e);exact⟨mA,⟨ob,n,ne⟩,r,q,z,d⟩
end
structure MD (K:QB)(C:QX):Prop where
 pg:PySem.W.plainGet K C Str.empty=true
 hd:PySem.W.hasDictIn K C=true
 po:PySem.W.plainOver K C=true
 sa:R6 K (.ref C) "__setattr__"=some (some (.builtin "object.__setattr__"))
theorem MD.get (c:MD K C)(f:Str):PySem.W.plainGet K C f=true:=c.pg
structure Qr (K:QB)(C:QX)(f:Str)(v:V)(u:QG):Prop where
 at_:R6 K (.ref C) f=some (some u)
 rel:bc v u
 get:Uk K u "__get__"=some none
 cp:PySem.W.copiedNames.contains f=false
structure OJ (K:QB)(C:QX)(m:Str)(f:QX):Prop where
 at_:R6 K (.ref C) m=some (some (.ref f))
 fn:PySem.W.isFn K (.ref f)=true
 kp:Rv K (.ref f)=true
section
variable {A:Rk}{c:QG}{b:Bool}
inductive mZ (K:QB)(H:Hp):V->QG->Prop where
 |non:mZ K H .non (.type "NoneType")
 |bl (x:Bool):mZ K H (.bl x) (.type "bool")
 |int (i:Int):mZ K H (.int i) (.type "int")
 |str (x:Str):mZ K H (.str x) (.type "str")
 |flt (x:UInt64):mZ K H (.flt x) (.type "float")
 |lst {a:QX} {xs:List V} (e:H a=some (.lst xs)):mZ K H (.ref a) (.type "list")
 |frz {a:QX} {o:Obj} {xs:List V} (e:H a=some (.frz o (.lst xs))):mZ K H (.ref a) (.type "list")
 |tup {a:QX} {xs:List V} (e:H a=some (.tup xs)):mZ K H (.ref a) (.type "tuple")
 |dK {a:QX} {bA:List (Key×V)} (e:H a=some (.dK bA)):mZ K H (.ref a) (.type "dict")
 |dT {a:QX} {bA:List (List Key×V)} (e:H a=some (.dT bA)):mZ K H (.ref a) (.type "dict")
 |ins {a C dx:QX} {fs:List (Str×V)} (e:H a=some (.ins C dx fs)) (cl:MD K C) (ha:R6 K (.ref C) "__class__"=some (some (.builtin "object.__class__")))
   (hn:Uk K (.builtin "object.__class__") "__get__"=some (some (.builtin "getset_descriptor.__get__"))) (htk:PySem.W.takesIn K (.builtin "object.__class__")=some true)
   (hm:PySem.W.mroIn K C (.type "object")=some true):mZ K H (.ref a) (.ref C)
theorem zz {x:V}{u t:QG}(I:aG X pins σ H s)(rx:bc x u)(ty:mZ X.K H x t)(e:RG X.K t c=some b)(h:∀tk,Q (.bool b) {s with toks:=tk}) :
  Q2 (Q7 X.prog X.w) A (call (.builtin "isinstance") [u,c]) Q E s:=by
 cases ty with
 |non=>cases (show u=Value.none from rx);exact Rr PySem.W.kitx_none I.kIn True.intro e (λz=>nomatch z) h
 |bl y=>cases (show u=Value.bool y from rx);exact Rr PySem.W.kitx_bool I.kIn True.intro e (λz=>nomatch z) h
 |int i=>obtain⟨t,q⟩:=(show ∃t,u=Value.int i t from rx);cases q;exact Rr PySem.W.kitx_int I.kIn True.intro e (λz=>nomatch z) h
 |str y=>obtain⟨t,q⟩:=(show ∃t,u=Value.str y t from rx);cases q;exact Rr PySem.W.kitx_str I.kIn True.intro e (λz=>nomatch z) h
 |flt y=>obtain⟨t,q⟩:=(show ∃t,u=Value.float y t from rx);cases q;exact Rr PySem.W.kitx_float I.kIn True.intro e (λz=>nomatch z) h
 | @lst a xs ea=>
  cases (show u=Value.ref a from rx);obtain⟨_,_,n,_,h1⟩:=(show bU X.prog X.w H s.heap a (.lst xs) from I.hok a _ ea);exact Rr PySem.W.kitx_list I.kIn ⟨_,h1,rfl⟩ e (λz=>nomatch z) h
 | @frz a ob xs ea=>
  cases (show u=Value.ref a from rx);obtain⟨_,_,_,n,_,h1⟩:=(show bU X.prog X.w H s.heap a (.frz ob (.lst xs)) from I.hok a _ ea);exact Rr PySem.W.kitx_list I.kIn ⟨_,h1,rfl⟩ e (λz=>nomatch z) h
 | @tup a xs ea=>
  cases (show u=Value.ref a from rx);obtain⟨_,_,_,p,_⟩:=(show bU X.prog X.w H s.heap a (.tup xs) from I.hok a _ ea);obtain⟨o,h1,h2,_⟩:=p;exact Rr PySem.W.kitx_tuple I.kIn ⟨o,h1,h2⟩ e (λz=>nomatch z) h
 | @dK a bA ea=>
  cases (show u=Value.ref a from rx);obtain⟨_,_,vs,_,p⟩:=(show bU X.prog X.w H s.heap a (.dK bA) from I.hok a _ ea);obtain⟨o,es,ep,h1,h2,_⟩:=p;exact Rr PySem.W.kitx_dict I.kIn ⟨o,h1,h2.1⟩ e (λz=>nomatch z) h
 | @dT a bA ea=>
  cases (show u=Value.ref a from rx);obtain⟨_,_,xs,_,o,es,ep,h1,h2,_⟩:=(show bU X.prog X.w H s.heap a (.dT bA) from I.hok a _ ea);exact Rr PySem.W.kitx_dict I.kIn ⟨o,h1,h2.1⟩ e (λz=>nomatch z) h
 | @ins a C dx fs ea cl ha hn htk hm=>
  cases (show u=Value.ref a from rx);obtain⟨mA,O,_⟩:=Ei I.hok ea;obtain⟨od,J,_⟩:=O.look;exact Rr (PySem.W.kitx_own (cl.get _) cl.hd ha hn htk hm) I.kIn J e (λz=>nomatch z) h
end
end L2
namespace L2
structure et (k:Nat)(A:Rk):Prop where
 hd:A.handled=none
 dp:A.depth+3*k+5<Ug
 un:A.units+16*k+200<Tj
theorem et.mono {A:Rk}(r:et k A)(h:j<=k):et j A:=⟨r.hd,by have:=r.dp;lia,by have:=r.un;lia⟩
theorem et.deeper {A:Rk}(r:et (k+1) A)(env:Env):et k (A.deeper env):=
 ⟨r.hd,by have:=r.dp;show A.depth+1+3*k+5<_;lia,by have:=r.un;show A.units+3+16*k+200<_;lia⟩
theorem et.depth {A:Rk}(r:et k A):A.depth<Ug:=by have:=r.dp;lia
theorem et.units {A:Rk}(r:et k A):A.units+64<Tj:=by have:=r.un;lia
def ME:TA:=λ_ H Q=>Q [] H
def J8 (ta:TE)(tr:TA):TA:=λσ H Q=>ta σ H λx H1=>tr σ H1 λxs H2=>Q (x::xs) H2
section
variable {e:RP}{t:TA}
theorem c9:PA X [] ME:=λ_ _ _ _ H Q I h=>Calls.spliced_nil ⟨[],H,I,.nil,h⟩
theorem aO (ha:PE X e te)(hr:PA X es t)(hs:QK (e::es) X.env=(false,Sv e X.env)::QK es X.env:=by rfl):PA X (e::es) (J8 te t):=by
 intro pos pins s σ H Q I h;rw[hs];show Q2 _ _ (spliced ((false,Sv e X.env)::Sd pos (QK es X.env))) _ _ s;refine Calls.spliced_cons (dy (ha pins s σ H _ I h) λu s1 ⟨x,H1,I1,r1,q1⟩=>?_);exact dy (hr pos pins s1 σ H1 _ I1 q1) λus s2 ⟨xs,H2,I2,r2,q2⟩=>⟨x::xs,H2,I2,.cons r1 r2,q2⟩
def MG (t:TA):TE:=λσ H Q=>t σ H λxs H1=>xs.length<=QC/\∀p,H1 p=none->Q (.ref p) (cE H1 p (.tup xs))
def MJ (t:TA):TE:=λσ H Q=>t σ H λxs H1=>xs.length<=QC/\∀p,H1 p=none->Q (.ref p) (cE H1 p (.lst xs))
theorem A_ {x1}(h:PA X es t):PE X (.Tuple es x1 pos) (MG t):=by
 intro pins s σ H Q I hq;refine wpAny_Tuple_spliced (dy (h pos pins s σ H _ I hq) λus s1 ⟨xs,H1,I1,r,z,q⟩=>⟨by rw[←r.length];exact z,?_⟩);have hf:H1 s1.heap.objs.size=none:=I1.hok.fresh (QJ _);refine⟨.ref s1.heap.objs.size,cE H1 s1.heap.objs.size (.tup xs),I1.laid (t':=s1.toks) (λb u e=>QF _ e) (QJ _) ?_,rfl,q _ hf⟩;exact⟨z,us,r,⟨_,QS _ rfl,rfl,_,rfl⟩,_,QS _ rfl⟩
theorem m8 (h:PA X es t):PE X (.List es pos) (MJ t):=by
 intro pins s σ H Q I hq;refine wpAny_List_spliced (dy (h pos pins s σ H _ I hq) λus s1 ⟨xs,H1,I1,r,z,q⟩=>⟨by rw[←r.length];exact z,?_⟩);have hf:H1 s1.heap.objs.size=none:=I1.hok.fresh (QJ _);refine⟨.ref s1.heap.objs.size,cE H1 s1.heap.objs.size (.lst xs),I1.laid (t':=s1.toks) (λb u e=>QF _ e) (QJ _) ?_,rfl,q _ hf⟩;exact⟨z,us,0,r,QS _ rfl⟩
end
abbrev Sp:=List V->Hp->VK->XK->Prop
abbrev CXT:=List Env->Hp->QP->XK->QG->QP->Prop
structure zA (P:RF)(w:Rx)(K:QB)(mg:Str->Option QG)(base:S2)(A:Rk)(outer:List Env)(s:QP)(H:Hp):Prop where
 frames:A.frames=some outer
 mod:Mod K mg base
 bs:∀b o,base.get? b=some o->s.heap.get? b=some o/\H b=none
 bsz:base.objs.size<=s.heap.objs.size
 funs:s.heap.FunFrames base outer
 frf:∀b∈pT outer,H b=none
 hok:jR P w H s.heap
 bare:Ue s.gens
def CE (outer:List Env)(P:RF)(w:Rx)(H:Hp)(s:QP)(Q:VK)(u:QG)(s':QP):Prop:=
 ∃v H',s'.os=s.os/\Ue s'.gens/\Un (pT outer) [] H H' s.heap s'.heap/\jR P w H' s'.heap/\bc v u/\Q v H'
def CR (CX:CXT)(outer:List Env)(P:RF)(w:Rx)(H:Hp)(s:QP)(Q:VK)(E:XK)(r:Result)(s':QP):Prop:=
 match r with
 | .ok (.ret u)=>CE outer P w H s Q u s'
 | .ok _=>False
 | .error e=>CX outer H s E e s'
structure iZ (P:RF)(w:Rx)(K:QB)(mg:Str->Option QG)(base:S2)(CX:CXT)(k:Nat)(f:QX)(fd:Sq)(ps:List Str)(sp:Sp):Prop where
 len:∀vs H Q E,sp vs H Q E->vs.length=ps.length
 run:∀(A:Rk) (outer:List Env) (s:QP) (H:Hp) (args:Args) (us:List QG) (vs:List V) (Q:VK) (E:XK),et k A->zA P w K mg base A outer s H->BindsTo s fd args (ps.zip us)->a8 vs us->sp vs H Q E->
  codeAny (Q7 P w) A (.call (.ref f) args) (CR CX outer P w H s Q E) s
theorem iZ.imp {w:Rx}{CX:CXT}{sp Oj:Sp}(F:iZ P w K mg base CX k f fd ps sp)(h:∀vs H Q E,Oj vs H Q E->sp vs H Q E):iZ P w K mg base CX k f fd ps Oj:=
 ⟨λvs H Q E q=>F.len vs H Q E (h _ _ _ _ q),λA outer s H args us vs Q E hr he hb hv hs=>F.run A outer s H args us vs Q E hr he hb hv (h _ _ _ _ hs)⟩
section
variable {s':QP}
theorem aG.env0 (I:aG X pins σ H s):zA X.prog X.w X.K X.mg X.base X.A X.stack s H:=
 ⟨I.ok.frames,I.ok.mod,I.bs,Rn I.ok.bsz I.sz,I.stack,I.stkFree,I.hok,I.bare⟩
theorem aG.after {Q:VK}{u:QG}(I:aG X pins σ H s)(h:CE X.stack X.prog X.w H s Q u s'):EP X pins σ Q u s':=by
 obtain⟨v,H',os,bare,un,hok,r,q⟩:=h;obtain⟨hh,g,d,t,os'⟩:=s';obtain rfl:os'=s.os:=os;exact⟨v,H',I.call (h':=hh) (g':=g) (d':=d) (t':=t) (ch:=[]) un hok bare (λb z=>absurd z (by simp)),r,q⟩
end
def Ba (sp:Sp)(GZ:List V)(E:XK)(t:TA):TE:=λσ H Q=>t σ H λvs H1=>sp (vs++GZ) H1 Q E
def jH (K:QB)(fd:Sq)(ps:List Str)(ds:List QG):Prop:=
 ∀(s:QP) (us:List QG),K.In s.heap->(us++ds).length=ps.length->BindsTo s fd ⟨us,[]⟩ (ps.zip (us++ds))
theorem jH.all (h:∀us:List QG,us.length=ps.length->bindArgs fd ⟨us,[]⟩=pure (ps.zip us)):jH K fd ps []:=λs us _ hl=>by
 rw[Q1] at hl ⊢;exact .of_eq (h us hl)
def wO (CX:CXT)(X:Cx)(E:XK):Prop:=∀(pins:List (QX×Obj)) (σ:St) (H:Hp) (s:QP) (e:QG) (s':QP),aG X pins σ H s->CX X.stack H s E e s'->X.xe e s'
section
variable {CX:CXT}{sp:Sp}{GZ:List V}{ds:List QG}{E:XK}{m:Str}{p kr:Pos}{e o:RP}{ta:TE}{t:TA}
theorem Hw {Q:VK}{us:List QG}(F:iZ X.prog X.w X.K X.mg X.base CX k f fd ps sp)(hr:et k X.A)(hb:jH X.K fd ps ds)(hd:a8 GZ ds)(hx:wO CX X E)(I:aG X pins σ H s)(r:a8 vs us)(h:sp (vs++GZ) H Q E):Q2 (Q7 X.prog X.w) X.A (call (.ref f) us) (EP X pins σ Q) X.xe s:=by
 have r2:a8 (vs++GZ) (us++ds):=r.append hd;have hl:(us++ds).length=ps.length:=by rw[←r2.length];exact F.len _ _ _ _ h
 refine wpAny_call (Tt (F.run X.A X.stack s H ⟨us,[]⟩ (us++ds) (vs++GZ) Q E hr I.env0 (hb s us I.kIn hl) r2 h) λr s' hq=>?_);cases r with
 |error e=>exact hx pins σ H s e s' I hq
 |ok fl=>
  cases fl with
  |ret u=>exact I.after hq
  |next=>exact Ry hq
  |brk=>exact Ry hq
  |cont=>exact Ry hq
theorem Ej (F:iZ X.prog X.w X.K X.mg X.base CX k f fd ps sp)(hr:et k X.A)(hg:Gl X x)(hm:X.mg x=some (.ref f))(hk:Rv X.K (.ref f)=true)(hb:jH X.K fd ps ds)(hd:a8 GZ ds)(hx:wO CX X E)
  (ha:PA X (e::es) t) (uN:(x==("__debug__":Str))=false:=by decide) (he:QK (e::es) X.env=(false,Sv e X.env)::QK es X.env:=by rfl) (mU:(Sd pos (QK es X.env)).any (·.1)=false:=by rfl) :
  PE X (.Call (.Name x p) (e::es) [] pos) (Ba sp GZ E t):=by
 intro pins s σ H Q I h;refine Ss (kE I hg hm ?_ uN);refine T9 (h₀:=X.base) I.ok.mod.kin hk (dy (ha pos pins s σ H _ I h) λus s1 ⟨vs,H1,I1,r,q⟩=>⟨I1.kIn,?_⟩) he mU;exact Hw F hr hb hd hx I1 r q
structure Mk (K:QB)(C f:QX):Prop where
 makes:PySem.W.makesIn K C=true
 init:R6 K (.ref C) "__init__"=some (some (.ref f))
 fn:PySem.W.isFn K (.ref f)=true
 kp:Rv K (.ref C)=true
end
section
variable {CX:CXT}{ks:List Str}{sp:Sp}{E:XK}{m:Str}{p kr kpos:Pos}{e o:RP}{kws:List Keyword}{ta:TE}{t tk:TA}{nm:Option Str}
structure MK (K:QB)(fd:Sq)(ps ks:List Str)(g:List QG->List QG->List QG)(gV:List V->List V->List V):Prop where
 to:∀(s:QP) (us ws:List QG),K.In s.heap->(g us ws).length=ps.length->BindsTo s fd ⟨us,ks.zip ws⟩ (ps.zip (g us ws))
 rel:∀{vs:List V} {us:List QG} {zs:List V} {ws:List QG},a8 vs us->a8 zs ws->a8 (gV vs zs) (g us ws)
variable {g:List QG->List QG->List QG}{gV:List V->List V->List V}
end
structure aE (N P:List Str)(sc:Ud):Prop where
 kind:sc.kind=.function
 co:sc.isCoroutine=false
 gen:sc.isGenerator=false
 nd:N.Nodup
 pre:N.take P.length=P
 par:∀x∈P,sc.names.lookup x=some .local\/sc.names.lookup x=some .cell
 nofree:∀y∈sc.names,y.2≠.free
theorem sx {Ul:Str->Option Ut}{x:Str}:∀{binds:List (Str×QG)} {m:Str->Option QG},(∀v,(x,v)∉binds)->bindL Ul binds m x=m x
 | [],_,_=>rfl
 | (n,v)::r,m,h=>by
  unfold bindL;rw[sx λw hw=>h w (QW _ hw)];split
  ·have:x≠n:=by rintro rfl;exact h v QZ
   simp[this]
  ·rfl
theorem sy {Ul:Str->Option Ut}{x:Str}:∀{binds:List (Str×QG)} {m:Str->Option QG},(∀v,(x,v)∉binds)->bindC Ul binds m x=m x
 | [],_,_=>rfl
 | (n,v)::r,m,h=>by
  unfold bindC;rw[sy λw hw=>h w (QW _ hw)];split
  ·rfl
  ·have:x≠n:=by rintro rfl;exact h v QZ
   simp[this]
theorem m9 {Ul:Str->Option Ut}{x:Str}{v:QG}:∀{P:List Str} {vs:List QG} {i:Nat} {m:Str->Option QG},P.Nodup->P[i]? = some x->vs[i]? = some v->Ul x=some .local->
  bindL Ul (P.zip vs) m x=some v
 | [],_,_,_,_,h,_,_=>by simp at h
 |_::_,[],_,_,_,_,h,_=>by simp at h
 |p::P,w::vs,0,m,nd,h1,h2,hk=>by
  simp at h1 h2;subst h1;subst h2;show bindL Ul ((p,w)::P.zip vs) m p=_;unfold bindL;rw[sx λv hv=>(TQ.mp nd).1 (SA hv).1,hV hk];simp
 |p::P,w::vs,i+1,m,nd,h1,h2,hk=>by
  show bindL Ul ((p,w)::P.zip vs) m x=_;unfold bindL;exact m9 (i:=i) (TQ.mp nd).2 (by simpa using h1) (by simpa using h2) hk
theorem m_ {Ul:Str->Option Ut}{x:Str}{v:QG}:∀{P:List Str} {vs:List QG} {i:Nat} {m:Str->Option QG},P.Nodup->P[i]? = some x->vs[i]? = some v->Ul x≠some .local->
  bindC Ul (P.zip vs) m x=some v
 | [],_,_,_,_,h,_,_=>by simp at h
 |_::_,[],_,_,_,_,h,_=>by simp at h
 |p::P,w::vs,0,m,nd,h1,h2,hk=>by
  simp at h1 h2;subst h1;subst h2;show bindC Ul ((p,w)::P.zip vs) m p=_;unfold bindC;rw[sy λv hv=>(TQ.mp nd).1 (SA hv).1,hU hk];simp
 |p::P,w::vs,i+1,m,nd,h1,h2,hk=>by
  show bindC Ul ((p,w)::P.zip vs) m x=_;unfold bindC;exact m_ (i:=i) (TQ.mp nd).2 (by simpa using h1) (by simpa using h2) hk
noncomputable def dJ (N:List Str)(vs:List V):St:=vs.map some++List.replicate (N.length-vs.length) none
noncomputable def iF (CX:CXT)(P:RF)(w:Rx)(K:QB)(mg:Str->Option QG)(base:S2)(N:List Str)(qual:Str)(scope:Ud)(f:QX)(cd:QG)(A:Rk)(outer:List Env)(s:QP)(H:Hp)(E:XK):Cx where
 prog:=P
 w:=w
 K:=K
 mg:=mg
 base:=base
 A:=A.deeper (RQ qual scope s.heap.objs.size f cd)
 N:=N
 s₀:=s
 H₀:=H
 env:=RQ qual scope s.heap.objs.size f cd
 outer:=outer
 stack:=RQ qual scope s.heap.objs.size f cd::outer
 ex:=[]
 calm:=true
 fn:=λ_=>true
 pn:=[]
 xe:=λe s'=>Q2 (Q7 P w) (A.deeper (RQ qual scope s.heap.objs.size f cd)) (leaving (RQ qual scope s.heap.objs.size f cd) e) (λ_ DK=>CX outer H s E e DK) (λe' DK=>CX outer H s E e' DK) s'
theorem lV {sc:Ud}(h:sc.names.lookup x=some .cell):∃c,(cellsFrom n sc.names []).lookup x=some c:=by
 have q:=Tn sc.names n [] (.inl h);exact RE.mp q
theorem zB {CX:CXT}{w:Rx}{cd:QG}{A:Rk}{outer:List Env}{s1:QP}{E:XK}{us:List QG}(S:aE N ps scope)(hd:A.handled=none)(e0:zA P w K mg base A outer s H)(hl:vs.length=ps.length)(r:a8 vs us)(x:InCallC s s.heap.objs.size (bindL (RQ qual scope s.heap.objs.size f cd).kindOf (ps.zip us) λ_=>none) (cellsFrom (s.heap.objs.size+1) scope.names []) (bindC (RQ qual scope s.heap.objs.size f cd).kindOf (ps.zip us) λ_=>none) s1) :
  aG (iF CX P w K mg base N qual scope f cd A outer s H E) [] (dJ N vs) H s1:=by
 have mU:ps.length<=N.length:=by have:=congrArg List.length S.pre;rw[R0] at this;lia
 obtain⟨h1,tk,rfl,hk⟩:=x.done;have Fq:∀b:QX,b∉(iF CX P w K mg base N qual scope f cd A outer s H E).ex:=λb z=>absurd (show b∈([]:List QX) from z) (by simp);refine⟨⟨e0.mod,S.kind,rfl,rfl,QJ _,λy z c h1 h2=>?_,λy hy=>?_,λy c _ h=>?_,λ_=>hd,Around.frames_deeper e0.frames,.inr ⟨rfl,rfl⟩,λb z=>absurd z (Fq b),e0.bs,e0.bsz,λb _ _=>Fq b,λb z=>absurd z (Fq b),e0.funs,e0.frf⟩,
  rfl,e0.bare,Un.kept hk,⟨_,x.toInCall.ns,λi y v h1 h2 h3=>?_⟩,λy c h=>⟨_,x.cell y c h⟩,e0.hok.fresh (QJ _),λy c h=>?_,λp hp=>absurd (show p∈([]:List (QX×Obj)) from hp) (by simp),e0.hok.kept hk,?_⟩
 ·exact name_of_addr x.apart (Q5 h1) (Q5 h2)
 ·have hy:scope.names.lookup y=some .cell\/scope.names.lookup y=some .free:=hy;rcases hy with hy|hy
  ·exact lV hy
  ·exact absurd rfl (S.nofree _ (Q5 hy))
 ·exact T6 (x.above y c (Q5 h))
 ·have hi:i<vs.length:=by
   unfold dJ at h2;by_cases hi:i<vs.length
   ·exact hi
   ·rw[RA (by simpa using hi)] at h2;rw[Tb] at h2;split at h2<;>cases h2
  have ha:vs[i]? = some v:=by
   unfold dJ at h2;rw[R7 (by simpa using hi),QV] at h2;cases e:vs[i]? with
   |none=>rw[e] at h2;cases h2
   |some a=>rw[e] at h2;cases h2;rfl
  obtain⟨u,hu,rv⟩:=r.get ha;have hp:ps[i]? = some y:=by
   rw[←S.pre,Um (by lia)];exact h1
  have Ln:ps.Nodup:=by rw[←S.pre];exact S.nd.sublist (List.take_sublist _ _)
  refine⟨u,rv,?_⟩;rcases S.par y (Rf hp) with k|k
  ·exact .inl ⟨k,m9 Ln hp hu k⟩
  ·obtain⟨c,e⟩:=lV (n:=s.heap.objs.size+1) k;refine .inr ⟨.inl k,c,e,?_⟩;have q:=x.cell y c e;rw[m_ Ln hp hu (by show scope.names.lookup y≠_;rw[k];decide)] at q;exact q
 ·exact e0.hok.fresh (T6 (x.above y c (Q5 h)))
 ·unfold dJ;show _=N.length;rw[QE,QI,SD];lia
theorem Fz {CX:CXT}{w:Rx}{name:Str}{params:Arguments}{dV kV kq pm bh ct oc:QG}{sp:Sp}(lk:K.lookup f=some ⟨oc,od,.func (Rt name qual params body scope dV kV kq pm an bh ct),osl⟩)(kn:Tr K bh qual=true)(S:aE N ps scope)(len:∀vs H Q E,sp vs H Q E->vs.length=ps.length)(fE:∀(A:Rk) (outer:List Env) (s:QP) (H:Hp) (vs:List V) (Q:VK) (E:XK),et k (A.deeper (RQ qual scope s.heap.objs.size f bh))->sp vs H Q E->
   ∃t,pj (iF CX P w K mg base N qual scope f bh A outer s H E) body t/\t {nx:=λ_ H'=>Q .non H',rt:=Q} (dJ N vs) H) :
  iZ P w K mg base CX (k+1) f (Rt name qual params body scope dV kV kq pm an bh ct) ps sp:=by
 refine⟨len,λA outer s H args us vs Q E hr e0 hb r DL=>?_⟩;have hl:=len _ _ _ _ DL;have KX:K.In s.heap:=e0.mod.kin.keeps λb o e=>(e0.bs b o e).1;have Nl:s.heap.NoLimit:=e0.mod.nolimit.keeps λb o e=>(e0.bs b o e).1;have DM:∀y∈ps.zip us,scope.names.lookup y.1=some .local\/(scope.names.lookup y.1=some .cell/\((cellsFrom (s.heap.objs.size+1) scope.names []).lookup y.1).isSome=true):=fun⟨n,v⟩ hy=>by
  rcases S.par n (SA hy).1 with q|q
  ·exact .inl q
  ·exact .inr ⟨q,Tn _ _ _ (.inl q)⟩
 refine codeAny_call_function hr.depth (KX _ _ lk) rfl S.co S.gen rfl (PySem.W.codeRec_of KX kn) (hb _ _ _ _ ?_);refine wpAny_newFunctionEnv_cells S.kind DM λenv he s1 x=>?_;subst he;refine⟨Nl.keeps x.toInCall.keep,codeAny_func ?_⟩;obtain⟨t,ht,hq⟩:=fE A outer s H vs Q E (hr.deeper _) DL;have I:aG (iF CX P w K mg base N qual scope f bh A outer s H E) [] (dJ N vs) H s1:=zB S hr.hd e0 hl r x;refine Rh (ht [] s1 (dJ N vs) H _ I hq) (λfl s' hs=>?_) λe s' hs=>hs;have ko:∀{σ':St} {H':Hp} {v:V} {u:QG},aG (iF CX P w K mg base N qual scope f bh A outer s H E) [] σ' H' s'->bc v u->Q v H'->CE outer P w H s Q u s' :=
  λ{σ' H' v u} J rv q=>⟨v,H',J.os,J.bare,J.base,J.hok,rv,q⟩
 cases fl with
 |ret u=>
  obtain⟨v,σ',H',J,rv,q⟩:=hs;exact ko J rv q
 |next=>
  obtain⟨σ',H',J,q⟩:=hs;exact ko (v:=V.non) (u:=Value.none) J rfl q
 |brk=>
  obtain⟨_,_,_,q⟩:=hs;exact Ry q
 |cont=>
  obtain⟨_,_,_,q⟩:=hs;exact Ry q
end L2
variable {CX:L2.CXT}{sp:L2.Sp}
namespace L2
section
variable {p:Pos}{e:RP}{t:TA}{id:String}{r:List V->Hp->VK->Prop}
def ML (r:List V->Hp->VK->Prop)(t:TA):TE:=λσ H Q=>t σ H λvs H1=>r vs H1 Q
theorem lW (hc:fj X (.builtin id) r)(hg:Gl X x)(hm:X.mg x=none)(hv:Ra x=some (.builtin id))(ha:PA X (e::es) t)(hn:x≠"__name__":=by decide)(uN:(x==("__debug__":Str))=false:=by decide)
  (he:QK (e::es) X.env=(false,Sv e X.env)::QK es X.env:=by rfl) (mU:(Sd pos (QK es X.env)).any (·.1)=false:=by rfl):PE X (.Call (.Name x p) (e::es) [] pos) (ML r t):=by
 intro pins s σ H Q I h;refine Ss (pV I hg hm hv ?_ hn uN);exact PyProof.Rows.callWith_builtin1 (dy (ha pos pins s σ H _ I h) λus s1 ⟨vs,H1,I1,r1,q1⟩=>hc pins s1 σ H1 vs us Q I1 r1 q1) he mU
theorem ng (hc:fj X (.type T) r)(hg:Gl X x)(hm:X.mg x=none)(hv:Ra x=some (.type T))(ha:PA X (e::es) t)(hn:x≠"__name__":=by decide)(uN:(x==("__debug__":Str))=false:=by decide)
  (he:QK (e::es) X.env=(false,Sv e X.env)::QK es X.env:=by rfl) (mU:(Sd pos (QK es X.env)).any (·.1)=false:=by rfl):PE X (.Call (.Name x p) (e::es) [] pos) (ML r t):=by
 intro pins s σ H Q I h;refine Ss (pV I hg hm hv ?_ hn uN);exact Sz (dy (ha pos pins s σ H _ I h) λus s1 ⟨vs,H1,I1,r1,q1⟩=>hc pins s1 σ H1 vs us Q I1 r1 q1) he mU
end
end L2
namespace HT
section
variable {prog:RF}{w:Rx}{A:Rk}
theorem cat_tup {t:QX}{vs ws:List QG}(ht:IsTup s.heap t vs.toArray)(hb:IsTup s.heap b ws.toArray)(hv:vs≠[])(h1:ws=[]->Q (.ref t) s)(h2:ws≠[]->Q (.ref s.heap.objs.size) {s with heap:=s.heap.push {cls:=.type "tuple",data:=.seq (vs++ws).toArray}})(G0:vs.length+ws.length<=QC):Q2 (Q7 prog w) A (Sr .Add (.ref t) (.ref b)) Q E s:=by
 obtain⟨⟨cls,dd,data,sl⟩,ho,hc,n,hd⟩:=id ht;obtain⟨⟨cls2,dd2,data2,sl2⟩,ho2,hc2,n2,Jt⟩:=id hb;simp only at hc hd hc2 Jt;subst hc hd hc2 Jt;have e:vs.toArray++ws.toArray=(vs++ws).toArray:=by simp
 by_cases hw:ws=[]
 ·exact concat_meets ⟨_,ho,rfl⟩ ⟨_,ho2,rfl⟩ noFill_tuple_add seq_tuple_add To Tc (S8 _ _)
   (tuple_addW1 t b vs.toArray ws.toArray n n2 dd dd2 sl sl2 (by simpa using hv) (by simp[hw])) ⟨ho,ho2,h1 hw⟩
 ·refine concat_meets ⟨_,ho,rfl⟩ ⟨_,ho2,rfl⟩ noFill_tuple_add seq_tuple_add To Tc (S8 _ _)
   (tuple_addW2 t b vs.toArray ws.toArray n n2 dd dd2 sl sl2 (by simpa using hv) (by simpa using hw) (by rw[QD,QD];exact G0)) ⟨ho,ho2,?_⟩
  rw[e];exact h2 hw
noncomputable def sIx (n d:Nat):Option Int->Nat
 |none=>d
 |some v=>if v<0 then (v+(n:Int)).toNat else min v.toNat n
theorem sIx_none (n d:Nat):sIx n d none=d:=rfl
theorem sIx_nat (n d k:Nat):sIx n d (some (k:Int))=min k n:=by
 show (if (k:Int)<0 then ((k:Int)+(n:Int)).toNat else min (k:Int).toNat n)=min k n;rw[hU (by lia),Sf]
theorem Hx (n d:Nat)(hd:d<=n)(o:Option Int):sIx n d o<=n:=by
 cases o with
 |none=>exact hd
 |some v=>
  show (if v<0 then (v+(n:Int)).toNat else min v.toNat n)<=n;by_cases hv:v<0
  ·rw[hV hv];lia
  ·rw[hU hv];exact Nat.min_le_right _ _
theorem x8 (v:Int)(n d:Nat):(if v<0 then max (v+(n:Int)) 0 else min v (n:Int))=((sIx n d (some v):Nat):Int):=by
 show (if v<0 then max (v+(n:Int)) 0 else min v (n:Int))=(((if v<0 then (v+(n:Int)).toNat else min v.toNat n):Nat):Int);by_cases hv:v<0
 ·simp only[hV hv];lia
 ·simp only[hU hv];lia
theorem wQ (lo hi:Option Int)(n:Nat):SV lo hi 1 (n:Int)=(((sIx n 0 lo:Nat):Int),((sIx n n hi:Nat):Int)):=by
 have h1:¬((1:Int)<0):=(by lia)
 unfold SV;simp only[h1,if_false];refine Prod.ext ?_ ?_
 ·cases lo with
  |none=>rfl
  |some v=>exact x8 v n 0
 ·cases hi with
  |none=>rfl
  |some v=>exact x8 v n n
theorem wR (i j:Nat):R8 (i:Int) (j:Int) 1=j-i:=by
 unfold R8;have h1:(1:Int)>0:=(by lia)
 simp only[h1,if_true,Int.ediv_one];split<;>lia
theorem pY {v:QG}{o:Option Int}{Q:Option Int->QP->Prop}(p:IsPart v o)(h:Q o s):Q2 (Q7 prog w) A (Builtin.Slice.slicePartIndex v) Q E s:=by
 cases p with
 |none=>exact slicePart_none h
 |int i t=>exact slicePart_int h
theorem i0 {sl:QX}{vl vu:QG}{Q:Int×Int×Nat->QP->Prop}(hs:s.heap.IsSliceOf sl vl vu .none)(pl:IsPart vl lo)(pu:IsPart vu hi)(h:Q (((sIx n 0 lo:Nat):Int),1,sIx n n hi-sIx n 0 lo) s):Q2 (Q7 prog w) A (T1 (.ref sl) (pure (n:Int))) Q E s:=by
 obtain⟨os,hos,hcs,hds⟩:=id hs;unfold T1 Builtin.Slice.sliceFields;refine Qz (Qz (RH hos hds (x:=vl) rfl (Qz (RH hos hds (x:=vu) rfl (Qz (RH hos hds (x:=.none) rfl (QR ?_)))))));refine Qz (slicePart_none ?_);show Q2 _ _ (if ((1:Int)==0)=true then _ else _) _ _ s;rw[hU (by decide)];refine Qz (pY pl (Qz (pY pu (Qz (QR ?_)))));show Q2 _ _ (match SV lo hi 1 (n:Int) with|(lo,hi)=>pure (lo,(1:Int),R8 lo hi 1)) _ _ s;rw[wQ lo hi n];show Q2 _ _ (pure (((sIx n 0 lo:Nat):Int),(1:Int),R8 ((sIx n 0 lo:Nat):Int) ((sIx n n hi:Nat):Int) 1)) _ _ s;rw[wR];exact QR h
theorem Bb (xs:Array QG)(i k:Nat):((RL k).filterMap λ(m:Nat)=>xs[((i:Int)+(m:Int)*1).toNat]?).toArray=((xs.toList.drop i).take k).toArray:=by
 have e:(λ(m:Nat)=>xs[((i:Int)+(m:Int)*1).toNat]?)=λm=>xs[i+m]? := by
  funext m;have:((i:Int)+(m:Int)*1).toNat=i+m:=(by lia)
  rw[this]
 rw[e];have:=pick_run xs i k;rw[List.filterMap_map] at this;have e2:((λx=>xs[x]?)∘λx=>i+x)=λm=>xs[i+m]? := rfl;rw[e2] at this;rw[this]
theorem getItem_tuple_cut {t sl:QX}{items:Array QG}{vl vu:QG}(ht:IsTup s.heap t items)(hs:s.heap.IsSliceOf sl vl vu .none)(pl:IsPart vl lo)(pu:IsPart vu hi)(hw:¬(sIx items.size 0 lo=0/\sIx items.size items.size hi=items.size))(h:Q (.ref s.heap.objs.size) {s with heap:=s.heap.push {cls:=.type "tuple",data:=.seq ((items.toList.drop (sIx items.size 0 lo)).take (sIx items.size items.size hi-sIx items.size 0 lo)).toArray}})(G0:items.size<=QC):Q2 (Q7 prog w) A (getItem (.ref t) (.ref sl)) Q E s:=by
 have y_:sizeOk (.seq ((items.toList.drop (sIx items.size 0 lo)).take (sIx items.size items.size hi-sIx items.size 0 lo)).toArray):=by
  show ((items.toList.drop (sIx items.size 0 lo)).take (sIx items.size items.size hi-sIx items.size 0 lo)).toArray.size<=QC;rw[QD,R0,Sj,S4];lia
 have hj:sIx items.size items.size hi<=items.size:=Hx _ _ (QJ _) hi;obtain⟨os,hos,hcs,hds⟩:=id hs;have Nm:s.TypeIs (.ref sl) "slice":=⟨os,hos,hcs⟩;unfold getItem
 try with_reducible refine R3 ?_
 first|refine Qz (QR ?_)|skip
 refine Qz (wpAny_sequenceKey ht.typeIs (by decide) ?_);refine Qz (RI (name:=QM "__getitem__") ht.typeIs RO
  (R1 RO ht.typeIs entry_tuple_getitem ?_ (args_tuple_getitem _ _)))
 show Q2 _ _ (T2 (.ref t) >>= _) _ _ s;refine Qz (tupleItemsOf_ ht ?_);refine Qz (wpAny_typeOf Nm ?_);rw[hV (by decide)];refine Qz (i0 hs pl pu ?_);have Nn:¬((((sIx items.size 0 lo:Nat):Int)==0&&(1:Int)==1&&(sIx items.size items.size hi-sIx items.size 0 lo)==items.size)=true):=by
  intro q;rw[QU,QU] at q;have q1:((sIx items.size 0 lo:Nat):Int)=0:=eq_of_beq q.1.1;have q2:sIx items.size items.size hi-sIx items.size 0 lo=items.size:=eq_of_beq q.2;exact hw ⟨(by lia),(by lia)⟩
 show Q2 _ _ (if (((sIx items.size 0 lo:Nat):Int)==0&&(1:Int)==1&&(sIx items.size items.size hi-sIx items.size 0 lo)==items.size)=true then _ else _) _ _ s;rw[hU Nn,Bb]
 first
  |exact Qz (m:=Sg _) (RU (QR ⟨_,rfl,QR h⟩) y_)
  |exact Qz (m:=Sg _) (RU (Qz (QR (QR ⟨_,rfl,QR h⟩))) y_)
  |exact Qz (Qz (m:=Sg _) (RU (QR (QR ⟨_,rfl,QR h⟩)) y_))
  |exact Qz (Qz (m:=Sg _) (RU (QR ⟨_,rfl,QR h⟩) y_))
end
end HT
namespace L2
abbrev TO:=St->Hp->(Option Int->Hp->Prop)->Prop
def PO (X:Cx)(e:Option RP)(t:TO):Prop:=
 ∀(pins:List (QX×Obj)) (s:QP) (σ:St) (H:Hp) (Q:Option Int->Hp->Prop),aG X pins σ H s->t σ H Q->
  Q2 (Q7 X.prog X.w) X.A (evalPart e X.env) (λu s'=>∃o H',aG X pins σ H' s'/\IsPart u o/\Q o H') X.xe s
def Ek:TO:=λ_ H Q=>Q none H
def J9 (t:TE):TO:=λσ H Q=>t σ H λx H1=>∃i,x=.int i/\Q (some i) H1
theorem g6:∀{us:List QG},a8 (ns.map V.int) us->IntsAre us ns:=by
 induction ns with
 |nil=>intro us r;rw[Sh] at r;cases r;exact .nil
 |cons n ns ih=>
  intro us r;rw[Rb] at r;cases r with
  |cons r1 r2=>
   obtain⟨t,e⟩:=r1;subst e;exact .cons n t (ih r2)
section
variable {e:RP}{lo hi:Option RP}{tl th:TO}{p2:Pos}
theorem El:PO X none Ek:=by
 intro pins s σ H Q I h;rw[evalPart_none];exact QR ⟨none,H,I,.none,h⟩
theorem Em (h:PE X e te):PO X (some e) (J9 te):=by
 intro pins s σ H Q I hw;rw[evalPart_some];refine dy (h pins s σ H _ I hw) λu s1 ⟨x,H1,I1,r1,q1⟩=>?_;obtain⟨i,rfl,q⟩:=q1;obtain⟨t,rfl⟩:=r1;exact⟨some i,H1,I1,.int i t,q⟩
def Bc (X:Cx)(r:V->Option Int->Option Int->Hp->VK->Prop):Prop:=
 ∀(pins:List (QX×Obj)) (s:QP) (σ:St) (H:Hp) (x:V) (v vl vu:QG) (lo hi:Option Int) (sl:QX) (Q:VK),aG X pins σ H s->bc x v->s.heap.IsSliceOf sl vl vu .none->IsPart vl lo->IsPart vu hi->r x lo hi H Q->
  ∃T id,typeLookup (.type T) "__getitem__"=pure (some (.builtin id))/\s.TypeIs v T/\Q2 (Q7 X.prog X.w) X.A (getItem v (.ref sl)) (EP X pins σ Q) X.xe s
theorem Bc.or {r r':V->Option Int->Option Int->Hp->VK->Prop}(h:Bc X r)(h':Bc X r'):Bc X (λx lo hi H Q=>r x lo hi H Q\/r' x lo hi H Q):=by
 intro pins s σ H x v vl vu lo hi sl Q I rx hs pl pu q;rcases q with q|q
 ·exact h pins s σ H x v vl vu lo hi sl Q I rx hs pl pu q
 ·exact h' pins s σ H x v vl vu lo hi sl Q I rx hs pl pu q
def OK (r:V->Option Int->Option Int->Hp->VK->Prop)(te:TE)(tl th:TO):TE:=λσ H Q=>te σ H λx H1=>tl σ H1 λl H2=>th σ H2 λu H3=>r x l u H3 Q
theorem Be {r:V->Option Int->Option Int->Hp->VK->Prop}(hr:Bc X r)(he:PE X e te)(hl:PO X lo tl)(hu:PO X hi th):PE X (.Subscript e (.Slice lo hi none p2) pos) (OK r te tl th):=by
 intro pins s σ H Q I h;refine Subscript_ (dy (he pins s σ H _ I h) λv s1 ⟨x,H1,I1,r1,q1⟩=>?_);refine wpAny_Slice (dy (hl pins s1 σ H1 _ I1 q1) λvl s2 ⟨l,H2,I2,pl,q2⟩=>dy (hu pins s2 σ H2 _ I2 q2) λvu s3 ⟨u,H3,I3,pu,q3⟩=>?_);rw[evalPart_none];refine QR ?_;have I4:aG X pins σ H3 {s3 with heap:=s3.heap.push {cls:=.type "slice",data:=.fields (List.toArray [vl,vu,.none])}}:=I3.kept (t':=s3.toks) λb ob q=>QF _ q;obtain⟨T,id,hT,ht,hg⟩:=hr pins {s3 with heap:=s3.heap.push {cls:=.type "slice",data:=.fields (List.toArray [vl,vu,.none])}} σ H3 x v vl vu l u s3.heap.objs.size Q I4 r1 (Heap.IsSliceOf.new ..) pl pu q3;show Q2 (Q7 X.prog X.w) X.A (subscriptTail e (.Slice lo hi none p2) v (.ref s3.heap.objs.size)) (EP X pins σ Q) X.xe {s3 with heap:=s3.heap.push {cls:=.type "slice",data:=.fields (List.toArray [vl,vu,.none])}};exact tail_any (ops:=[.ref s3.heap.objs.size,v]) ht hT hg (by with_unfolding_all rfl)
noncomputable def pZ (xs:List V)(lo hi:Option Int):List V:=(xs.drop (HT.sIx xs.length 0 lo)).take (HT.sIx xs.length xs.length hi-HT.sIx xs.length 0 lo)
theorem n_ (xs:List V)(lo hi:Option Int):(pZ xs lo hi).length<=xs.length:=by
 unfold pZ;rw[R0,Sj];lia
def J_ (K:QB):V->Option Int->Option Int->Hp->VK->Prop:=λx lo hi H Q=>∃a xs,x=.ref a/\gL K H a xs/\
 ¬(HT.sIx xs.length 0 lo=0/\HT.sIx xs.length xs.length hi=xs.length)/\∀p,H p=none->Q (.ref p) (cE H p (.tup (pZ xs lo hi)))
theorem Hy:Bc X (J_ X.K):=by
 intro pins s σ H x v vl vu lo hi sl Q I rx hs pl pu h;obtain⟨a,xs,rfl,hx,hw,q⟩:=h;cases rx;obtain⟨ay,r,ht,hz⟩:=I.tuple hx;have iq:ay.toArray.size=xs.length:=by rw[QD];exact r.length.symm
 refine⟨"tuple",_,PyProof.Rows.slot_tuple_getitem.lookup,ht.typeIs,?_⟩;refine HT.getItem_tuple_cut ht hs pl pu (by rw[iq];exact hw) ?_ (by rw[iq];exact hz);rw[iq];refine⟨.ref s.heap.objs.size,_,I.laid (t':=s.toks) (o:=.tup (pZ xs lo hi)) (λb ob q=>QF _ q) (QJ _) ?_,rfl,q _ (I.hok.fresh (QJ _))⟩;exact⟨Rn (n_ xs lo hi) hz,_,(r.drop (HT.sIx xs.length 0 lo)).take (HT.sIx xs.length xs.length hi-HT.sIx xs.length 0 lo),IsTup.new _ _,_,QS _ rfl⟩
def Ka (K:QB):R2:=λx y H Q=>∃a b xs ys,x=.ref a/\y=.ref b/\gL K H a xs/\gL K H b ys/\xs≠[]/\xs.length+ys.length<=QC/\
 (ys=[]->Q (.ref a) H)/\(ys≠[]->∀p,H p=none->Q (.ref p) (cE H p (.tup (xs++ys))))
theorem a8.nil_iff {us:List QG}(r:a8 xs us):us=[]↔xs=[]:=by
 cases r with
 |nil=>simp
 |cons _ _=>simp
theorem En:iY X (Sr .Add) (Ka X.K):=by
 intro pins s σ H x y v u Q I rx ry h;obtain⟨a,b,xs,ys,rfl,rfl,ha,hb,hx,hz,q1,q2⟩:=h;cases rx;cases ry;obtain⟨ay,r1,p1,_⟩:=I.tuple ha;obtain⟨its2,r2,p2,_⟩:=I.tuple hb;refine HT.cat_tup p1 p2 (λz=>hx (r1.nil_iff.mp z)) (λz=>⟨.ref a,H,I,rfl,q1 (r2.nil_iff.mp z)⟩) (λz=>?_) (by rw[←r1.length,←r2.length];exact hz);refine⟨.ref s.heap.objs.size,_,I.laid (t':=s.toks) (o:=.tup (xs++ys)) (λb ob q=>QF _ q) (QJ _) ?_,rfl,q2 (λw=>z (r2.nil_iff.mpr w)) _ (I.hok.fresh (QJ _))⟩;exact⟨by rw[QE];exact hz,_,r1.append r2,IsTup.new _ _,_,QS _ rfl⟩
end
end L2
namespace L2
noncomputable def tG (n:Nat)(i:Int):Option Nat:=if 0<=i then (if i<n then some i.toNat else none) else if -(n:Int)<=i then some (i+n).toNat else none
noncomputable def jI {α:Type}(xs:List α)(i:Int):Option α:=(tG xs.length i).bind λj=>xs[j]?
theorem x9 {i:Int}(h:tG n i=some j):Uo i n=some j/\j<n/\ -(n:Int)<=i/\i<n:=by
 unfold tG at h;by_cases h0:0<=i
 ·rw[hV h0] at h;by_cases h1:i<n
  ·rw[hV h1] at h;have e:i.toNat=j:=Q0 h;exact⟨by rw[seqIndex_of h0 h1,e],(by lia),(by lia),h1⟩
  ·rw[hU h1] at h;cases h
 ·rw[hU h0] at h;by_cases h1 : -(n:Int)<=i
  ·rw[hV h1] at h;have e:(i+n).toNat=j:=Q0 h;exact⟨by rw[seqIndex_neg (by lia) h1,e],(by lia),h1,(by lia)⟩
  ·rw[hU h1] at h;cases h
theorem tH {α:Type}{xs:List α}{i:Int}{v:α}(h:jI xs i=some v):∃j,Uo i xs.length=some j/\xs[j]? = some v/\j<xs.length/\ -(xs.length:Int)<=i/\i<xs.length:=by
 unfold jI at h;cases e:tG xs.length i with
 |none=>rw[e] at h;cases h
 |some j=>
  rw[e] at h;obtain⟨h1,h2,h3,h4⟩:=x9 e;exact⟨j,h1,h,h2,h3,h4⟩
def x_ (b:RP):Prop:=∀o i,subscripted b false o i=operate [o,i] (getItem o i)
def D0 (X:Cx)(r:R2):Prop:=
 ∀(value slice:RP) (pins:List (QX×Obj)) (s:QP) (σ:St) (H:Hp) (x y:V) (v u:QG) (Q:VK),aG X pins σ H s->bc x v->bc y u->r x y H Q->
  subscripted slice false v u=operate [v,u] (getItem v u)->Q2 (Q7 X.prog X.w) X.A (subscriptTail value slice v u) (EP X pins σ Q) X.xe s
def AJ (X:Cx)(id:String)(r:V->List V->Hp->VK->Prop):Prop:=
 ∀(pins:List (QX×Obj)) (s:QP) (σ:St) (H:Hp) (x:V) (xs:List V) (v:QG) (us:List QG) (Q:VK),aG X pins σ H s->bc x v->a8 xs us->r x xs H Q->
  Q2 (Q7 X.prog X.w) X.A (call (.builtin id) (v::us)) (EP X pins σ Q) X.xe s
section
variable {a b:RP}{ta tb:TE}
theorem D0.or (h:D0 X r)(h':D0 X r'):D0 X (λx y H Q=>r x y H Q\/r' x y H Q):=by
 intro value slice pins s σ H x y v u Q I rx ry q hs;rcases q with q|q
 ·exact h value slice pins s σ H x y v u Q I rx ry q hs
 ·exact h' value slice pins s σ H x y v u Q I rx ry q hs
theorem AJ.or {id:String}{r r':V->List V->Hp->VK->Prop}(h:AJ X id r)(h':AJ X id r'):AJ X id (λx xs H Q=>r x xs H Q\/r' x xs H Q):=by
 intro pins s σ H x xs v us Q I rx rs q;rcases q with q|q
 ·exact h pins s σ H x xs v us Q I rx rs q
 ·exact h' pins s σ H x xs v us Q I rx rs q
theorem FA (hr:D0 X r)(ha:PE X a ta)(hb:PE X b tb)(hs:x_ b):PE X (.Subscript a b pos) (JX r ta tb):=by
 intro pins s σ H Q I h;exact Subscript_ (Hs ha hb I h λv u s2 x y H2 I2 rx ry q=>hr a b pins s2 σ H2 x y v u Q I2 rx ry q (hs _ _))
def Kb (K:QB):R2:=λx y H Q=>∃p xs i v,x=.ref p/\y=.int i/\fi K H p xs/\jI xs i=some v/\Q v H
def Kc (K:QB):R2:=λx y H Q=>∃p xs i v,x=.ref p/\y=.int i/\gL K H p xs/\jI xs i=some v/\Q v H
def Kd:R2:=λx y H Q=>∃z i c,x=.str z/\y=.int i/\z.length<=QC/\jI z.cps.toList i=some c/\Q (.str ⟨(List.toArray [c])⟩) H
theorem ya:D0 X (Kb X.K):=by
 intro value slice pins s σ H x y v u Q I rx ry h hs;obtain⟨p,xs,i,z,rfl,rfl,hq,he,q⟩:=h;cases rx;obtain⟨t,rfl⟩:=ry;obtain⟨ay,r,pl,hz⟩:=I.list hq;obtain⟨j,h1,h2,h3,h4,h5⟩:=tH he;obtain⟨w,ew,DQ⟩:=r.get h2;have hl:=r.length;have hn:=mY;have ko:EP X pins σ Q w s:=⟨z,H,I,DQ,q⟩;by_cases h0:0<=i
 ·have hj:i.toNat=j:=by
   rw[seqIndex_of h0 h5] at h1;exact Q0 h1
  exact item_listR pl.isList h0 (by lia) (by rw[hj];simpa using ew) ko hs
 ·have hj:(i+(ay.toArray.size:Int)).toNat=j:=by
   rw[seqIndex_neg (by lia) h4] at h1;rw[QD,←hl];exact Q0 h1
  exact subscriptTail_builtinR (x:=w) pl.isList.typeIs slot_list_getitem.lookup
   (wpAny_getItem_list_neg (Q:=λr s'=>r=w/\EP X pins σ Q r s') pl.isList (by lia) (by rw[QD]<;>lia) (by lia) (by rw[hj];simpa using ew) ⟨rfl,ko⟩) hs
theorem Hz:D0 X (Kc X.K):=by
 intro value slice pins s σ H x y v u Q I rx ry h hs;obtain⟨p,xs,i,z,rfl,rfl,hq,he,q⟩:=h;cases rx;obtain⟨t,rfl⟩:=ry;obtain⟨ay,r,pl,hz⟩:=I.tuple hq;obtain⟨j,h1,h2,h3,h4,h5⟩:=tH he;obtain⟨w,ew,DQ⟩:=r.get h2;have hl:=r.length;have hn:=mY;have ko:EP X pins σ Q w s:=⟨z,H,I,DQ,q⟩;exact subscriptTail_builtinR (x:=w) pl.typeIs slot_tuple_getitem.lookup
  (getItem_tuple (j:=j) (Q:=λr s'=>r=w/\EP X pins σ Q r s') pl (by lia) (by lia) (by rw[QD,←hl];exact h1) (by simpa using ew) ⟨rfl,ko⟩) hs
theorem HA:D0 X Kd:=by
 intro value slice pins s σ H x y v u Q I rx ry h hs;obtain⟨z,i,c,rfl,rfl,hz,he,q⟩:=h;obtain⟨t,rfl⟩:=rx;obtain⟨t',rfl⟩:=ry;obtain⟨j,h1,h2,h3,h4,h5⟩:=tH he;have hl:z.cps.toList.length=z.length:=by simp[Str.length]
 rw[hl] at h1 h4 h5;have hn:=mY;exact tail_any (typeIs_str s z t) slot_str_getitem.lookup (getItem_str (c:=c) (by
  have e1:decide (i < -(2 ^ 63:Int))=false:=hJ (by lia);have e2:decide (i≥2 ^ 63)=false:=hJ (by lia);rw[e1,e2,Bool.or_false]) (by rw[h1];simpa using h2) ⟨.str ⟨(List.toArray [c])⟩,H,I.tok _,⟨_,rfl⟩,q⟩) hs
def NW (K:QB):R2:=λx y H Q=>Kb K x y H Q\/Kc K x y H Q\/Kd x y H Q
theorem av:D0 X (NW X.K):=ya.or (Hz.or HA)
theorem wU (ay:List QG)(n j:Nat)(u:QG):Obj.mapSeq (·.setIfInBounds j u) {cls:=.type "list",data:=.seq ay.toArray n}={cls:=.type "list",data:=.seq (ay.set j u).toArray n}:=by
 simp[Obj.mapSeq]
theorem aG.lst {p:QX}(I:aG X pins σ H s)(h:H p=some (.lst xs)) :
  ∃(ay:List QG) (n:Nat),a8 xs ay/\s.heap.get? p=some {cls:=.type "list",data:=.seq ay.toArray n}/\xs.length<=QC:=by
 obtain⟨z,ay,n,r,e⟩:=I.hok p _ h;exact⟨ay,n,r,e,z⟩
theorem aG.lstUpd {p:QX}{ys:List V}{its':List QG}{n':Nat}{f:Obj->Obj}(I:aG X pins σ H s)(h:H p=some (.lst xs))(ho:s.heap.get? p=some {cls:=.type "list",data:=.seq ay.toArray n})(hf:f {cls:=.type "list",data:=.seq ay.toArray n}={cls:=.type "list",data:=.seq its'.toArray n'})(r:a8 ys its')(hz:ys.length<=QC)(t:Nat) :
  aG X pins σ (cE H p (.lst ys)) {s with heap:=s.heap.update p f,toks:=t}:=by
 have e:(s.heap.update p f).get? p=some {cls:=.type "list",data:=.seq its'.toArray n'}:=by
  rw[Heap.get?_update_self f ho (by rw[hf]<;>rfl),hf]
 refine I.write (x:=p) (e:=p) (by rw[h];trivial) (.inl rfl) (λb u hb q=>(Heap.get?_update_other _ _ (Ne.symm hb)).trans q) ⟨_,e⟩ ?_;exact⟨hz,its',n',r,e⟩
def Ke:V->V->V->Hp->(Hp->Prop)->Prop:=λo i v H Q=>∃p xs k j,o=.ref p/\i=.int k/\H p=some (.lst xs)/\tG xs.length k=some j/\Q (cE H p (.lst (xs.set j v)))
theorem Bf:JT X Ke:=by
 intro pins s σ H o i v ov iv u Q I ro ri rv h;obtain⟨p,xs,k,j,rfl,rfl,hp,hj,q⟩:=h;cases ro;obtain⟨t,rfl⟩:=ri;obtain⟨ay,n,r,ho,hz⟩:=I.lst hp;obtain⟨h1,h2,h3,h4⟩:=x9 hj;have hl:=r.length;have hn:=mY;have I':aG X pins σ (cE H p (.lst (xs.set j v))) {s with heap:=s.heap.update p (Obj.mapSeq (·.setIfInBounds j u))}:=
  I.lstUpd hp ho (wU ay n j u) (r.set rv j) (by rw[RJ];exact hz) s.toks
 by_cases h0:0<=k
 ·have hk:k.toNat=j:=by
   rw[seqIndex_of h0 h4] at h1;exact Q0 h1
  exact PySem.W.ki_setAt ho h0 (by lia) (by rw[QD,←hl];exact h4) (by rw[hk];exact⟨_,I',q⟩)
 ·have hk:(k+(ay.toArray.size:Int)).toNat=j:=by
   rw[seqIndex_neg (by lia) h3] at h1;rw[QD,←hl];exact Q0 h1
  exact PySem.W.ki_setBack ho (by lia) (by rw[QD,←hl];exact h3) (by lia) (by rw[hk];exact⟨_,I',q⟩)
theorem tJ (lo hi:Option Int)(n:Nat):(Tp lo hi none n).1=((HT.sIx n 0 lo:Nat):Int)/\(Tp lo hi none n).2.1=((HT.sIx n n hi:Nat):Int)/\(Tp lo hi none n).2.2=1:=by
 refine⟨?_,?_,rfl⟩
 ·cases lo with
  |none=>simp[Tp,HT.sIx]
  |some i=>
   simp only[Tp,HT.sIx,Tw,show (1:Int)>0 by decide,if_true];by_cases h:i<0
   ·simp only[h,if_true]<;>lia
   ·simp only[h,if_false]<;>lia
 ·cases hi with
  |none=>simp[Tp,HT.sIx]
  |some i=>
   simp only[Tp,HT.sIx,Tw,show (1:Int)>0 by decide,if_true];by_cases h:i<0
   ·simp only[h,if_true]<;>lia
   ·simp only[h,if_false]<;>lia
theorem rN (ay:List QG)(lo hi:Option Int):slicePick ay.toArray lo hi none=((ay.drop (HT.sIx ay.length 0 lo)).take (HT.sIx ay.length ay.length hi-HT.sIx ay.length 0 lo)).toArray:=by
 obtain⟨h1,h2,h3⟩:=tJ lo hi ay.toArray.size;unfold slicePick;rw[h1,h2,h3];simp only[sliceRange_one,pick_run,QD]<;>rfl
def Eo (K:QB):V->Option Int->Option Int->Hp->VK->Prop:=λx lo hi H Q=>∃a xs,x=.ref a/\fi K H a xs/\∀p,H p=none->Q (.ref p) (cE H p (.lst (pZ xs lo hi)))
theorem Ep:Bc X (Eo X.K):=by
 intro pins s σ H x v vl vu lo hi sl Q I rx hs pl pu h;obtain⟨a,xs,rfl,hx,q⟩:=h;cases rx;obtain⟨ay,r,ht,hz⟩:=I.list hx;have iq:=r.length;refine⟨"list",_,slot_list_getitem.lookup,ht.isList.typeIs,?_⟩;refine wpAny_getItem_list_slice ht.isList hs pl pu .none (by simp) ?_ (by rw[QD]<;>lia);rw[rN,←iq];refine⟨.ref s.heap.objs.size,_,I.laid (t':=s.toks) (o:=.lst (pZ xs lo hi)) (λb ob q=>QF _ q) (QJ _) ?_,rfl,q _ (I.hok.fresh (QJ _))⟩;exact⟨Rn (n_ xs lo hi) hz,_,0,(r.drop (HT.sIx xs.length 0 lo)).take (HT.sIx xs.length xs.length hi-HT.sIx xs.length 0 lo),QS _ rfl⟩
noncomputable def j0:V->Bool
 | .non=>true
 | .bl _=>true
 | .int _=>true
 | .str _=>true
 |_=>false
noncomputable def AK:V->V->Bool
 | .non,.non=>true
 | .bl a,.bl b=>a==b
 | .bl a,.int b=>(if a then 1 else 0)==b
 | .int a,.bl b=>a==(if b then 1 else 0)
 | .int a,.int b=>a==b
 | .str a,.str b=>a==b
 |_,_=>false
theorem HB {A:Rk}{x:V}{u v:QG}(ry:bc y u)(rx:bc x v)(fy:j0 y=true)(fx:j0 x=true):Sm A s u v (AK y x):=by
 cases y with
 |non=>
  cases ry;cases x with
  |non=>cases rx;exact TR _
  |bl b=>cases rx;exact SeqAt.EqAt.none_bool b
  |int b=>obtain⟨t,rfl⟩:=rx;exact SeqAt.EqAt.none_int b t
  |str b=>obtain⟨t,rfl⟩:=rx;exact SeqAt.EqAt.none_str b t
  |_=>exact absurd (show false=true from fx) QA
 |bl a=>
  cases ry;cases x with
  |non=>cases rx;exact SeqAt.EqAt.bool_none a
  |bl b=>cases rx;exact SeqAt.EqAt.bool_bool a b
  |int b=>obtain⟨t,rfl⟩:=rx;exact SeqAt.EqAt.bool_int a b t
  |str b=>obtain⟨t,rfl⟩:=rx;exact SeqAt.EqAt.bool_str a b t
  |_=>exact absurd (show false=true from fx) QA
 |int a=>
  obtain⟨t',rfl⟩:=ry;cases x with
  |non=>cases rx;exact SeqAt.EqAt.int_none a t'
  |bl b=>cases rx;exact SeqAt.EqAt.int_bool a t' b
  |int b=>obtain⟨t,rfl⟩:=rx;exact SeqAt.EqAt.int_int a t' b t
  |str b=>obtain⟨t,rfl⟩:=rx;exact T4 a t' b t
  |_=>exact absurd (show false=true from fx) QA
 |str a=>
  obtain⟨t',rfl⟩:=ry;cases x with
  |non=>cases rx;exact SeqAt.EqAt.str_none a t'
  |bl b=>cases rx;exact SeqAt.EqAt.str_bool a t' b
  |int b=>obtain⟨t,rfl⟩:=rx;exact T5 a t' b t
  |str b=>obtain⟨t,rfl⟩:=rx;exact SeqAt.EqAt.str_str a t' b t
  |_=>exact absurd (show false=true from fx) QA
 |_=>exact absurd (show false=true from fy) QA
noncomputable def HC (x:V)(u:QG):Bool:=match u with
 | .none=>AK .non x
 | .bool b=>AK (.bl b) x
 | .int i _=>AK (.int i) x
 | .str z _=>AK (.str z) x
 |_=>false
theorem wV {x:V}{u:QG}(r:bc y u)(f:j0 y=true):HC x u=AK y x:=by
 cases y with
 |non=>cases r;rfl
 |bl b=>cases r;rfl
 |int i=>obtain⟨t,rfl⟩:=r;rfl
 |str z=>obtain⟨t,rfl⟩:=r;rfl
 |_=>exact absurd (show false=true from f) QA
theorem p5 {A:Rk}{s:QP}{x:V}{v:QG}(rx:bc x v)(fx:j0 x=true):∀{xs:List V} {us:List QG},a8 xs us->xs.all j0=true->∀u∈us,Sm A s u v (HC x u)
 |_,_,.nil,_=>λu hu=>by cases hu
 |y::xs,u::us,.cons r t,f=>λu' hu=>by
  rw[Td,QU] at f;rcases QN.mp hu with rfl|hu
  ·rw[wV r f.1];exact HB r rx f.1 fx
  ·exact p5 rx fx t f.2 u' hu
theorem tK:fj X (.type "list") (λxs H Q=>∃p ys,xs=[.ref p]/\(fi X.K H p ys\/gL X.K H p ys)/\∀l,H l=none->Q (.ref l) (cE H l (.lst ys))):=by
 intro pins s σ H xs us Q I r h;obtain⟨p,ys,rfl,hq,q⟩:=h;obtain⟨u,rfl,rx⟩:=jG r;cases rx;have ko:∀(ay:List QG),a8 ys ay->ys.length<=QC->∀(h':S2) (c':Nat),(∀b o',s.heap.get? b=some o'->h'.get? b=some o')->
   h'.get? s.heap.objs.size=some {cls:=.type "list",dict:=none,data:=.seq ay.toArray c',slots:=(List.toArray [])}->EP X pins σ Q (.ref s.heap.objs.size) {s with heap:=h'}:=λay r' hz h' c' kp e=>
  ⟨.ref s.heap.objs.size,_,I.laid (t':=s.toks) kp (QJ _) (show bU X.prog X.w _ h' _ (.lst ys) from ⟨hz,ay,c',r',e⟩),rfl,q _ (I.hok.fresh (QJ _))⟩
 rcases hq with hq|hq
 ·obtain⟨ay,r',pl,hz⟩:=I.list hq;have iq:=r'.length;obtain⟨o,ho,hc,n,hd⟩:=pl.isList;exact call_list_seq p (.inl rfl) ho hc hd (λh' c' kp e=>ko ay r' hz h' c' kp e) (by simp only[QD]<;>lia)
 ·obtain⟨ay,r',pl,hz⟩:=I.tuple hq;have iq:=r'.length;obtain⟨o,ho,hc,n,hd⟩:=pl;exact call_list_seq p (.inr rfl) ho hc hd (λh' c' kp e=>ko ay r' hz h' c' kp e) (by simp only[QD]<;>lia)
theorem eA:fj X (.type "tuple") (λxs H Q=>∃p ys,xs=[.ref p]/\((fi X.K H p ys/\∀l,H l=none->Q (.ref l) (cE H l (.tup ys)))\/(gL X.K H p ys/\Q (.ref p) H))):=by
 intro pins s σ H xs us Q I r h;obtain⟨p,ys,rfl,h⟩:=h;obtain⟨u,rfl,rx⟩:=jG r;cases rx;rcases h with⟨hq,q⟩|⟨hq,q⟩
 ·obtain⟨ay,r',pl,hz⟩:=I.list hq;have iq:=r'.length;refine call_tuple_list pl.isList (λh' kp=>?_) (by simp only[QD]<;>lia);have I1:aG X pins σ H {s with heap:=h'}:=I.kept (t':=s.toks) kp;have I2:aG X pins σ (cE H h'.objs.size (.tup ys)) {s with heap:=h'.push {cls:=.type "tuple",data:=.seq ay.toArray}}:=
   I1.laid (t':=s.toks) (λb o e=>QF _ e) (QJ _) (show bU X.prog X.w _ _ _ (.tup ys) from ⟨hz,ay,r',IsTup.new _ _,_,QS _ rfl⟩)
  exact⟨.ref h'.objs.size,_,I2,rfl,q _ (I1.hok.fresh (QJ _))⟩
 ·obtain⟨ay,r',pl,hz⟩:=I.tuple hq;exact call_tuple_same pl ⟨.ref p,H,I,rfl,q⟩
def LU (K:QB)(T:String)(x:V)(H:Hp):Prop:=match x with
 | .str _=>T="str"
 | .int _=>T="int"
 | .ref p=>(T="list"/\∃xs,fi K H p xs)\/(T="tuple"/\((∃o,K.lookup p=some o/\o.cls=.type "tuple"/\o.dict=none)\/∃xs,H p=some (.tup xs))) \/
   (T="dict"/\((∃bA,H p=some (.dK bA))\/∃bA,H p=some (.dT bA)))\/(T="set"/\∃S n,H p=some (.set S n))
 |_=>False
theorem Bg {x:V}{v:QG}(I:aG X pins σ H s)(r:bc x v)(ty:LU X.K T x H) :
  s.TypeIs v T/\∀a,v=.ref a->∃ob,s.heap.get? a=some ob/\ob.dict=none:=by
 cases x with
 |str z=>
  obtain⟨t,rfl⟩:=r;cases (show T="str" from ty);exact⟨typeIs_str s z t,λ_ e=>nomatch e⟩
 |int i=>
  obtain⟨t,rfl⟩:=r;cases (show T="int" from ty);exact⟨typeIs_int s i t,λ_ e=>nomatch e⟩
 |ref p=>
  cases r;rcases ty with⟨rfl,xs,hq⟩|⟨rfl,⟨o,hk,hc,hd⟩|⟨xs,hq⟩⟩|⟨rfl,hk⟩|⟨rfl,S,n,hk⟩
  ·obtain⟨ay,_,pl,_⟩:=I.list hq;refine⟨pl.isList.typeIs,λa e=>?_⟩;cases e;obtain⟨o,n,e,c,hd,_⟩:=pl;exact⟨o,e,hd⟩
  ·refine⟨⟨o,I.kIn p o hk,hc⟩,λa e=>?_⟩;cases e;exact⟨o,I.kIn _ o hk,hd⟩
  ·obtain⟨_,ay,_,⟨o,e,c,_⟩,n2,e2⟩:=I.hok p _ hq;refine⟨⟨o,e,c⟩,λa e'=>?_⟩;cases e';exact⟨_,e2,rfl⟩
  ·have z:∃o,s.heap.get? p=some o/\o.ExactDict:=by
    rcases hk with⟨bA,hk⟩|⟨bA,hk⟩
    ·obtain⟨_,_,_,_,o,_,_,e,ex,_⟩:=I.hok p _ hk;exact⟨o,e,ex⟩
    ·obtain⟨_,_,_,_,o,_,_,e,ex,_⟩:=I.hok p _ hk;exact⟨o,e,ex⟩
   obtain⟨o,e,ex⟩:=z;refine⟨⟨o,e,ex.1⟩,λa e2=>?_⟩;cases e2;exact⟨o,e,ex.2.1⟩
  ·obtain⟨o,_,_,_,e,ex,_⟩:=I.hok p _ hk;refine⟨⟨o,e,ex.1⟩,λa e2=>?_⟩;cases e2;exact⟨o,e,ex.2.1⟩
 |_=>exact Ry ty
def MM (K:QB)(T:String)(r:V->List V->Hp->VK->Prop)(to:TE):TE:=λσ H Q=>to σ H λx H1=>LU K T x H1/\r x [] H1 Q
def NY (K:QB)(T:String)(r:V->List V->Hp->VK->Prop)(to:TE)(t:TA):TE:=λσ H Q=>to σ H λx H1=>LU K T x H1/\t σ H1 λxs H2=>r x xs H2 Q
variable {o e:RP}{to:TE}{t:TA}{name:Str}{kr cpos:Pos}{id:String}{r:V->List V->Hp->VK->Prop}
theorem HD (pa:PlainAttrs T)(slot:Slot T name id)(Lo:typeOf (.builtin id)=pure (.type "method_descriptor"))(hm:AJ X id r)(ho:PE X o to)
  (rC:Te o name X.env (Sv o X.env)=Sv o X.env:=by rfl) (rD:(kr.endLine==cpos.line)=true:=by rfl):PE X (.Call (.Attribute o name kr) [] [] cpos) (MM X.K T r to):=by
 intro pins s σ H Q I h;refine wpAny_Call_method0_late rC rD (dy (ho pins s σ H _ I h) λv s1 ⟨x,H1,I1,r1,ty,q1⟩=>?_);obtain⟨h1,h2⟩:=Bg I1 r1 ty;exact⟨T,id,pa,slot,Lo,h1,h2,Calls.callWith_builtin rfl (PySem.evalArgs_none (hm pins s1 σ H1 x [] v [] Q I1 r1 .nil q1))⟩
theorem Bh (pa:PlainAttrs T)(slot:Slot T name id)(Lo:typeOf (.builtin id)=pure (.type "method_descriptor"))(hm:AJ X id r)(ho:PE X o to)(ha:PA X (e::es) t)
  (rC:Te o name X.env (Sv o X.env)=Sv o X.env:=by rfl)
  (Jd:((Sd cpos (QK (e::es) X.env)).all (λx=> !x.1)&&(backToKw cpos (keywordEach [] X.env)).all (λx=>x.1.isSome)
   && decide ((e::es).length+([]:List Keyword).length+(if ([]:List Keyword).isEmpty then 0 else 1)<30))=true:=by rfl)
  (rD:(kr.endLine==cpos.line)=true:=by rfl) (hs:QK (e::es) X.env=(false,Sv e X.env)::QK es X.env:=by rfl) (xT:(Sd cpos (QK es X.env)).any (·.1)=false:=by rfl) :
  PE X (.Call (.Attribute o name kr) (e::es) [] cpos) (NY X.K T r to t):=by
 intro pins s σ H Q I h;refine wpAny_Call_method_late rC Jd rD rfl (dy (ho pins s σ H _ I h) λv s1 ⟨x,H1,I1,r1,ty,q1⟩=>?_);obtain⟨h1,h2⟩:=Bg I1 r1 ty;refine⟨T,id,pa,slot,Lo,h1,h2,?_⟩;have hA:=ha cpos pins s1 σ H1 _ I1 q1;rw[hs] at hA ⊢;refine Calls.callWith_builtin (by show (false||(Sd cpos (QK es X.env)).any (·.1))=false;rw[xT]<;>rfl) (Calls.evalArgs_plain ?_);exact dy hA λus s2 ⟨vs,H2,I2,r2,q2⟩=>hm pins s2 σ H2 x vs v us Q I2 r1 r2 q2
end
end L2
namespace L2
def LV (X:Cx)(id:String)(r:V->List V->Hp->VK->Prop):Prop:=
 ∀(pins:List (QX×Obj)) (s:QP) (σ:St) (H:Hp) (x:V) (xs:List V) (v:QG) (us:List QG) (Q:VK),aG X pins σ H s->bc x v->a8 xs us->r x xs H Q->
  Q2 (Q7 X.prog X.w) X.A (call (.builtin id) (v::us)) (EP X pins σ Q) X.xe s
theorem a8.one:∀{x:V} {us:List QG},a8 [x] us->∃u,us=[u]/\bc x u
 |_,_,.cons r .nil=>⟨_,rfl,r⟩
theorem a8.eraseIdx:∀{xs:List V} {us:List QG} (i:Nat),a8 xs us->a8 (xs.eraseIdx i) (us.eraseIdx i)
 |_,_,_,.nil=>.nil
 |_,_,0,.cons _ t=>t
 |_,_,i+1,.cons r t=>.cons r (a8.eraseIdx i t)
theorem sA {α:Type}:∀(l:List α) (i:Nat),(l.eraseIdx i).length<=l.length
 | [],_=>QJ _
 |_::_,0=>Nat.le_succ _
 |_::r,i+1=>Nat.succ_le_succ (sA r i)
section
variable {l:QX}{ys zs:List V}
theorem aG.lset {t':Nat}{its':List QG}{f:Array QG->Array QG}(I:aG X pins σ H s)(hH:H l=some (.lst xs))(e:s.heap.get? l=some {cls:=.type "list",data:=.seq ay.toArray n})(hf:f ay.toArray=its'.toArray)(hv:a8 ys its')(hz:ys.length<=QC) :
  aG X pins σ (cE H l (.lst ys)) {s with heap:=s.heap.update l (Obj.mapSeq f),toks:=t'}:=by
 have q:=PySem.IsL.update e f;rw[hf] at q;refine I.write (x:=l) (e:=l) (by rw[hH];exact trivial) (.inl rfl) (λb' u hb hu=>(Heap.get?_update_other s.heap (Obj.mapSeq f) (Ne.symm hb)).trans hu) ⟨_,q⟩ ?_;exact⟨hz,its',_,hv,q⟩
theorem aG.lnew {t':Nat}(I:aG X pins σ H s)(hv:a8 ys ay)(hz:ys.length<=QC) :
  aG X pins σ (cE H s.heap.objs.size (.lst ys)) {s with heap:=s.heap.push {cls:=.type "list",data:=.seq ay.toArray},toks:=t'}:=
 I.laid (λ_ _ q=>QF _ q) (QJ _) ⟨hz,ay,0,hv,QS _ rfl⟩
theorem aG.fresh (I:aG X pins σ H s):H s.heap.objs.size=none:=I.hok.fresh (QJ _)
theorem aG.lstM (I:aG X pins σ H s)(hH:H l=some (.lst xs)):xs.length<=QC/\∃(ay:List QG) (n:Nat),a8 xs ay/\xs.length=ay.length/\s.heap.get? l=some {cls:=.type "list",data:=.seq ay.toArray n}:=by
 obtain⟨z,ay,n,r,e⟩:=I.hok l _ hH;exact⟨z,ay,n,r,r.length,e⟩
theorem p6 (h:n<=QC):RS n=false:=by
 unfold RS;exact hJ (by lia)
end
def yb:V->List V->Hp->VK->Prop:=λx vs H Q=>∃l xs y,x=.ref l/\vs=[y]/\H l=some (.lst xs)/\xs.length<QC/\Q .non (cE H l (.lst (xs++[y])))
theorem sC:LV X "list.append" yb:=by
 intro pins s σ H x vs v us Q I rx rv h;obtain⟨l,xs,y,rfl,rfl,hH,hz,q⟩:=h;cases rx;obtain⟨u,rfl,ru⟩:=rv.one;obtain⟨z,ay,n,r,hl,e⟩:=I.lstM hH;refine TL F.slot_list_append ⟨_,e,rfl⟩ F.entry_list_append (F.args_list_append_2 _ _) (PySem.list_append l ay.toArray n u (by rw[QD];lia)) ⟨e,?_⟩;refine⟨.non,_,I.lset (its':=ay++[u]) hH e (by simp) (r.append (.cons ru .nil)) ?_,rfl,q⟩;rw[QE,SE];lia
def Er:V->List V->Hp->VK->Prop:=λx vs H Q=>∃l b xs zs,x=.ref l/\vs=[.ref b]/\H l=some (.lst xs)/\H b=some (.lst zs)/\xs.length+zs.length<=QC/\Q .non (cE H l (.lst (xs++zs)))
theorem JB:LV X "list.extend" Er:=by
 intro pins s σ H x vs v us Q I rx rv h;obtain⟨l,b,xs,zs,rfl,rfl,hH,hB,hz,q⟩:=h;cases rx;obtain⟨u,rfl,ru⟩:=rv.one;cases ru;obtain⟨z,ay,n,r,hl,e⟩:=I.lstM hH;obtain⟨z2,its2,n2,r2,Jm,e2⟩:=I.lstM hB;have G0:ay.toArray.size+its2.toArray.size<=QC:=by rw[QD,QD];lia
 have wB:¬(!ay.toArray.isEmpty&&RS (ay.toArray.size+its2.toArray.size))=true:=by
  rw[p6 G0,Uh];exact QA
 refine TL T_ ⟨_,e,rfl⟩ TU (TC _ _)
  (AutoSeq1.list_extend_list_list_0 l ay.toArray n b its2.toArray n2 wB (by rw[QD];lia) (by lia)) ⟨e,e2,?_⟩
 refine⟨.non,_,I.lset (its':=ay++its2) hH e (by simp) (r.append r2) ?_,rfl,q⟩;rw[QE];lia
def Bi:V->List V->Hp->VK->Prop:=λx vs H Q=>∃l xs i k y,x=.ref l/\vs=[.int i]/\H l=some (.lst xs)/\ -(2 ^ 63)<=i/\i<2 ^ 63/\Uo i xs.length=some k/\xs[k]? = some y/\Q y (cE H l (.lst (xs.eraseIdx k)))
theorem Bj:LV X "list.pop" Bi:=by
 intro pins s σ H x vs v us Q I rx rv h;obtain⟨l,xs,i,k,y,rfl,rfl,hH,h1,h2,hk,hy,q⟩:=h;cases rx;obtain⟨u,rfl,ru⟩:=rv.one;obtain⟨t,rfl⟩:=ru;obtain⟨z,ay,n,r,hl,e⟩:=I.lstM hH;obtain⟨w,hw,DQ⟩:=r.get hy;refine TL F.slot_list_pop ⟨_,e,rfl⟩ F.entry_list_pop (F.args_list_pop_2 _ _)
  (MeetsSeq.list_pop_at l ay.toArray n i t k w (fitsIndex_both h1 h2) (by rw[QD,←hl];exact hk) (by rw[←Array.getElem?_toList];exact hw) (by rw[QD];lia)) ⟨e,?_⟩
 refine⟨y,_,I.lset (its':=ay.eraseIdx k) hH e ?_ (r.eraseIdx k) ?_,DQ,q⟩
 ·show ay.toArray.eraseIdxIfInBounds k=(ay.eraseIdx k).toArray;rw[List.eraseIdxIfInBounds_toArray]
 ·have:=sA xs k;lia
def MN:R2:=λx y H Q=>∃l b xs zs,x=.ref l/\y=.ref b/\H l=some (.lst xs)/\H b=some (.lst zs)/\xs.length+zs.length<=QC/\∀p,H p=none->Q (.ref p) (cE H p (.lst (xs++zs)))
theorem HF:iY X (Sr .Add) MN:=by
 intro pins s σ H x y v u Q I rx ry h;obtain⟨l,b,xs,zs,rfl,rfl,hH,hB,hz,q⟩:=h;cases rx;cases ry;obtain⟨z,ay,n,r,hl,e⟩:=I.lstM hH;obtain⟨z2,its2,n2,r2,Jm,e2⟩:=I.lstM hB;refine PySem.P.add_list e e2 ?_ (by rw[QD,QD];lia);have ea:ay.toArray++its2.toArray=(ay++its2).toArray:=by simp
 rw[ea];exact⟨.ref _,_,I.lnew (t':=s.toks) (r.append r2) (by rw[QE];lia),rfl,q _ I.fresh⟩
section
variable {prog:RF}{w:Rx}{A:Rk}
set_option maxRecDepth 100000 in
end
end L2
namespace Att
open PySem.W PySem.Calls
theorem oY {P:Params}:∀(ns:List Int) (vs:List QG),WellAll P h vs (ns.map WData.int)->IntsAre vs ns:=by
 intro ns
 induction ns with
 |nil=>
  intro vs w;rw[Sh] at w;cases w;exact .nil
 |cons n ns ih=>
  intro vs w;rw[Rb] at w;cases w with
  |cons a b=>
   cases a;exact .cons _ _ (ih _ b)
theorem zC {l:OpenLaw}(hn:l.most=some n){P:Params}{args:List WData}{Je:List QG}(Fs:l.row.toRowW.claim.pre args=true)(Np:WellAll P h Je args) :
  ∃a vs ns,Je=[Value.ref a]/\args=[WData.list (ns.map WData.int)]/\h.get? a=some {cls:=.type "list",data:=.seq vs.toArray}/\IntsAre vs ns/\ns.length<=n:=by
 have OY:WShape.hasAll [] args [.list .int]=true:=(pre_splitW Fs).1;have hc:l.pre.holds [] {args:=args}=true:=(pre_splitW Fs).2;obtain⟨d,r,rfl,h1,h2⟩:=hasAllW_cons OY;obtain rfl:=hasAllW_nil h2;obtain⟨xs,rfl,h3⟩:=hasW_list h1;obtain⟨ns,rfl⟩:=items_int h3;have iq:ns.length<=n:=by
  unfold OpenLaw.pre at hc;have h4:(WTm.not (.lt (.lit (.int (n:Int))) (.len (.arg 0)))).holds [] {args:=[.list (ns.map .int)]}=true:=by
   have h4:=(holds_andW hc).1;rw[hn] at h4;exact h4
  have h5:=condW_of h4 (w_not (w_lt w_lit (w_len_list (w_arg rfl))));rw[QI] at h5;refine Nat.le_of_not_lt λq=>?_;have q':(n:Int)<((ns.length:Nat):Int):=(by lia)
  first
   | (rw[hG q'] at h5;exact absurd h5 (by decide))
   | (simp at h5;lia)
 cases Np with
 |cons w1 w2=>
  cases w2;cases w1 with
  |list ho Jg=>exact⟨_,_,ns,rfl,rfl,ho,oY ns _ Jg,iq⟩
theorem zD (l:OpenLaw)(args:List WData):l.row.toRowW.claim.post args (.bool true) args=true:=
 postW_of (r:=l.row.toRowW) (X:=(true==true))
  (show WShape.has [] (.bool true) .bool=true by first|rfl|decide|simp[WShape.has,WShape.arms,WShape.armsAll])
  (show (WTm.eq .res (.lit (.bool true))).value [] {args:=args,res:=some (.bool true),after:=args}=some (.bool (true==true)) from w_eq_bool (w_res rfl) w_lit) rfl
theorem attach_call {l:OpenLaw}{q:RF}{d:DefRec}(hn:l.most=some n)(Lp:d.params.defaults=[])(call:∀(w:Rx) (s₀ s₁:QP) (mg mb:Str->Option QG) (fa:QX) (o:Obj) (pm cd kq:QG) (a:QX) (vs:List QG) (ns:List Int),
   Ground q loose [] XP w s₀ mg mb s₁.heap->YP w s₁.heap->
   s₁.heap.get? fa=some o->o.data=.func (docDef d.name d.params d.body d.scope pm cd kq)->s₁.heap.CodeRec cd d.name->mg d.name=some (.ref fa)->
   s₁.heap.get? a=some {cls:=.type "list",data:=.seq vs.toArray}->IntsAre vs ns->ns.length<=n->s₁.gens=(List.toArray [])->
   codeAny (Q7 l.prog w) callerA (.call (.ref fa) ⟨[.ref a],[]⟩) (λr s'=>r=.ok (.ret (.bool true))/\OldK s₁.heap s'.heap/\s'.os=s₁.os/\Ue s'.gens) s₁) :
  WalkO q loose XP YP l.row.toRowW d [] (λf vs=>PySem.call f vs):=by
 intro w s₀ s₁ mg mb G Y fa o pm cd kq dV kV ho hd kn hD Lq hg args Je as Fs OZ Qs Np Qt;obtain rfl:dV=.none:=Dflts.none hD Lp;obtain rfl:kV=.none:=Dflts.noKw hD;obtain⟨a,vs,ns,rfl,rfl,Jf,DP,iq⟩:=zC hn Fs Np;refine enter_call (Tt (call w s₀ s₁ mg mb fa o pm cd kq a vs ns G Y ho (fd_plain hd) kn Lq Jf DP iq hg) λr s' hq=>?_);obtain⟨rfl,h2,h3,h4⟩:=hq;exact⟨.inl ⟨.bool true,.bool true,[],rfl,λ_=>rfl,.bool true,zD l _,λ_=>⟨List.Pairwise.nil,λ_ hm=>(nomatch hm)⟩⟩,h2,h3,h4⟩
end Att
namespace L2
theorem nh:∀{vs:List QG} {ns:List Int},IntsAre vs ns->a8 (ns.map V.int) vs
 |_,_,.nil=>.nil
 |_,_,.cons n t h=>.cons ⟨t,rfl⟩ (nh h)
def Es (H:Hp):Prop:=∀b,H b=none\/∃o xs,H b=some (.frz o (.lst xs))
theorem Bk {w:Rx}{mb:Str->Option QG}{fa:QX}{s₁:QP}{vs:List QG}(KX:K.In s₁.heap)(Ol:s₁.heap.Ns QT mg)(hb:s₁.heap.Ns builtinsNs mb)(O0:∀x:Str,x≠"__name__"->mb x=Ra x)(Nq:s₁.heap.NoLimit)(hg:s₁.gens=(List.toArray []))(ha:s₁.heap.get? a=some {cls:=.type "list",data:=.seq vs.toArray})(hi:IntsAre vs ns)(hl:ns.length<=QC)(hr:et k callerA)(F:∀base:S2,K.In base->base.Ns QT mg->iZ P w K mg base CX k fa fd [x] sp)(Lr:∀(s:QP) (u:QG),BindsTo s fd ⟨[u],[]⟩ [(x,u)])(DL:∀H:Hp,Es H->fi K H a (ns.map V.int)->sp [.ref a] H (λv _=>v=.bl true) λ_ _ _=>False)(Nr:∀H e s',CX [] H s₁ (λ_ _ _=>False) e s'->False) :
  codeAny (Q7 P w) callerA (.call (.ref fa) ⟨[.ref a],[]⟩) (λr s'=>r=.ok (.ret (.bool true))/\OldK s₁.heap s'.heap/\s'.os=s₁.os/\Ue s'.gens) s₁:=by
 have rv:=nh hi;have Nt:=hi.length;have Ls:∀H:Hp,Es H->fi K H a (ns.map V.int)->jR P w H s₁.heap->(∀b,H b≠none->b=a)->(H a≠none->K.lookup a=none)->
   codeAny (Q7 P w) callerA (.call (.ref fa) ⟨[.ref a],[]⟩) (λr s'=>r=.ok (.ret (.bool true))/\OldK s₁.heap s'.heap/\s'.os=s₁.os/\Ue s'.gens) s₁:=by
  intro H hO hS hok hA hK;have za:∀{b:QX} {o:Obj},s₁.heap.get? b=some o->H b=none->(tq s₁.heap H).get? b=some o:=λe n=>AO e n;have Fq:∀{b:QX} {o:Obj} {es:Array DictEntry} {ep:Nat},s₁.heap.get? b=some o->o.data=.dict es ep->H b=none:=λ{b o es ep} e d=>by
   cases q:H b with
   |none=>rfl
   |some u=>
    have e':b=a:=hA b (by rw[q];simp);subst e';rw[ha] at e;cases e;have d':Data.seq vs.toArray _=Data.dict es ep:=d;cases d'
  have Me:∀{b:QX} {m:Str->Option QG},s₁.heap.Ns b m->(tq s₁.heap H).Ns b m:=λ{b m} ⟨o,es,ep,e,d,r⟩=>⟨o,es,ep,za e (Fq e d),d,r⟩;have Om:K.In (tq s₁.heap H):=λb o e=>za (KX b o e) (by
   cases q:H b with
   |none=>rfl
   |some u=>
    have e':b=a:=hA b (by rw[q];simp);subst e';rw[hK (by rw[q];simp)] at e;cases e)
  have hM:Mod K mg (tq s₁.heap H):=⟨Om,Me Ol,⟨mb,Me hb,O0⟩,let ⟨mc,h1,h2⟩:=Nq;⟨mc,Me h1,h2⟩⟩;have e0:zA P w K mg (tq s₁.heap H) callerA [] s₁ H:=⟨rfl,hM,λb o e=>D7 e,Nat.le_of_eq (zj _ _),trivial,λb hb=>absurd (show b∈([]:List QX) from hb) (by simp),hok,.of_eq hg⟩;refine Tt ((F _ Om (Me Ol)).run callerA [] s₁ H ⟨[.ref a],[]⟩ [.ref a] [.ref a] _ _ hr e0 (Lr s₁ (.ref a)) (.cons rfl .nil) (DL H hO hS)) λr s' h=>?_;cases r with
  |error e=>exact (Nr H e s' h).elim
  |ok fl=>
   cases fl with
   |next=>exact Ry h
   |brk=>exact Ry h
   |cont=>exact Ry h
   |ret u=>
    obtain⟨v,H',os,bare,un,hok',r',q⟩:=h;have q':v=.bl true:=q;subst q';obtain rfl:u=Value.bool true:=r';refine⟨rfl,OldK.of_keep λb o e=>?_,os,bare⟩;cases q:H b with
    |none=>exact un.keep b o e q (by intro z;exact absurd (show b∈([]:List QX) from z) (by simp)) (by simp)
    |some u=>
     rcases hO b with z|⟨ob,xs,z⟩
     ·rw[q] at z;cases z
     ·have z2:=un.frzs b ob _ z;obtain⟨e1,_⟩:=hok b _ z;obtain⟨e2,_⟩:=hok' b _ z2;rw[e] at e1;cases e1;exact e2
 cases hk:K.lookup a with
 |some o=>
  have e:=KX a o hk;rw[ha] at e;cases e;refine Ls (λ_=>none) (λ_=>.inl rfl) (.inr ⟨_,vs.toArray,_,hk,rfl,rfl,rfl,by rw[QD,Nt];exact hl,by simpa using rv⟩) (λb u z=>by have z':(none:Option HO)=some u:=z;cases z') (λb z=>absurd rfl z) λz=>absurd rfl z
 |none=>
  refine Ls (λb=>if b=a then some (.frz {cls:=.type "list",data:=.seq vs.toArray} (.lst (ns.map V.int))) else none) (λb=>?_) (.inl (.inr ⟨{cls:=.type "list",data:=.seq vs.toArray},hV rfl⟩)) (λb u z=>?_) (λb z=>?_) λ_=>hk
  ·by_cases hb:b=a
   ·exact .inr ⟨_,_,hV hb⟩
   ·exact .inl (hU hb)
  ·by_cases hb:b=a
   ·have z':=(hV hb).symm.trans z;cases z';subst hb;exact⟨ha,by rw[QI];exact hl,vs,_,rv,ha⟩
   ·have z':=(hU hb).symm.trans z;cases z'
  ·by_cases hb:b=a
   ·exact hb
   ·exact absurd (hU hb) z
end L2
namespace L2
theorem walk_of {l:PySem.W.OpenLaw}{q:RF}{d:DefRec}{K:Params->QB}{CX:Rx->CXT}{sp:Rx->Sp}(hn:l.most=some n)(Nu:n<=QC)(Lp:d.params.defaults=[])(hr:et k callerA)(hY:∀(w:Rx) (h:S2),YP w h->(K w.params).In h)(F:∀(w:Rx) (mg:Str->Option QG) (fa:QX) (h:S2),(K w.params).In h->h.Ns QT mg->mg d.name=some (.ref fa)->
   ∃fd:Sq,(∀(s:QP) (u:QG),BindsTo s fd ⟨[u],[]⟩ [(x,u)])/\
    ∀base:S2,(K w.params).In base->base.Ns QT mg->iZ l.prog w (K w.params) mg base (CX w) k fa fd [x] (sp w))(DL:∀(w:Rx) (H:Hp) (a:QX) (ns:List Int),ns.length<=n->Es H->fi (K w.params) H a (ns.map V.int)->sp w [.ref a] H (λv _=>v=.bl true) λ_ _ _=>False)(Nr:∀(w:Rx) (H:Hp) (s:QP) (e:QG) (s':QP),CX w [] H s (λ_ _ _=>False) e s'->False) :
  PySem.W.WalkO q loose XP YP l.row.toRowW d [] (λf vs=>PySem.call f vs):=by
 refine Att.attach_call hn Lp λw s₀ s₁ mg mb fa o pm cd kq a vs ns G Y ho hd kn Lq Jf DP iq hg=>?_;have KX:=hY w _ Y;obtain⟨fd,hb,hF⟩:=F w mg fa _ KX G.T.g Lq;exact Bk KX G.T.g G.T.b G.T.builtins G.T.nolimit hg Jf DP (Rn iq Nu) hr hF hb (λH hO hS=>DL w H a ns iq hO hS) λH e s'=>Nr w H s₁ e s'
end L2
namespace L2
abbrev tM:CXT:=λ_ _ _ _ _ _=>False
abbrev E0:XK:=λ_ _ _=>False
theorem Kg:wO tM X E0:=λ_ _ _ _ _ _ _ h=>h.elim
structure D1 (K:QB)(x qual:Str)(st:Si)(f:QX)(fd:Sq):Prop where
 ex:∃(oc:QG) (od:Option QX) (kV kq pm:QG) (an:Option QX) (bh ct:QG) (osl:Array (Option QG)),
  fd=Rt x qual (eK st) (bV st) (ao st) .none kV kq pm an bh ct/\K.lookup f=some ⟨oc,od,.func fd,osl⟩/\Tr K bh qual=true
 kp:Rv K (.ref f)=true
section
variable {w:Rx}
theorem D1.ok {st:Si}(F:D1 K x qual st f fd)(S:aE N ps (ao st))(len:∀vs H Q E,sp vs H Q E->vs.length=ps.length)(fE:∀(bh:QG) (A:Rk) (outer:List Env) (s:QP) (H:Hp) (vs:List V) (Q:VK) (E:XK),et k (A.deeper (RQ qual (ao st) s.heap.objs.size f bh))->sp vs H Q E->
   ∃t,pj (iF tM P w K mg base N qual (ao st) f bh A outer s H E).nox (bV st) t/\t {nx:=λ_ H'=>Q .non H',rt:=Q} (dJ N vs) H):iZ P w K mg base tM (k+1) f fd ps sp:=by
 obtain⟨oc,od,kV,kq,pm,an,bh,ct,osl,rfl,lk,kn⟩:=F.ex;refine Fz lk kn S len λA outer s H vs Q E hr DL=>?_;obtain⟨t,h,q⟩:=fE bh A outer s H vs Q E hr DL;exact⟨t,h.nox,q⟩
theorem D1.binds {st:Si}(F:D1 K x qual st f fd)(h:∀(kV kq pm:QG) (an:Option QX) (bh ct:QG) (us:List QG),us.length=ps.length->bindArgs (Rt x qual (eK st) (bV st) (ao st) .none kV kq pm an bh ct) ⟨us,[]⟩=pure (ps.zip us)):jH K fd ps []:=by
 obtain⟨oc,od,kV,kq,pm,an,bh,ct,osl,rfl,lk,kn⟩:=F.ex;exact .all (h kV kq pm an bh ct)
theorem Bl {st:Si}{oc:QG}{kV kq pm bh ct:QG}(l:K.lookup f=some ⟨oc,od,.func (Rt x qual (eK st) (bV st) (ao st) .none kV kq pm an bh ct),osl⟩)(c:Tr K bh qual=true)(k:Rv K (.ref f)=true):D1 K x qual st f (Rt x qual (eK st) (bV st) (ao st) .none kV kq pm an bh ct):=⟨⟨oc,od,kV,kq,pm,an,bh,ct,osl,rfl,l,c⟩,k⟩
end
theorem br {A:Rk}(hr:et k A):A.units+1<Tj:=Nat.lt_of_le_of_lt (Nat.add_le_add_left (by decide:1<=64) _) hr.units
theorem pv (i:Nat)(hN:X.N[i]? = some x:=by rfl)(hv:zk X.env.scope x:=by first|exact Or.inl rfl|exact Or.inr (Or.inl rfl)|exact Or.inr (Or.inr rfl))(hd:(x==("__debug__":Str))=false:=by decide)(kn:(x==("__classdict__":Str))=false:=by decide):PE X (.Name x pos) (D8 i):=iR hN hv hd kn
theorem iteF {A B:Prop}(h:B):if false=true then A else B:=by
 rw[hU QA];exact h
def aI (H H':Hp):Prop:=∀b o,H b=some o->H' b=some o
theorem aI.refl (H:Hp):aI H H:=λ_ _ h=>h
theorem aI.trans (a:aI H H1)(b:aI H1 H2):aI H H2:=λc o h=>b c o (a c o h)
theorem aI.seq (e:aI H H')(h:fi K H a xs):fi K H' a xs:=by
 rcases h with (h|⟨o,h⟩)|h
 ·exact .inl (.inl (e _ _ h))
 ·exact .inl (.inr ⟨o,e _ _ h⟩)
 ·exact .inr h
end L2
namespace L2
section
variable {κ:Type}[DecidableEq κ]
noncomputable def oZ (bA:List (κ×V))(k:κ):Option V:=(bA.find? λkv=>decide (kv.1=k)).map (·.2)
noncomputable def tO (bA:List (κ×V))(k:κ)(v:V):List (κ×V):=
 if (bA.any λkv=>decide (kv.1=k))=true then bA.map (λkv=>if kv.1=k then (kv.1,v) else kv) else bA++[(k,v)]
theorem u6 {p:κ×V}{r:List (κ×V)}{k:κ}(e:p.1=k):oZ (p::r) k=some p.2:=by simp[oZ,SF,e]
theorem u7 {p:κ×V}{r:List (κ×V)}{k:κ}(e:¬p.1=k):oZ (p::r) k=oZ r k:=by simp[oZ,SF,e]
theorem u9 (bA:List (κ×V))(k:κ)(v:V):(tO bA k v).length<=bA.length+1:=by
 unfold tO;split
 ·rw[QI];lia
 ·rw[QE,QL,RW];lia
theorem KV.val {bA:List (κ×V)}{vs:List (κ×QG)}(r:KV bA vs)(k:κ):tm (oZ bA k) (valueAt vs k):=by
 unfold KV at r
 induction r with
 |nil=>exact True.intro
 | @cons p q ps qs h t ih=>
  obtain⟨h1,h2⟩:=h;by_cases e:p.1=k
  ·have e':q.1=k:=h1.symm.trans e;have b:valueAt (q::qs) k=some q.2:=by simp[valueAt,SF,e']
   rw[u6 e,b];exact h2
  ·have e':¬q.1=k:=λz=>e (h1.trans z);have b:valueAt (q::qs) k=valueAt qs k:=by simp[valueAt,SF,e']
   rw[u7 e,b];exact ih
theorem KV.any {bA:List (κ×V)}{vs:List (κ×QG)}(r:KV bA vs)(k:κ):(bA.any λkv=>decide (kv.1=k))=vs.any λkv=>decide (kv.1=k):=by
 unfold KV at r
 induction r with
 |nil=>rfl
 |cons h t ih=>rw[List.any_cons,List.any_cons,ih,h.1]
theorem KV.repl {bA:List (κ×V)}{vs:List (κ×QG)}(r:KV bA vs)(k:κ){u:QG}(ry:bc y u) :
  KV (bA.map λkv=>if kv.1=k then (kv.1,y) else kv) (vs.map λkv=>if kv.1=k then (kv.1,u) else kv):=by
 unfold KV at r ⊢
 induction r with
 |nil=>exact .nil
 | @cons p q ps qs h t ih=>
  rw[Rb,Rb];refine .cons ?_ ih;obtain⟨h1,h2⟩:=h;by_cases e:p.1=k
  ·rw[hV e,hV (h1.symm.trans e)];exact⟨h1,ry⟩
  ·rw[hU e,hU (λz=>e (h1.trans z))];exact⟨h1,h2⟩
theorem KV.put {bA:List (κ×V)}{vs:List (κ×QG)}(r:KV bA vs)(k:κ){u:QG}(ry:bc y u):KV (tO bA k y) (stored vs k u):=by
 unfold tO stored;rw[r.any k];by_cases e:(vs.any λkv=>decide (kv.1=k))=true
 ·rw[hV e,hV e];exact r.repl k ry
 ·rw[hU e,hU e];exact Paired.snoc r ⟨rfl,ry⟩
end
theorem Bm {w:Rx}{k:Key}{u:QG}(r:bc (kV k) u):(c8 P w).is k u=true:=by
 cases k with
 |inl i=>obtain⟨t,e⟩:=(show ∃t,u=Value.int i t from r);subst e;exact uY P w i t
 |inr x=>obtain⟨t,e⟩:=(show ∃t,u=Value.str x t from r);subst e;exact uZ P w x t
theorem sD {P:RF}{w:Rx}:∀{ks:List Key} {us:List QG},a8 (ks.map kV) us->ItemsAre (c8 P w) ks us
 | [],_,r=>by rw[Sh] at r;cases r;exact .nil
 |k::ks,_,r=>by
  rw[Rb] at r;cases r with
  |cons h t=>exact .cons (Bm h) (sD t)
abbrev KT (H:Hp):List (List Key×V)->List (List Key×QX×QG)->Prop:=Paired λp q=>p.1=q.1/\H q.2.1=some (.tup (p.1.map kV))/\bc p.2 q.2.2
theorem KT.val {bA:List (List Key×V)}{xs:List (List Key×QX×QG)}(r:KT H bA xs)(k:List Key):tm (oZ bA k) ((atKey xs k).map (·.2)):=by
 induction r with
 |nil=>exact True.intro
 | @cons p q ps qs h t ih=>
  obtain⟨h1,_,h2⟩:=h;by_cases e:p.1=k
  ·have e':q.1=k:=h1.symm.trans e;have b:atKey (q::qs) k=some q.2:=by simp[atKey,SF,e']
   rw[u6 e,b];exact h2
  ·have e':¬q.1=k:=λz=>e (h1.trans z);have b:atKey (q::qs) k=atKey qs k:=by simp[atKey,SF,e']
   rw[u7 e,b];exact ih
section
variable {w:Rx}
theorem FC {u:HO}(ok:jR P w H h)(e:Rd H a u):bU P w H h a u:=e.ok ok
theorem Bn (ok:jR P w H h)(e:Rd H a (.dK bA)):bA.length<=QC/\(a==SM)=false/\∃vs,KV bA vs/\h.DictOf (c8 P w) a vs:=
 show bU P w H h a (.dK bA) from FC ok e
theorem Kh (ok:jR P w H h)(e:H a=some (.dK bA)):bA.length<=QC/\(a==SM)=false/\∃vs,KV bA vs/\h.DictOf (c8 P w) a vs:=Bn ok (.inl e)
theorem Bo {ks:List Key}(ok:jR P w H h)(e:H a=some (.tup (ks.map kV))):(tupleKind (c8 P w)).is h ks a:=by
 obtain⟨_,ay,r,⟨o,h1,h2,n,h3⟩,_⟩:=(show bU P w H h a (.tup (ks.map kV)) from ok a _ e);exact⟨o,ay.toArray,n,h1,h2,h3,by simpa using sD r⟩
theorem FD {bA:List (List Key×V)}(ok:jR P w H h)(e:Rd H a (.dT bA)):bA.length<=QC/\(a==SM)=false/\
  ∃xs,KT H bA xs/\h.DictOfH (tupleKind (c8 P w)) a xs:=by
 obtain⟨z,y,xs,r,o,es,ep,h1,h2,h3,h4,h5⟩:=(show bU P w H h a (.dT bA) from FC ok e);refine⟨z,y,xs,r,o,es,ep,h1,h2,h3,h4,λx hx=>?_,h5⟩;have all:∀{l:List (List Key×V)} {m:List (List Key×QX×QG)},KT H l m->∀x∈m,(tupleKind (c8 P w)).is h x.1 x.2.1:=by
  intro l m q
  induction q with
  |nil=>intro x hx;exact nomatch hx
  | @cons p q ps qs hq t ih=>
   intro x hx;rcases QN.mp hx with e|hx
   ·subst e;exact Bo ok (by rw[←hq.1];exact hq.2.1)
   ·exact ih x hx
 exact all r x hx
end
def HG (H:Hp)(a:QX)(y:V)(r:Option V):Prop:=
 (∃bA k,Rd H a (.dK bA)/\y=kV k/\r=oZ bA k)\/∃bA k b,Rd H a (.dT bA)/\y=.ref b/\H b=some (.tup (k.map kV))/\r=oZ bA k
section
variable {u r:QG}{o:Option V}{A:Rk}
theorem aG.big (I:aG X pins σ H s):SM<s.heap.objs.size:=by
 have h:QT<s.heap.objs.size:=(I.mod.glob.keeps I.bk).lt;exact Nat.lt_trans (by decide) h
theorem zE (hu:A.units+1<Tj)(I:aG X pins σ H s)(g:HG H a y (some v))(ry:bc y u)(h:∀w' s',aG X pins σ H s'->bc v w'->Q w' s') :
  Q2 (Q7 X.prog X.w) A (getItem (.ref a) u) Q E s:=by
 rcases g with⟨bA,k,e,ey,l⟩|⟨bA,k,b,e,ey,eb,l⟩
 ·subst ey;obtain⟨z,hd,vs,rel,dd⟩:=Bn I.hok e;obtain⟨w',hw,DQ⟩:=tm.some_of (v:=v) (o:=valueAt vs k) (by rw[l];exact rel.val k);exact wpAny_getItem_of (Bm ry) dd.mapOf hw (h w' _ (I.tok _) DQ)
 ·subst ey;cases (show u=Value.ref b from ry);obtain⟨z,hd,xs,rel,dd⟩:=FD I.hok e;obtain⟨w',hw,DQ⟩:=tm.some_of (v:=v) (o:=(atKey xs k).map (·.2)) (by rw[l];exact rel.val k);obtain⟨p,hp,hp2⟩:=Ro.mp hw;refine wpAny_getItem_heap (tupleKind_room_in1 hu) (Bo I.hok eb) dd hp ?_;rw[hp2];exact h w' _ (I.tok _) DQ
theorem Eu {t':Nat}{ob:HO}(I:aG X pins σ H s)(mu:JM (H a))(hs:T7 a s.heap h')(he:∃q,h'.get? a=some q)(new:bU X.prog X.w (cE H a ob) h' a ob) :
  aG X pins σ (cE H a ob) {s with heap:=h',toks:=t'}:=
 I.write (x:=a) (e:=a) mu (.inl rfl) (λb q hb z=>(hs.2 b hb).trans z) he new
theorem HH {w:Rx}{vs:List (Key×QG)}(z:bA.length<=QC)(hd:(a==SM)=false)(rel:KV bA vs)(dd:h'.DictOf (c8 P w) a vs) :
  bU P w H' h' a (.dK bA):=⟨z,hd,vs,rel,dd⟩
end
def HJ (i:RP):Prop:=∀ov iv,subscripted i false ov iv=operate [ov,iv] (getItem ov iv)
theorem Ew {prog:RF}{w:Rx}{A:Rk}{value slice:RP}{id:String}(hl:typeLookup (.type T) "__getitem__"=pure (some (.builtin id)))(hs:HJ slice)(h:Q2 (Q7 prog w) A (Sv value env) (λo s₁=>Q2 (Q7 prog w) A (Sv slice env) (λi s₂=>s₂.TypeIs o T/\Q2 (Q7 prog w) A (getItem o i) Q E s₂) E s₁) E s) :
  Q2 (Q7 prog w) A (Sv (.Subscript value slice pos) env) Q E s:=by
 refine Subscript_ (Rh h (λo s₁ h₁=>Rh h₁ (λi s₂ h₂=>?_) λ_ _ x=>x) λ_ _ x=>x);obtain⟨hT,h₂⟩:=h₂;unfold subscriptTail;refine Qz ?_;rw[getitemInPython_of_ne hT.not_modules];refine Qz (wpAny_specialOf hT hl ?_);have ko:Q2 (Q7 prog w) A (subscripted slice false o i) (λr s₃=>Q2 (Q7 prog w) A (letTemporaryGo value o r >>= λ_=>pure r) Q E s₃) E s₂:=by
  rw[hs o i];exact wpAny_operating (Rh h₂ (λr s₃ h₃=>Qz (wpAny_letTemporaryGo (QR h₃))) λ_ _ x=>x)
 first
  |exact QR (Qz ko)
  |exact Qz (QR (Qz ko))
  |exact Qz ko
theorem u_ {o:Option V}(I:aG X pins σ H s)(g:HG H a y o):s.TypeIs (.ref a) "dict":=by
 rcases g with⟨bA,k,e,_,_⟩|⟨bA,k,b,e,_,_,_⟩
 ·obtain⟨_,_,vs,_,dd⟩:=Bn I.hok e;exact dd.typeIs
 ·obtain⟨_,_,xs,_,dd⟩:=FD I.hok e;exact dd.typeIs
def Ki (td ty:TE):TE:=λσ H Q=>td σ H λx H1=>ty σ H1 λy H2=>∃a v,x=.ref a/\HG H2 a y (some v)/\Q v H2
section
variable {o i e value:RP}{lN tpos:Pos}{td ty tv:TE}
theorem Ex (hu:X.A.units+1<Tj)(ho:PE X o td)(hi:PE X i ty)(hs:HJ i):PE X (.Subscript o i pos) (Ki td ty):=by
 intro pins s σ H Q I h;refine Ew PySem.F.slot_dict_getitem.lookup hs (dy (ho pins s σ H _ I h) λu s1 ⟨x,H1,I1,rx,q1⟩=>dy (hi pins s1 σ H1 _ I1 q1) λiv s2 ⟨y,H2,I2,ry,a,v,ex,g,q2⟩=>?_);subst ex;obtain rfl:u=Value.ref a:=rx;exact⟨u_ I2 g,zE hu I2 g ry λw' s3 I3 DQ=>⟨v,H2,I3,DQ,q2⟩⟩
end
theorem Bp {w:Rx}(h:S2)(hb:SM<h.objs.size):bU P w H (h.push {cls:=.type "dict",data:=.dict (List.toArray [])}) h.objs.size (.dK []):=
 ⟨S6 _,beq_eq_false_iff_ne.mpr (Ne.symm (Q_ hb)),[],.nil,Heap.DictOf.new h⟩
def wW:List (TE×TE)->St->Hp->(List (V×V)->Hp->Prop)->Prop
 | [],_,H,Q=>Q [] H
 | (tk,tv)::r,σ,H,Q=>tk σ H λx H1=>tv σ H1 λy H2=>wW r σ H2 λps H3=>Q ((x,y)::ps) H3
abbrev VV:List (V×V)->List (QG×QG)->Prop:=Paired λp q=>bc p.1 q.1/\bc p.2 q.2
def LW (X:Cx)(pos:Pos)(wC:List (Option RP))(rE:List RP)(trs:List (TE×TE)):Prop:=
 ∀(pins:List (QX×Obj)) (s:QP) (σ:St) (H:Hp) (Q:List (V×V)->Hp->Prop),aG X pins σ H s->wW trs σ H Q->
  Q2 (Q7 X.prog X.w) X.A (evalPairs (pairTrees wC rE X.env pos)) (λvs s'=>∃ps H',aG X pins σ H' s'/\VV ps vs/\Q ps H') X.xe s
theorem Ey:LW X pos [] [] []:=λpins s σ H Q I h=>pairTrees_nil_walk ⟨[],H,I,.nil,h⟩
theorem p7 {k v:RP}{ks:List (Option RP)}{vs:List RP}{tk tv:TE}{trs:List (TE×TE)}(hk:PE X k tk)(hv:PE X v tv)(hr:LW X pos ks vs trs) :
  LW X pos (some k::ks) (v::vs) ((tk,tv)::trs):=λpins s σ H Q I h=>
 pairTrees_cons_walk (dy (hk pins s σ H _ I h) λu s1 ⟨x,H1,I1,rx,q1⟩=>dy (hv pins s1 σ H1 _ I1 q1) λw2 s2 ⟨y,H2,I2,ry,q2⟩=>
  dy (hr pins s2 σ H2 _ I2 q2) λws s3 ⟨ps,H3,I3,rel,q3⟩=>⟨(x,y)::ps,H3,I3,.cons ⟨rx,ry⟩ rel,q3⟩)
noncomputable def lA (bA more:List (Key×V)):List (Key×V):=more.foldl (λej kv=>tO ej kv.1 kv.2) bA
theorem KV.merge:∀{more:List (Key×V)} {rs:List (Key×QG)} {bA:List (Key×V)} {vs:List (Key×QG)},KV more rs->KV bA vs->KV (lA bA more) (merged vs rs):=by
 intro more rs bA vs r;unfold KV at r
 induction r generalizing bA vs with
 |nil=>intro q;exact q
 | @cons p q ps qs h t ih=>
  intro r0;have e:KV (tO bA p.1 p.2) (stored vs q.1 q.2):=by
   have:=r0.put p.1 h.2;rw[←h.1];exact this
  exact ih e
theorem k6:∀(more bA:List (Key×V)),(lA bA more).length<=bA.length+more.length
 | [],bA=>by show bA.length<=bA.length+0;lia
 |p::r,bA=>by
  have h1:=k6 r (tO bA p.1 p.2);have h2:=u9 bA p.1 p.2;show (lA (tO bA p.1 p.2) r).length<=_;rw[QL];lia
theorem p8 {P:RF}{w:Rx}:∀{bA:List (Key×V)} {ws:List (QG×QG)},VV (bA.map λkv=>(kV kv.1,kv.2)) ws->∃rs,Carries (c8 P w) ws rs/\KV bA rs
 | [],_,r=>by rw[Sh] at r;cases r;exact⟨[],True.intro,.nil⟩
 |p::bA,_,r=>by
  rw[Rb] at r;cases r with
  | @cons a b as bs h t=>
   obtain⟨rs,c,q⟩:=p8 (P:=P) (w:=w) t;obtain⟨b1,b2⟩:=b;exact⟨(p.1,b2)::rs,⟨Bm h.1,rfl,c⟩,.cons ⟨rfl,h.2⟩ q⟩
def Kj (trs:List (TE×TE)):TE:=λσ H Q=>∀p,H p=none->wW trs σ (cE H p (.dK [])) λps H2=>H2 p=some (.dK [])/\∃bA:List (Key×V),ps=bA.map (λkv=>(kV kv.1,kv.2))/\bA.length<=15/\Q (.ref p) (cE H2 p (.dK (lA [] bA)))
theorem Ez {wC:List (Option RP)}{rE:List RP}{trs:List (TE×TE)}(h:LW X pos wC rE trs)(Jg:wC.all (·.isSome)=true)(hl:wC.length=rE.length)(h0:wC≠[])(O1:wC.length<=15):PE X (.Dict wC rE pos) (Kj trs):=by
 intro pins s σ H Q I q;have hn:=I.hok.fresh (QJ s.heap.objs.size);have I1:=I.laid (a:=s.heap.objs.size) (o:=.dK []) (h':=s.heap.push {cls:=.type "dict",data:=.dict (List.toArray [])}) (t':=s.toks) (λ_ _ q=>QF _ q) (QJ _) (Bp s.heap I.big);refine wpAny_Dict_walk (knd:=c8 X.prog X.w) Jg hl h0 O1 (dy (h pins _ σ _ _ I1 (q _ hn)) λws s2 ⟨ps,H2,I2,rel,e,bA,ep,lk,q2⟩=>?_);subst ep;obtain⟨rs,c,rk⟩:=p8 (P:=X.prog) (w:=X.w) rel;obtain⟨z,hd,vs0,r0,dd⟩:=Kh I2.hok e;cases r0;refine⟨rs,c,dd,λh' Oo hs=>⟨.ref s.heap.objs.size,_,?_,rfl,q2⟩⟩;have hz:(lA [] bA).length<=QC:=by
  have h1:=k6 bA [];rw[RW] at h1;rw[S5];lia
 have he:∃q,h'.get? s.heap.objs.size=some q:=let ⟨q,_,_,hq,_⟩:=Oo;⟨q,hq⟩
 exact Eu I2 (by rw[e];exact True.intro) hs he (HH hz hd (rk.merge .nil) Oo)
structure M1 (X:Cx)(o:RP)(m:Str)(kr:Pos)(e:RP)(cpos:Pos):Prop where
 base:Te o m X.env (Sv o X.env)=Sv o X.env
 few:((Sd cpos (QK [e] X.env)).all (λx=> !x.1)&&(backToKw cpos (keywordEach [] X.env)).all (λx=>x.1.isSome)
  && decide (([e]:List RP).length+([]:List Keyword).length+(if ([]:List Keyword).isEmpty then 0 else 1)<30))=true
 line:(kr.endLine==cpos.line)=true
 trees:Sd cpos (QK [e] X.env)=[(false,Sv e X.env)]
structure M2 (X:Cx)(o:RP)(m:Str)(kr:Pos)(e f:RP)(cpos:Pos):Prop where
 base:Te o m X.env (Sv o X.env)=Sv o X.env
 few:((Sd cpos (QK [e,f] X.env)).all (λx=> !x.1)&&(backToKw cpos (keywordEach [] X.env)).all (λx=>x.1.isSome)
  && decide (([e,f]:List RP).length+([]:List Keyword).length+(if ([]:List Keyword).isEmpty then 0 else 1)<30))=true
 line:(kr.endLine==cpos.line)=true
 trees:Sd cpos (QK [e,f] X.env)=[(false,Sv e X.env),(false,Sv f X.env)]
end L2
namespace L2
end L2
namespace L2
theorem wX (hf:∀x,(x,NameKind.free)∈scope.names->∃c,env.cells.lookup x=some c) :
  ∃cl:List (Str×QX),closureFor scope env=pure cl/\(∀x c,cl.lookup x=some c->env.cells.lookup x=some c)/\∀x,(x,NameKind.free)∈scope.names->∃c,cl.lookup x=some c:=by
 have gen:∀(names:List (Str×Ut)) (cs:List (Str×QX)),(∀x,(x,NameKind.free)∈names->∃c,env.cells.lookup x=some c)->(∀x c,cs.lookup x=some c->env.cells.lookup x=some c)->
   ∃cl:List (Str×QX),(forIn names cs λ(x:Str×Ut) (r:List (Str×QX))=>(match x with|(name,kind)=>if (kind==NameKind.free)=true then (do let a ←cellOf env name;pure (ForInStep.yield ((name,a)::r))) else pure (ForInStep.yield r):Sem (ForInStep (List (Str×QX)))))=(pure cl:Sem _)/\
    (∀x c,cl.lookup x=some c->env.cells.lookup x=some c)/\(∀x c,cs.lookup x=some c->∃c',cl.lookup x=some c')/\∀x,(x,NameKind.free)∈names->∃c,cl.lookup x=some c:=by
  intro names
  induction names with
  |nil=>intro cs _ h;exact⟨cs,rfl,h,λx c e=>⟨c,e⟩,λx hx=>absurd hx (by simp)⟩
  |cons p r ih=>
   intro cs hn h;obtain⟨n,k⟩:=p;by_cases hk:k=NameKind.free
   ·subst hk;obtain⟨c,hc⟩:=hn n QZ;have h':∀x c',((n,c)::cs).lookup x=some c'->env.cells.lookup x=some c':=λx c' e=>by
     rw[Q6] at e;by_cases hx:x==n
     ·rw[hx] at e;have:x=n:=by simpa using hx
      subst this;cases e;exact hc
     ·rw[SO.mpr hx] at e;exact h x c' e
    obtain⟨cl,e1,e2,e3,e4⟩:=ih ((n,c)::cs) (λx hx=>hn x (QW _ hx)) h';refine⟨cl,?_,e2,λx c' e=>?_,λx hx=>?_⟩
    ·rw[TV];have:cellOf env n=pure c:=by unfold cellOf;rw[hc]
     simp only[beq_self_eq_true,if_true,this];exact e1
    ·by_cases hx:x=n
     ·subst hx;exact e3 x c (by rw[Q6];simp)
     ·exact e3 x c' (by rw[Q6,show (x==n)=false from by simpa using hx];exact e)
    ·rcases QN.mp hx with e|hx
     ·cases e;exact e3 n c (by rw[Q6];simp)
     ·exact e4 x hx
   ·obtain⟨cl,e1,e2,e3,e4⟩:=ih cs (λx hx=>hn x (QW _ hx)) h;refine⟨cl,?_,e2,e3,λx hx=>?_⟩
    ·rw[TV];have:(k==NameKind.free)=false:=by simpa using hk
     simp only[this,Ua,if_false];exact e1
    ·rcases QN.mp hx with e|hx
     ·cases e;exact absurd rfl hk
     ·exact e4 x hx
 obtain⟨cl,e1,e2,_,e4⟩:=gen scope.names [] hf (λx c e=>by simp at e);refine⟨cl,?_,e2,e4⟩;unfold closureFor;exact (congrArg (λm=>m >>= λr=>pure r) e1).trans rfl
structure pA where
 C:QX
 s:QP
 H:Hp
 fp:List QX
 pins:List (QX×Obj)
 cl:List (Str×QX)
noncomputable abbrev eB (X:Cx)(scope:Ud)(N:List Str)(Y:pA):Cx where
 prog:=X.prog
 w:=X.w
 K:=X.K
 mg:=X.mg
 base:=X.base
 A:=X.A
 N:=N
 s₀:=Y.s
 H₀:=Y.H
 env:=compEnvC scope Y.cl Y.C X.env
 outer:=X.stack
 stack:=X.stack
 ex:=Y.fp
 fn:=λ_=>false
 calm:=X.calm
 pn:=X.pn++Y.pins
 xe:=λ_ _=>False
noncomputable def rO (kS:Ud)(NX:List Str)(scope:Ud)(N:List Str)(js:List (Option Nat)):Bool:=
 decide (scope.kind=.function)&&scope.names.all (λy=>decide (y.2≠.cell))&&scope.names.all (λy=>decide (y.2=.local->scope.names.lookup y.1=some .local))&&decide (js.length=N.length) &&
 (js.zip N).all (λp=>match p.1 with|none=>true|some j=>decide (NX[j]? = some p.2)&&decide (scope.names.lookup p.2=some .free)) &&
 scope.names.all (λy=>decide (y.2=.free->kS.names.lookup y.1=some .cell\/kS.names.lookup y.1=some .free))
structure lX (kS:Ud)(NX:List Str)(scope:Ud)(N:List Str)(js:List (Option Nat)):Prop where
 kind:scope.kind=.function
 nocell:∀y∈scope.names,y.2≠.cell
 loc:∀y∈scope.names,y.2=.local->scope.names.lookup y.1=some .local
 len:js.length=N.length
 cap:∀(i j:Nat) (x:Str),js[i]? = some (some j)->N[i]? = some x->NX[j]? = some x/\scope.names.lookup x=some .free
 free:∀x,(x,NameKind.free)∈scope.names->kS.names.lookup x=some .cell\/kS.names.lookup x=some .free
theorem rO.to {kS:Ud}{NX:List Str}(h:rO kS NX scope N js=true):lX kS NX scope N js:=by
 unfold rO at h;simp only[QU] at h;obtain⟨⟨⟨⟨⟨h1,h2⟩,h3⟩,h4⟩,h5⟩,h6⟩:=h;refine⟨of_decide_eq_true h1,λy hy=>of_decide_eq_true (Ri.mp h2 y hy),λy hy=>of_decide_eq_true (Ri.mp h3 y hy),of_decide_eq_true h4,λi j x e1 e2=>?_,λx hx=>of_decide_eq_true (Ri.mp h6 (x,NameKind.free) hx) rfl⟩;have hz:(js.zip N)[i]? = some (some j,x):=by
  rw[List.getElem?_zip_eq_some];exact⟨e1,e2⟩
 have q:=Ri.mp h5 _ (Rf hz);simp only[QU] at q;exact⟨of_decide_eq_true q.1,of_decide_eq_true q.2⟩
noncomputable def sE (js:List (Option Nat))(σ:St):St:=js.map λo=>match o with
 |none=>none
 |some j=>match σ[j]? with
  |some v=>v
  |none=>none
theorem lY (oV:∀y∈scope.names,y.2≠.cell)(h:(relabel scope env).names.lookup x=some .cell\/(relabel scope env).names.lookup x=some .free):(x,NameKind.free)∈scope.names:=by
 have gen:∀k,(k=NameKind.cell\/k=NameKind.free)->(relabel scope env).names.lookup x=some k->(x,NameKind.free)∈scope.names:=λk hk e=>by
  have hm:=Q5 e;obtain⟨⟨n,k0⟩,hy,q⟩:=Tu.mp hm;dsimp only at q;split at q
  ·rename_i c;simp only[QU,beq_iff_eq] at c;cases q;obtain⟨⟨c1,_⟩,_⟩:=c;rw[c1] at hy;exact hy
  ·cases q;rcases hk with hk|hk
   ·exact absurd hk (oV _ hy)
   ·rw[hk] at hy;exact hy
 rcases h with h|h
 ·exact gen _ (.inl rfl) h
 ·exact gen _ (.inr rfl) h
theorem eg {env:Env}{x:Str}:∀{names:List (Str×Ut)},names.lookup x=some .free->
  (names.map λ(n,k)=>if (k==NameKind.free&&env.scope.kind==.function&&env.kindOf n==some .cell) then (n,NameKind.cell) else (n,k)).lookup x=some .cell \/
  (names.map λ(n,k)=>if (k==NameKind.free&&env.scope.kind==.function&&env.kindOf n==some .cell) then (n,NameKind.cell) else (n,k)).lookup x=some .free
 | [],h=>by simp at h
 | (n,k)::r,h=>by
  rw[Rb];by_cases hx:x==n
  ·rw[Q6,hx] at h;cases h;by_cases c:(NameKind.free==NameKind.free&&env.scope.kind==.function&&env.kindOf n==some .cell)=true
   ·refine .inl ?_;show List.lookup x ((if (NameKind.free==NameKind.free&&env.scope.kind==.function&&env.kindOf n==some .cell)=true then (n,NameKind.cell) else (n,NameKind.free))::_)=_;rw[hV c,Q6,hx]
   ·refine .inr ?_;show List.lookup x ((if (NameKind.free==NameKind.free&&env.scope.kind==.function&&env.kindOf n==some .cell)=true then (n,NameKind.cell) else (n,NameKind.free))::_)=_;rw[hU c,Q6,hx]
  ·have Lu:=SO.mpr hx;rw[Q6,Lu] at h;have ih:=eg (env:=env) (x:=x) (names:=r) h;have e:∀p:Str×Ut,p.1=n->List.lookup x (p::(r.map λ(n,k)=>if (k==NameKind.free&&env.scope.kind==.function&&env.kindOf n==some .cell) then (n,NameKind.cell) else (n,k))) =
     List.lookup x (r.map λ(n,k)=>if (k==NameKind.free&&env.scope.kind==.function&&env.kindOf n==some .cell) then (n,NameKind.cell) else (n,k)):=λp hp=>by
    obtain⟨p1,p2⟩:=p;cases hp;rw[Q6,Lu]
   rw[e _ (by dsimp only;split<;>rfl)];exact ih
def zF (X:Cx)(rF:List RP)(t:TT):Prop:=
 ∀(pins:List (QX×Obj)) (s:QP) (σ:St) (H:Hp) (Q:Bool->Hp->Prop),aG X pins σ H s->t σ H Q->
  Q2 (Q7 X.prog X.w) X.A (forIn rF true λc r=>if r=true then do let ok ←isTrue c X.env (Sv c X.env);pure (ForInStep.yield ok) else pure (ForInStep.yield r)) (TP X pins σ Q) X.xe s
def MO:TT:=λ_ H Q=>Q true H
theorem Bq:zF X [] MO:=λ_ _ _ H _ I h=>wpAny_tests_nil ⟨H,I,h⟩
theorem Br {t:TT}(h:PT X c t):zF X [c] t:=λpins s σ H Q I q=>wpAny_tests_one (h pins s σ H Q I q)
end L2
namespace L2
theorem j1 {prog:RF}{w:Rx}{A:Rk}{R:Result->QP->Prop}{nV:RP}{it ej:QG}(I:Nat->QP->Prop)(turn:∀n s,I n s->Q2 (Q7 prog w) A (pyNext it) (λr s₁=>match r with
   |none=>R (.ok .next) s₁
   |some v=>Q2 (Q7 prog w) A (TN nV it v) (λ_ Oq=>Q2 (Q7 prog w) A (assign nV env v) (λ_ s₂=>
     Q2 (Q7 prog w) A (forIn rF true λc r=>if r=true then do let ok ←isTrue c env (Sv c env);pure (ForInStep.yield ok) else pure (ForInStep.yield r)) (λok s₃=>
      if ok=true then Q2 (Q7 prog w) A (Sv elt env) (λx s₄=>
       Q2 (Q7 prog w) A (call (.builtin "list.append") [ej,x]) (λ_ s₅=>∃m,m<n/\I m s₅) (λ_ _=>False) s₄) (λ_ _=>False) s₃
      else ∃m,m<n/\I m s₃) (λ_ _=>False) s₂) (λ_ _=>False) Oq) (λ_ _=>False) s₁) (λ_ _=>False) s)(n:Nat)(h:I n s) :
  codeAny (Q7 prog w) A (.compLoop (.ListComp elt [⟨nV,dH,rF,0⟩] scope pos) 0 it ej env) R s:=by
 refine codeAny_loop rfl I (λn s hI=>?_) n h;show Q2 _ A ((compTurn (.ListComp elt [⟨nV,dH,rF,0⟩] scope pos) 0 it ej env).onRaise (λx=>do noteFrame x env;theTreesLotGoes x)) _ _ s;refine wpAny_noted ?_;rw[compTurn_list];have fe:∀{e:QG} {s':QP} {Z:Prop},(λ(_:QG) (_:QP)=>False) e s'->Z:=λh=>h.elim;refine Qz (wpAny_standAt (Qz (Rh (turn n s hI) (λr s₁ h₁=>?_) λ_ _ h'=>h'.elim)));cases r with
 |none=>exact QR h₁
 |some v=>
  refine Qz (Rh h₁ (λ_ Oq O2=>?_) λ_ _ h'=>h'.elim);refine Qz (Rh O2 (λ_ s₂ h₂=>Qz (Rh h₂ (λok s₃ h₃=>?_) λ_ _ h'=>h'.elim)) λ_ _ h'=>h'.elim);cases ok with
  |false=>exact QR ⟨rfl,h₃⟩
  |true=>
   exact Qz (Qz (Rh h₃ (λx s₄ h₄=>Qz (Rh h₄ (λ_ s₅ h₅=>QR (QR ⟨rfl,h₅⟩)) λ_ _ h'=>h'.elim)) λ_ _ h'=>h'.elim))
def Kk (J:It)(js:List (Option Nat))(g:pA->TG)(tt:pA->TT)(te:pA->TE)(σ:St)(H1:Hp)(P:List V->Hp->Prop):Prop:=
 ∀Y:pA,∃W:Nat->Nat->List V->Hp->Prop,(∃m,W 0 m [] H1)/\∀i m ys H2,W i m ys H2->
  (J.stop i H2/\P ys H2) \/
  (J.go i H2/\ys.length<QC/\∃Nx:List V->Hp->Prop,(∀G3 H',Nx G3 H'->∃m',m'<m/\W (i+1) m' G3 H')/\∀x H3,J.yld i H2 x H3->g Y x (sE js σ) H3 λσ4 H4=>tt Y σ4 H4 λb H5=>
   if b=true then te Y σ4 H5 λy H6=>Nx (ys++[y]) H6 else Nx ys H5)
def LX (wi:TI)(js:List (Option Nat))(g:pA->TG)(tt:pA->TT)(te:pA->TE):TE:=λσ H Q=>wi σ H λJ H1=>
 Kk J js g tt te σ H1 λys H2=>∀p,H2 p=none->Q (.ref p) (cE H2 p (.lst ys))
theorem p9 {E:QG->QP->Prop}{s2:QP}{kS:Ud}{g:pA->TG}{tt:pA->TT}{te:pA->TE}{J:It}{tn:Nat->S2->Prop}{P:List V->Hp->Prop}{cl:List (Str×QX)}{RR:QG->QX->Result->QP->Prop}(I:aG X pins σ H s2)(hc:X.calm=true)(T:zm X.prog X.w X.K tg J fp it tn)(DR:tn 0 s2.heap)(f2:∀b∈fp,oX X pins H b)(uO:∀Y:pA,PG (eB X scope N Y) tg (g Y)/\zF (eB X scope N Y) rF (tt Y)/\PE (eB X scope N Y) elt (te Y))(S:lX kS X.N scope N js)(kZ:X.env.scope=kS)(c1:∀x c,cl.lookup x=some c->X.env.cells.lookup x=some c)(c2:∀x,(x,NameKind.free)∈scope.names->∃c,cl.lookup x=some c)(h:Kk J js g tt te σ H P)(hR:∀(ej C:QX) (ys:List V) (H':Hp) (s':QP),aG X pins σ (cE H' ej (.lst ys)) s'->(∃m,s'.heap.Ns C m)->oX X pins (cE H' ej (.lst ys)) C->H' ej=none->P ys H'->RR (.ref ej) C (.ok .next) s') :
  Q2 (Q7 X.prog X.w) X.A (newList []) (λej s₃=>Q2 (Q7 X.prog X.w) X.A (newFunctionEnv scope X.env.globals cl [] X.env.qual none .none (some X.env)) (λLv s₄=>
   codeAny (Q7 X.prog X.w) X.A (.compStart (.ListComp elt [⟨tg,dH,rF,0⟩] scope pos) 0 (.ref it) ej {Lv with scope:=relabel scope X.env}) (RR ej Lv.locals) s₄) E s₃) E s2:=by
 refine RU (wpAny_newFunctionEnv S.nocell (by intro y hy;simp at hy) (λh₁ Jh Ft=>?_) S.kind);dsimp only at Jh Ft ⊢;generalize hH2:s2.heap.push {cls:=.type "list",dict:=none,data:=.seq ([]:List QG).toArray}=H2 at Jh Ft ⊢;have hC:H2.objs.size=s2.heap.objs.size+1:=by rw[←hH2,SW]
 have Mf:s2.heap.objs.size≠H2.objs.size:=by rw[hC];exact Q_ (Nat.lt_succ_self _)
 have Fu:s2.heap.objs.size<=H2.objs.size:=by rw[hC];exact Nat.le_succ _
 have below:∀b,b<s2.heap.objs.size->b≠H2.objs.size/\b≠s2.heap.objs.size:=λb hb=>⟨by rw[hC];exact Q_ (Nat.lt_succ_of_lt hb),Q_ hb⟩;have Ji:∀b o,s2.heap.get? b=some o->h₁.get? b=some o:=λb o e=>Ft.extBut b o (below b (QO e)).1 (QF _ (hH2▸QF _ e));have Jj:h₁.PlainList s2.heap.objs.size (List.toArray []):=⟨_,Ft.extBut _ _ Mf (QF _ (hH2▸QS _ rfl))⟩;have Nv:∀b∈fp,b<s2.heap.objs.size:=λb hb=>by
  obtain⟨o,e,_⟩:=T.obj _ _ DR b hb;exact QO e
 generalize hCg:H2.objs.size=C at *;generalize hAg:s2.heap.objs.size=ej at *
 let Y:pA:=⟨C,s2,H,fp,pins,cl⟩
 have ok:(eB X scope N Y).Ok:=by
  refine⟨I.ok.mod,S.kind,I.ok.glob,I.ok.blt,?_,λx y c e1 e2=>I.ok.inj x y c (c1 x c e1) (c1 y c e2),λx hx=>c2 x (lY S.nocell hx),λx c e=>(by cases e),I.ok.hd,I.ok.frames,.inl rfl,λb hb=>⟨?_,λx c e=>?_⟩,I.bs,Rn I.ok.bsz I.sz,λb o e hb=>?_,λb hb hf=>?_,I.stack,I.stkFree⟩
  ·show s2.heap.objs.size<=C;rw[hAg];exact Fu
  ·exact (below b (Nv b hb)).1
  ·exact (f2 b hb).2.2.2.2.1 x c (c1 x c e)
  ·rcases (f2 b hb).2.2.2.1 with z|z
   ·exact I.ok.noex b o e z
   ·exact absurd (Q3 (QO (I.ok.bs b o e).1) z) (RT _)
  ·rcases QN.mp (I.stkSub b hf) with z|z
   ·exact (f2 b hb).2.1 z
   ·exact (f2 b hb).2.2.1 z
 have Nw:∀x c,X.env.cells.lookup x=some c->c<ej:=λx c e=>by
  obtain⟨v,q⟩:=I.cell x c e;rw[←hAg];exact q.lt
 have G1:∀p∈X.pn++pins,p.1<ej:=λp hp=>by rw[←hAg];exact QO (I.pin p hp).1
 have Qu:X.env.locals<ej:=by rw[←hAg];exact I.lt
 have Lw:∀b∈pT X.stack,b<ej:=λb hb=>by
  obtain⟨_,o,ho,_⟩:=I.stack.mem hb;rw[←hAg];exact QO ho
 have Lx:∀p∈X.pn++pins,p.1∉pT X.stack:=λp hp hf=>by
  rcases QN.mp (I.stkSub _ hf) with z|z
  ·exact (I.pin p hp).2.2.1 z
  ·exact (I.pin p hp).2.2.2.1 z
 have zc:H ej=none:=by rw[←hAg];exact I.hok.fresh (QJ _)
 have O3:H C=none:=I.hok.fresh (by rw[hAg];exact Fu);have I4:∀tk:Nat,aG (eB X scope N Y) [] (sE js σ) H {s2 with heap:=h₁,toks:=tk}:=λtk=>by
  refine⟨ok,rfl,I.bare,Un.kept Ji,⟨_,Jh,λi x v e1 e2 e3=>?_⟩,λx c e=>?_,O3,λx c e=>I.freeC x c (c1 x c e),λp hp=>?_,I.hok.kept Ji,?_⟩
  ·
   have Jk:(sE js σ)[i]? = some (some v):=e2;unfold sE at Jk;rw[QV] at Jk;cases hj:js[i]? with
   |none=>rw[hj] at Jk;cases Jk
   |some o=>
    rw[hj] at Jk;cases o with
    |none=>cases Jk
    |some j=>
     have e4:(match σ[j]? with|some v=>v|none=>none)=some v:=Q0 Jk;obtain⟨nx,fr⟩:=S.cap i j x hj e1;have e5:σ[j]? = some (some v):=by
      cases q:σ[j]? with
      |none=>rw[q] at e4;cases e4
      |some z=>rw[q] at e4;rw[show z=some v from e4]
     obtain⟨m,hn,hl⟩:=I.loc;have kx:X.env.scope.names.lookup x=some .cell\/X.env.scope.names.lookup x=some .free:=by rw[kZ];exact S.free x (Q5 fr)
     obtain⟨u,r,lk⟩:=hl j x v nx e5 (.inr kx);refine⟨u,r,.inr ⟨eg fr,?_⟩⟩;obtain⟨c,hcl⟩:=c2 x (Q5 fr);rcases lk with⟨k,_⟩|⟨k,c',e',z⟩
     ·have k':X.env.scope.names.lookup x=some .local:=k;rcases kx with q|q<;>· rw[q] at k';cases k'
     ·have:c'=c:=by
       have:=c1 x c hcl;rw[e'] at this;exact Q0 this
      subst this;obtain⟨o,ho,hd⟩:=z;exact⟨c',hcl,o,Ji _ _ ho,hd⟩
  ·obtain⟨v,o,ho,hd⟩:=I.cell x c (c1 x c e);exact⟨v,o,Ji _ _ ho,hd⟩
  ·have DU:p∈X.pn++pins:=by simpa using hp
   obtain⟨q1,q2,q3,q4,q5⟩:=I.pin p DU;exact⟨Ji _ _ q1,q2,λz=>absurd (G1 p DU) (by rw[z];exact Nat.not_lt.mpr Fu),Lx p DU,q5⟩
  ·show (sE js σ).length=N.length;unfold sE;rw[QI];exact S.len
 obtain⟨hg,ht,he⟩:=uO Y;obtain⟨W,⟨m0,w0⟩,turn⟩:=h Y;have Ny:∀{H':Hp} {pl:List (QX×Obj)},H' ej=none->(∀p∈pl,p.1≠ej)->oX (eB X scope N Y) pl H' ej:=λ{H' pl} hn hp=>by
  refine⟨hn,Mf,λz=>absurd (Lw _ z) (RT _),.inr (by show s2.heap.objs.size<=ej;rw[hAg];exact QJ _),λx c e=>Q_ (Nw x c (c1 x c e)),λp DU=>?_⟩;rcases Sw.mp DU with z|z
  ·exact Q_ (G1 p z)
  ·exact hp p z
 have Nz:∀{H':Hp} {pl:List (QX×Obj)},(∀b∈fp,H' b=none)->(∀p∈pl,p.1∉fp)->∀b∈fp,oX (eB X scope N Y) pl H' b:=λ{H' pl} hn hp b hb=>by
  refine⟨hn b hb,(below b (Nv b hb)).1,λz=>?_,.inl hb,λx c e=>(f2 b hb).2.2.2.2.1 x c (c1 x c e),λp DU=>?_⟩
  ·rcases QN.mp (I.stkSub b z) with q|q
   ·exact (f2 b hb).2.1 q
   ·exact (f2 b hb).2.2.1 q
  ·rcases Sw.mp DU with z|z
   ·exact (f2 b hb).2.2.2.2.2 p z
   ·exact λe=>hp p z (by rw[e];exact hb)
 have Ot:ej∉fp:=λz=>absurd (Nv ej z) (by intro q;rw[hAg] at *;exact RT _ q);have NA:∀{i:Nat} {x:Str} {v:V},N[i]? = some x->(sE js σ)[i]? = some (some v)->∃u c o,bc v u/\scope.names.lookup x=some .free/\cl.lookup x=some c/\s2.heap.get? c=some o/\o.data=.cell (some u):=λ{i x v} e1 e2=>by
  unfold sE at e2;rw[QV] at e2;cases hj:js[i]? with
  |none=>rw[hj] at e2;cases e2
  |some o=>
   rw[hj] at e2;cases o with
   |none=>cases e2
   |some j=>
    have e4:(match σ[j]? with|some v=>v|none=>none)=some v:=Q0 e2;obtain⟨nx,fr⟩:=S.cap i j x hj e1;have e5:σ[j]? = some (some v):=by
     cases q:σ[j]? with
     |none=>rw[q] at e4;cases e4
     |some z=>rw[q] at e4;rw[show z=some v from e4]
    obtain⟨m,hn,hl⟩:=I.loc;have kx:X.env.scope.names.lookup x=some .cell\/X.env.scope.names.lookup x=some .free:=by rw[kZ];exact S.free x (Q5 fr)
    obtain⟨u,r,lk⟩:=hl j x v nx e5 (.inr kx);obtain⟨c,hcl⟩:=c2 x (Q5 fr);rcases lk with⟨k,_⟩|⟨k,c',e',z⟩
    ·have k':X.env.scope.names.lookup x=some .local:=k;rcases kx with q|q<;>· rw[q] at k';cases k'
    ·have:c'=c:=by
      have:=c1 x c hcl;rw[e'] at this;exact Q0 this
     subst this;obtain⟨o,ho,hd⟩:=z;exact⟨u,c',o,r,fr,hcl,ho,hd⟩
 have Ly:∀{pl:List (QX×Obj)} {σ':St} {H':Hp} {s':QP},aG (eB X scope N Y) pl σ' H' s'->aG (eB X scope N Y) pl (sE js σ) H' s':=λ{pl σ' H' s'} K=>by
  refine⟨K.ok,K.os,K.bare,K.base,?_,K.cell,K.free,K.freeC,K.pin,K.hok,?_⟩
  ·obtain⟨m,hn,_⟩:=K.loc;refine⟨m,hn,λi x v e1 e2 e3=>?_⟩;obtain⟨u,c,o,r,fr,hcl,ho,hd⟩:=NA e1 e2;refine⟨u,r,.inr ⟨eg fr,c,hcl,?_⟩⟩;obtain⟨sl,q⟩:=K.base.any ho (I.freeC x c (c1 x c hcl)) λz=>(f2 c z).2.2.2.2.1 x c (c1 x c hcl) rfl;exact⟨_,q,hd⟩
  ·show (sE js σ).length=N.length;unfold sE;rw[QI];exact S.len
 have Lz:∀tk:Nat,codeAny (Q7 X.prog X.w) X.A (.compLoop (.ListComp elt [⟨tg,dH,rF,0⟩] scope pos) 0 (.ref it) (.ref ej) (compEnvC scope cl C X.env)) (RR (.ref ej) C) {s2 with heap:=h₁,toks:=tk}:=by
  intro tk;refine j1 (λn s'=>∃(i:Nat) (ys:List V) (ay:List QG) (H':Hp),aG (eB X scope N Y) [] (sE js σ) H' s'/\tn i s'.heap/\(∀b∈fp,H' b=none)/\H' ej=none/\s'.heap.PlainList ej ay.toArray/\a8 ys ay/\ys.length<=QC/\W i n ys H') ?_ m0
   ⟨0,[],[],H,I4 tk,T.keep _ _ _ DR (λb hb o e=>Ji b o e),λb hb=>(f2 b hb).1,zc,Jj,.nil,S6 _,w0⟩
  rintro n s3 ⟨i,ys,ay,H3,I3,st3,fr3,na3,⟨nn,ea⟩,rv3,hz3,w3⟩;have Jl:∀p∈[(ej,({cls:=.type "list",data:=.seq ay.toArray nn}:Obj))],p.1∉fp:=λp hp=>by
   have e:p=(ej,({cls:=.type "list",data:=.seq ay.toArray nn}:Obj)):=by simpa using hp
   rw[e];exact Ot
  have Ip:aG (eB X scope N Y) [(ej,({cls:=.type "list",data:=.seq ay.toArray nn}:Obj))] (sE js σ) H3 s3:=I3.pins_of λp hp=>by
   have e:p=(ej,({cls:=.type "list",data:=.seq ay.toArray nn}:Obj)):=by simpa using hp
   subst e;exact⟨ea,na3,Mf,λz=>absurd (Lw _ z) (RT _),λv z=>by cases z⟩
  rcases turn i n ys H3 w3 with⟨stop,p⟩|⟨go,uX,Nx,hNx,step⟩
  ·refine Rh (T.done (eB X scope N Y) rfl rfl rfl hc i _ s3 _ H3 (λ_ _=>False) Ip (Nz fr3 Jl) st3 stop) (λr s4 O4=>?_) λ_ _ z=>z;obtain⟨hr,J4⟩:=O4;subst hr;have pa:=(J4.pin (ej,({cls:=.type "list",data:=.seq ay.toArray nn}:Obj)) (QQ _ QZ)).1;have u:Un (pT X.stack) fp H (cE H3 ej (.lst ys)) s2.heap s4.heap:=
    ⟨J4.base.keep,J4.base.slot,λb o e nb hx=>by rw[aL (below b (by rw[←hAg];exact QO e)).2];exact J4.base.free b o e nb hx,J4.base.there,
     λb xs e=>by rw[aL (bz e zc)];exact J4.base.tups b xs e,λb o w' e=>by rw[aL (bz e zc)];exact J4.base.frzs b o w' e,λb ps e=>by rw[aL (bz e zc)];exact J4.base.tbls b ps e⟩
   have hok:jR X.prog X.w (cE H3 ej (.lst ys)) s4.heap:=λb o e=>by
    by_cases hb:b=ej
    ·subst hb;rw[aT] at e;cases e;exact⟨hz3,ay,nn,rv3,pa⟩
    ·rw[aL hb] at e;refine (J4.hok b o e).stay (λ_ _ _ q=>q) (λc q=>?_) λc xs q=>?_
     ·rw[aL (bz q na3)];exact q
     ·rw[aL (bz q na3)];exact q
   have NC:aG X pins σ (cE H3 ej (.lst ys)) s4:=I.call' (ch:=fp) J4.os u hok J4.bare λb hb=>⟨(f2 b hb).2.2.2.1,(f2 b hb).2.1,(f2 b hb).2.2.2.2.1,(f2 b hb).2.2.2.2.2⟩;have O5:∃m,s4.heap.Ns C m:=by obtain⟨m,hn,_⟩:=J4.loc;exact⟨m,hn⟩
   exact hR ej C ys H3 s4 NC O5 (I.fpOk (by rw[hAg];exact Fu) (by rw[aL (Ne.symm Mf)];exact J4.free)) na3 p
  ·refine Rh (T.item (eB X scope N Y) rfl rfl rfl hc i _ s3 _ H3 (λ_ _=>False) Ip (Nz fr3 Jl) st3 go) (λr s4 h4=>?_) λ_ _ z=>z;obtain⟨u,hr,h4⟩:=h4;subst hr;refine Rh h4 (λ_ s5 h5=>?_) λ_ _ z=>z;obtain⟨x,H5,I5,r5,y5,st5,fr5⟩:=h5;have Nk:=I5.pinned (Nz fr5 Jl) (T.obj _ _ st5);refine Rh (hg _ s5 _ H5 x u _ Nk r5 (step x H5 y5)) (λ_ s6 h6=>?_) λ_ _ z=>z;obtain⟨σ6,H6,I6,q6⟩:=h6;refine Rh (ht _ s6 σ6 H6 _ I6 q6) (λb s7 h7=>?_) λ_ _ z=>z;obtain⟨H7,I7,q7⟩:=h7;have LA:∀{H8:Hp} {σ8:St} {s8:QP},aG (eB X scope N Y) ([(ej,({cls:=.type "list",data:=.seq ay.toArray nn}:Obj))]++pW fp s5.heap) σ8 H8 s8->
     s8.heap.get? ej=some ({cls:=.type "list",data:=.seq ay.toArray nn}:Obj)/\H8 ej=none/\(∀b∈fp,H8 b=none)/\(∀b∈fp,∀o,s5.heap.get? b=some o->s8.heap.get? b=some o):=λ{H8 σ8 s8} K=>by
    have q:=K.pin (ej,({cls:=.type "list",data:=.seq ay.toArray nn}:Obj)) (QQ _ (Rc _ QZ));refine⟨q.1,q.2.1,λb hb=>?_,λb hb o e=>(K.pin (b,o) (QQ _ (QQ _ (jh hb e)))).1⟩;obtain⟨o,e,d⟩:=T.obj _ _ st5 b hb;exact (K.pin (b,o) (QQ _ (QQ _ (jh hb e)))).2.1
   have DV:∀{H8:Hp} {σ8:St} {s8:QP} {pl:List (QX×Obj)},aG (eB X scope N Y) pl σ8 H8 s8->aG (eB X scope N Y) [] σ8 H8 s8:=λK=>K.pins_of λp hp=>absurd hp (by simp);cases b with
   |false=>
    rw[hU (by simp)] at q7;obtain⟨m',hm,w7⟩:=hNx _ _ q7;obtain⟨p1,p2,p3,p4⟩:=LA I7;exact⟨m',hm,i+1,ys,ay,H7,Ly (DV I7),T.keep _ _ _ st5 p4,p3,p2,⟨nn,p1⟩,rv3,hz3,w7⟩
   |true=>
    rw[hV rfl] at q7;refine Rh (he _ s7 σ6 H7 _ I7 q7) (λv s8 h8=>?_) λ_ _ z=>z;obtain⟨y,H8,I8,r8,q8⟩:=h8;obtain⟨m',hm,w8⟩:=hNx _ _ q8;obtain⟨p1,p2,p3,p4⟩:=LA I8;refine wpAny_list_append_plain (items:=ay.toArray) ⟨nn,p1⟩ (λh' O6 sb=>?_) (by rw[QD,←rv3.length];exact hz3);obtain⟨f0,f1,f2',f3,f4,f5⟩:=Ny (H':=H8) (pl:=[]) p2 (by simp);have I9:aG (eB X scope N Y) [] σ6 H8 {s8 with heap:=h'}:=(DV I8).turned (t':=s8.toks) (λb o hb e=>(sb.2 b hb).trans e) f0 f1 f3 f4 f5;refine⟨m',hm,i+1,ys++[y],ay++[v],H8,Ly I9,T.keep _ _ _ st5 (λb hb o e=>(sb.2 b (λz=>Ot (z▸hb))).trans (p4 b hb o e)),p3,p2,?_,rv3.append (.cons r8 .nil),?_,w8⟩
    ·rw[show (ay++[v]).toArray=ay.toArray.push v from by simp];exact O6
    ·rw[QE,SE];exact uX
 exact codeAny_compStart_list (Lz _) (T.self _ _ _ _ _ (T.keep _ _ _ DR (λb hb o e=>Ji b o e)) (Lz _))
theorem p_ {kS:Ud}(I:aG X pins σ H s)(S:lX kS X.N scope N js)(kZ:X.env.scope=kS) :
  ∃cl:List (Str×QX),closureFor scope X.env=pure cl/\(∀x c,cl.lookup x=some c->X.env.cells.lookup x=some c)/\∀x,(x,NameKind.free)∈scope.names->∃c,cl.lookup x=some c:=
 wX λx hx=>I.ok.has x (by
  have:=S.free x hx;rw[←kZ] at this;exact this)
theorem FE {g:pA->TG}{tt:pA->TT}{te:pA->TE}(kS:Ud)(NX N:List Str)(js:List (Option Nat))(hc:X.calm=true)(hi:PI X tg dH wi)(uO:∀Y:pA,PG (eB X scope N Y) tg (g Y)/\zF (eB X scope N Y) rF (tt Y)/\PE (eB X scope N Y) elt (te Y))(kZ:X.env.scope=kS:=by rfl)(Fv:X.N=NX:=by rfl)(hS:rO kS NX scope N js=true:=by decide+kernel)(hs:∀x,RN dH X.env x=pure x:=by intro _;rfl):PE X (.ListComp elt [⟨tg,dH,rF,0⟩] scope pos) (LX wi js g tt te):=by
 intro pins s σ H Q I h;have S:lX kS X.N scope N js:=by rw[Fv];exact rO.to hS
 obtain⟨cl,e1,e2,e3⟩:=p_ I S kZ;rw[eval_ListComp];refine wpAny_comprehension_free (use:=none) rfl hs e1 S.kind S.loc (dy (hi pins s σ H _ I h) λv s1 h1=>dy h1 λMc s2 h2=>?_);obtain⟨it,fp,tn,J,H2,e,I2,T,DR,f2,q⟩:=h2;subst e;refine p9 (RR:=λej C=>compPost (Q7 X.prog X.w) X.A X.xe none (EP X pins σ Q) ej C) I2 hc T DR f2 uO S kZ e2 e3 q ?_;intro ej C ys H' s' I' ns fC na p;obtain⟨m,hn⟩:=ns;obtain⟨f0,f1,f2',f3,f4,f5⟩:=fC;exact⟨m,hn,λh' sb=>⟨.ref ej,_,I'.turned (t':=s'.toks) (λb o hb e=>(sb.2 b hb).trans e) f0 f1 f3 f4 f5,rfl,p ej na⟩⟩
theorem Bs {lN AG:Pos}{g:pA->TG}{tt:pA->TT}{te:pA->TE}(kS:Ud)(NX N:List Str)(js:List (Option Nat))(hN:X.N.Nodup)(hx:X.N[i]? = some x)(hl:AQ X.env.scope x)(hc:X.calm=true)(hi:PI X tg dH wi)(uO:∀Y:pA,PG (eB X scope N Y) tg (g Y)/\zF (eB X scope N Y) rF (tt Y)/\PE (eB X scope N Y) elt (te Y))(kZ:X.env.scope=kS:=by rfl)(Fv:X.N=NX:=by rfl)(hS:rO kS NX scope N js=true:=by decide+kernel)(hw:TM (.ListComp elt [⟨tg,dH,rF,0⟩] scope AG) (some (.Name x lN)) pos.line X.env=pure true:=by rfl)(hf:X.fn x=true\/X.env.scope.names.lookup x=some .local:=by first|exact .inl rfl|exact .inr rfl|assumption)(hs:∀x,RN dH X.env x=pure x:=by intro _;rfl) :
  PS X (.Assign [.Name x lN] (.ListComp elt [⟨tg,dH,rF,0⟩] scope AG) pos) (AY (LX wi js g tt te) (u3 i)):=by
 intro pins s σ H D I h;have S:lX kS X.N scope N js:=by rw[Fv];exact rO.to hS
 obtain⟨cl,e1,e2,e3⟩:=p_ I S kZ;rw[exec_Assign_Name_used _ _ _ _ hw];refine Qz (wpAny_standAt (Qz ?_));show Q2 _ X.A (do let _ ←comprehension (.ListComp elt [⟨tg,dH,rF,0⟩] scope AG) scope X.env _ (newList []) false (Sv dH X.env) (some (assign (.Name x lN) X.env))) _ _ s;refine Qz (Rh (wpAny_comprehension_free (use:=some (assign (.Name x lN) X.env)) (Q:=λ_ s'=>SP X pins D .next s') rfl hs e1 S.kind S.loc
  (dy (hi pins s σ H _ I h) λv s1 h1=>dy h1 λMc s2 h2=>?_)) (λ_ s' hq=>QR (QR hq)) λ_ _ e=>e)
 obtain⟨it,fp,tn,J,H2,e,I2,T,DR,f2,q⟩:=h2;subst e;refine p9 (RR:=λej C=>compPost (Q7 X.prog X.w) X.A X.xe (some (assign (.Name x lN) X.env)) (λ_ s'=>SP X pins D .next s') ej C) I2 hc T DR f2 uO S kZ e2 e3 q ?_;intro ej C ys H' s' I' ns fC na p;obtain⟨m,hn⟩:=ns;obtain⟨f0,f1,f2',f3,f4,f5⟩:=fC;show Q2 _ X.A (assign (.Name x lN) X.env (.ref ej)) _ _ _;refine wpAny_assign_Name (su I' hN hx hl (v:=.ref ej) rfl (λDK O7 O8=>?_) hf);obtain⟨a,sb,ha⟩:=O8;have aC:C≠a:=by
  rcases ha with ha|ha
  ·rw[ha];exact f1
  ·exact λz=>f4 x a ha z.symm
 refine⟨m,hn.sameBut sb aC,λh' O9=>⟨_,_,O7.turned (t':=DK.toks) (λb o hb e=>(O9.2 b hb).trans e) f0 f1 f3 f4 f5,?_⟩⟩;exact p ej na
def Kl (J:It)(g:TG)(tb:TS)(D:lu)(σ:St)(H1:Hp):Prop:=∃W:Nat->Nat->St->Hp->Prop,(∃m,W 0 m σ H1)/\∀i m σ H,W i m σ H->
 (J.stop i H/\D.nx σ H)\/(J.go i H/\∃N:St->Hp->Prop,(∀σ' H',N σ' H'->∃m',m'<m/\W (i+1) m' σ' H')/\∀x H',J.yld i H x H'->g x σ H' λσ2 H2=>tb {D with nx:=N,ct:=N,bk:=D.nx} σ2 H2)
def Km (wi:TI)(g:TG)(tb:TS):TS:=λD σ H=>wi σ H λJ H1=>Kl J g tb D σ H1
theorem EA {g:TG}(hp:Uu (Q7 X.prog X.w) X.A X.env X.xe)(hc:X.calm=true)(hi:PI X tg dH wi)(hg:PG X tg g)(hb:pj X body tb)(hs:∀x,RN dH X.env x=pure x:=by intro _;rfl):PS X (.For tg dH body [] pos) (Km wi g tb):=Hr hp hc hi hg hb hs
end L2
namespace L2
inductive D where
 |non|bl (b:Bool)|int (i:Int)|str (x:Str)|tup (xs:List D)|lst (xs:List D)
instance:Inhabited D:=⟨.non⟩
mutual
def aU (K:QB)(H:Hp):D->V->Prop
 | .non,v=>v=.non
 | .bl b,v=>v=.bl b
 | .int i,v=>v=.int i
 | .str x,v=>v=.str x
 | .tup ds,v=>∃a xs,v=.ref a/\gL K H a xs/\fK K H ds xs
 | .lst ds,v=>∃a xs,v=.ref a/\fi K H a xs/\fK K H ds xs
def fK (K:QB)(H:Hp):List D->List V->Prop
 | [],xs=>xs=[]
 |d::ds,xs=>∃x r,xs=x::r/\aU K H d x/\fK K H ds r
end
mutual
noncomputable def fk:D->D->Bool
 | .non,.non=>true
 | .bl a,.bl b=>a==b
 | .bl a,.int b=>(if a then 1 else 0)==b
 | .int a,.bl b=>a==(if b then 1 else 0)
 | .int a,.int b=>a==b
 | .str a,.str b=>a==b
 | .tup xs,.tup ys=>jS xs ys
 | .lst xs,.lst ys=>jS xs ys
 |_,_=>false
noncomputable def jS:List D->List D->Bool
 | [],[]=>true
 |x::xs,y::ys=>fk x y&&jS xs ys
 |_,_=>false
end
mutual
noncomputable def bP:D->Nat
 | .tup xs=>fL xs+1
 | .lst xs=>fL xs+1
 |_=>0
noncomputable def fL:List D->Nat
 | []=>0
 |x::xs=>max (bP x) (fL xs)
end
theorem fK.length {K:QB}{H:Hp}:∀{ds:List D} {xs:List V},fK K H ds xs->ds.length=xs.length
 | [],_,h=>by unfold fK at h;subst h;rfl
 |d::ds,_,h=>by
  unfold fK at h;obtain⟨x,r,rfl,_,q⟩:=h;rw[QL,QL,fK.length q]
theorem fK.get {K:QB}{H:Hp}:∀{ds:List D} {xs:List V} {i:Nat} {d:D} {x:V},fK K H ds xs->ds[i]? = some d->xs[i]? = some x->aU K H d x
 | [],_,_,_,_,_,e,_=>by simp at e
 |d::ds,_,i,d',x',h,e1,e2=>by
  unfold fK at h;obtain⟨x,r,rfl,p,q⟩:=h;cases i with
  |zero=>simp at e1 e2;subst e1 e2;exact p
  |succ i=>exact fK.get q (by simpa using e1) (by simpa using e2)
theorem fM:∀{ds:List D} {i:Nat} {d:D},ds[i]? = some d->bP d<=fL ds
 | [],_,_,e=>by simp at e
 |d::ds,i,d',e=>by
  unfold fL;cases i with
  |zero=>simp at e;subst e;exact Nat.le_max_left _ _
  |succ i=>exact Rn (fM (ds:=ds) (by simpa using e)) (Nat.le_max_right _ _)
noncomputable def dM (xs ys:List D)(j:Nat):Bool:=match xs[j]?,ys[j]? with
 |some a,some b=>fk a b
 |_,_=>true
theorem gq:∀(xs ys:List D),((RL (min xs.length ys.length)).all (dM xs ys)&&xs.length==ys.length)=jS xs ys
 | [],[]=>by simp[jS]
 | [],_::_=>by simp[jS]
 |_::_,[]=>by simp[jS]
 |x::xs,y::ys=>by
  have ih:=gq xs ys;unfold jS;rw[←ih,QL,QL,Nat.add_min_add_right,List.range_succ_eq_map,Td,List.all_map];have e0:dM (x::xs) (y::ys) 0=fk x y:=rfl;have e1:(dM (x::xs) (y::ys)∘Nat.succ)=dM xs ys:=by funext j;simp[dM,Function.comp]
  rw[e0,e1,Bool.and_assoc];congr 1;congr 1;rw[RV];simp
theorem qa {xs ys:List D}(h:xs.length≠ys.length):jS xs ys=false:=by
 rw[←gq,show (xs.length==ys.length)=false from by simpa using h,Uh]
mutual
theorem va:∀d:D,fk d d=true
 | .non=>rfl
 | .bl b=>by unfold fk;simp
 | .int b=>by unfold fk;simp
 | .str b=>by unfold fk;simp
 | .tup xs=>by unfold fk;exact ni xs
 | .lst xs=>by unfold fk;exact ni xs
theorem ni:∀ds:List D,jS ds ds=true
 | []=>rfl
 |d::ds=>by unfold jS;rw[va d,ni ds];rfl
end
theorem Kn {ys:List V}(I:aG X pins σ H s)(h:fi X.K H a xs)(h':gL X.K H a ys):False:=by
 obtain⟨ay,_,p,_⟩:=I.list h;obtain⟨its',_,q,_⟩:=I.tuple h';exact absurd rfl (SeqAt.ne_of_list_tuple p.isList q)
theorem vb (I:aG X pins σ H s):∀n d1 d2 x,bP d1<=n->aU X.K H d1 x->aU X.K H d2 x->fk d1 d2=true:=by
 have lists:∀n,(∀d1 d2 x,bP d1<=n->aU X.K H d1 x->aU X.K H d2 x->fk d1 d2=true)->∀(ds es:List D) (xs:List V),fL ds<=n->fK X.K H ds xs->fK X.K H es xs->jS ds es=true:=by
  intro n ih ds
  induction ds with
  |nil=>
   intro es xs _ h1 h2;unfold fK at h1;subst h1;cases es with
   |nil=>rfl
   |cons e es=>unfold fK at h2;obtain⟨x,r,e',_⟩:=h2;cases e'
  |cons d ds ihd=>
   intro es xs hd h1 h2;unfold fK at h1;obtain⟨x,r,rfl,p,q⟩:=h1;cases es with
   |nil=>unfold fK at h2;cases h2
   |cons e es=>
    unfold fK at h2;obtain⟨x',r',e',p',q'⟩:=h2;cases e';unfold fL at hd;unfold jS;rw[ih d e x (Rn (Nat.le_max_left _ _) hd) p p',ihd es r (Rn (Nat.le_max_right _ _) hd) q q'];rfl
 intro n
 induction n with
 |zero=>
  intro d1 d2 x hd h1 h2;have fl:∀d,aU X.K H d x->(∃a,x=.ref a)\/(d=.non/\x=.non)\/(∃b,d=.bl b/\x=.bl b)\/(∃b,d=.int b/\x=.int b)\/∃b,d=.str b/\x=.str b:=λd h=>by
   cases d with
   |non=>unfold aU at h;exact .inr (.inl ⟨rfl,h⟩)
   |bl b=>unfold aU at h;exact .inr (.inr (.inl ⟨b,rfl,h⟩))
   |int b=>unfold aU at h;exact .inr (.inr (.inr (.inl ⟨b,rfl,h⟩)))
   |str b=>unfold aU at h;exact .inr (.inr (.inr (.inr ⟨b,rfl,h⟩)))
   |tup ds=>unfold aU at h;obtain⟨a,_,e,_⟩:=h;exact .inl ⟨a,e⟩
   |lst ds=>unfold aU at h;obtain⟨a,_,e,_⟩:=h;exact .inl ⟨a,e⟩
  have nr:¬∃a,x=.ref a:=λh00=>by
   obtain⟨a,e⟩:=h00;subst e;cases d1 with
   |tup ds=>unfold bP at hd;lia
   |lst ds=>unfold bP at hd;lia
   |_=>unfold aU at h1;cases h1
  have f1:=fl d1 h1;have f2:=fl d2 h2;rcases f1 with f1|⟨rfl,rfl⟩|⟨b,rfl,rfl⟩|⟨b,rfl,rfl⟩|⟨b,rfl,rfl⟩
  ·exact absurd f1 nr
  all_goals
   rcases f2 with f2|⟨rfl,f2⟩|⟨c,rfl,f2⟩|⟨c,rfl,f2⟩|⟨c,rfl,f2⟩
   ·exact absurd f2 nr
   all_goals first|(cases f2;exact va _)|cases f2
 |succ n ih=>
  intro d1 d2 x hd h1 h2;cases d1 with
  |tup ds=>
   unfold aU at h1;obtain⟨a,xs,rfl,hs,hr⟩:=h1;cases d2 with
   |tup es=>
    unfold aU at h2;obtain⟨a',xs',e,hs',hr'⟩:=h2;cases e;have:=I.tuple_inj hs hs';subst this;unfold fk;exact lists n ih ds es xs (by unfold bP at hd;lia) hr hr'
   |lst es=>
    unfold aU at h2;obtain⟨a',xs',e,hs',hr'⟩:=h2;cases e;exact (Kn I hs' hs).elim
   |_=>unfold aU at h2;cases h2
  |lst ds=>
   unfold aU at h1;obtain⟨a,xs,rfl,hs,hr⟩:=h1;cases d2 with
   |lst es=>
    unfold aU at h2;obtain⟨a',xs',e,hs',hr'⟩:=h2;cases e;have:=I.list_inj hs hs';subst this;unfold fk;exact lists n ih ds es xs (by unfold bP at hd;lia) hr hr'
   |tup es=>
    unfold aU at h2;obtain⟨a',xs',e,hs',hr'⟩:=h2;cases e;exact (Kn I hs hs').elim
   |_=>unfold aU at h2;cases h2
  |_=>exact ih _ d2 x (by unfold bP;exact S6 _) h1 h2
theorem qb (I:aG X pins σ H s):∀(n:Nat) (d1 d2:D) (x y:V) (u v:QG) (A:Rk),bP d1<=n->A.units+n<Tj->aU X.K H d1 x->aU X.K H d2 y->bc x u->bc y v->Sm A s u v (fk d1 d2):=by
 intro n
 induction n with
 |zero=>
  intro d1 d2 x y u v A hd hu h1 h2 r1 r2;have el:A.units<Tj:=(by lia)
  cases d1 with
  |non=>
   unfold aU at h1;subst h1;cases r1;cases d2 with
   |non=>
    unfold aU at h2;subst h2;cases r2;exact TR _
   |bl b2=>
    unfold aU at h2;subst h2;cases r2;exact SeqAt.EqAt.none_bool b2
   |int b2=>
    unfold aU at h2;subst h2;obtain⟨t2,rfl⟩:=r2;exact SeqAt.EqAt.none_int b2 t2
   |str b2=>
    unfold aU at h2;subst h2;obtain⟨t2,rfl⟩:=r2;exact SeqAt.EqAt.none_str b2 t2
   |tup b2=>
    unfold aU at h2;obtain⟨a2,xs2,rfl,cv,hr2⟩:=h2;cases r2;obtain⟨its2,rv2,p2,hz2⟩:=I.tuple cv;exact SeqAt.EqAt.none_tuple p2 el
   |lst b2=>
    unfold aU at h2;obtain⟨a2,xs2,rfl,cv,hr2⟩:=h2;cases r2;obtain⟨its2,rv2,p2,hz2⟩:=I.list cv;exact SeqAt.EqAt.none_list p2.isList el
  |bl b1=>
   unfold aU at h1;subst h1;cases r1;cases d2 with
   |non=>
    unfold aU at h2;subst h2;cases r2;exact SeqAt.EqAt.bool_none b1
   |bl b2=>
    unfold aU at h2;subst h2;cases r2;exact SeqAt.EqAt.bool_bool b1 b2
   |int b2=>
    unfold aU at h2;subst h2;obtain⟨t2,rfl⟩:=r2;exact SeqAt.EqAt.bool_int b1 b2 t2
   |str b2=>
    unfold aU at h2;subst h2;obtain⟨t2,rfl⟩:=r2;exact SeqAt.EqAt.bool_str b1 b2 t2
   |tup b2=>
    unfold aU at h2;obtain⟨a2,xs2,rfl,cv,hr2⟩:=h2;cases r2;obtain⟨its2,rv2,p2,hz2⟩:=I.tuple cv;exact SeqAt.EqAt.bool_tuple b1 p2 el
   |lst b2=>
    unfold aU at h2;obtain⟨a2,xs2,rfl,cv,hr2⟩:=h2;cases r2;obtain⟨its2,rv2,p2,hz2⟩:=I.list cv;exact SeqAt.EqAt.bool_list b1 p2.isList el
  |int b1=>
   unfold aU at h1;subst h1;obtain⟨t1,rfl⟩:=r1;cases d2 with
   |non=>
    unfold aU at h2;subst h2;cases r2;exact SeqAt.EqAt.int_none b1 t1
   |bl b2=>
    unfold aU at h2;subst h2;cases r2;exact SeqAt.EqAt.int_bool b1 t1 b2
   |int b2=>
    unfold aU at h2;subst h2;obtain⟨t2,rfl⟩:=r2;exact SeqAt.EqAt.int_int b1 t1 b2 t2
   |str b2=>
    unfold aU at h2;subst h2;obtain⟨t2,rfl⟩:=r2;exact T4 b1 t1 b2 t2
   |tup b2=>
    unfold aU at h2;obtain⟨a2,xs2,rfl,cv,hr2⟩:=h2;cases r2;obtain⟨its2,rv2,p2,hz2⟩:=I.tuple cv;exact SeqAt.EqAt.int_tuple b1 t1 p2 el
   |lst b2=>
    unfold aU at h2;obtain⟨a2,xs2,rfl,cv,hr2⟩:=h2;cases r2;obtain⟨its2,rv2,p2,hz2⟩:=I.list cv;exact SeqAt.EqAt.int_list b1 t1 p2.isList el
  |str b1=>
   unfold aU at h1;subst h1;obtain⟨t1,rfl⟩:=r1;cases d2 with
   |non=>
    unfold aU at h2;subst h2;cases r2;exact SeqAt.EqAt.str_none b1 t1
   |bl b2=>
    unfold aU at h2;subst h2;cases r2;exact SeqAt.EqAt.str_bool b1 t1 b2
   |int b2=>
    unfold aU at h2;subst h2;obtain⟨t2,rfl⟩:=r2;exact T5 b1 t1 b2 t2
   |str b2=>
    unfold aU at h2;subst h2;obtain⟨t2,rfl⟩:=r2;exact SeqAt.EqAt.str_str b1 t1 b2 t2
   |tup b2=>
    unfold aU at h2;obtain⟨a2,xs2,rfl,cv,hr2⟩:=h2;cases r2;obtain⟨its2,rv2,p2,hz2⟩:=I.tuple cv;exact SeqAt.EqAt.str_tuple b1 t1 p2 el
   |lst b2=>
    unfold aU at h2;obtain⟨a2,xs2,rfl,cv,hr2⟩:=h2;cases r2;obtain⟨its2,rv2,p2,hz2⟩:=I.list cv;exact SeqAt.EqAt.str_list b1 t1 p2.isList el
  |tup ds=>unfold bP at hd;lia
  |lst ds=>unfold bP at hd;lia
 |succ n ih=>
  intro d1 d2 x y u v A hd hu h1 h2 r1 r2;have el:A.units<Tj:=(by lia)
  cases d1 with
  |tup ds=>
   unfold aU at h1;obtain⟨a1,xs1,rfl,hs1,hr1⟩:=h1;cases r1;obtain⟨its1,rv1,p1,hz1⟩:=I.tuple hs1;cases d2 with
   |non=>
    unfold aU at h2;subst h2;cases r2;exact SeqAt.EqAt.tuple_none p1 el
   |bl b2=>
    unfold aU at h2;subst h2;cases r2;exact SeqAt.EqAt.tuple_bool b2 p1 el
   |int b2=>
    unfold aU at h2;subst h2;obtain⟨t2,rfl⟩:=r2;exact SeqAt.EqAt.tuple_int b2 t2 p1 el
   |str b2=>
    unfold aU at h2;subst h2;obtain⟨t2,rfl⟩:=r2;exact SeqAt.EqAt.tuple_str b2 t2 p1 el
   |tup es=>
    unfold aU at h2;obtain⟨a2,xs2,rfl,cv,hr2⟩:=h2;cases r2;obtain⟨its2,rv2,p2,hz2⟩:=I.tuple cv;by_cases hab:a1=a2
    ·subst hab;rw[vb I (n+1) (.tup ds) (.tup es) (.ref a1) hd (by unfold aU;exact⟨a1,xs1,rfl,hs1,hr1⟩) (by unfold aU;exact⟨a1,xs2,rfl,cv,hr2⟩)];exact TR _
    ·refine SeqAt.EqAt.of_refs hab ?_;have l1:its1.toArray.size=ds.length:=by rw[QD,←rv1.length,hr1.length]
     have l2:its2.toArray.size=es.length:=by rw[QD,←rv2.length,hr2.length]
     have k1:xs1.length=ds.length:=hr1.length.symm;have k2:xs2.length=es.length:=hr2.length.symm;have he:∀j (h1:j<its1.toArray.size) (h2:j<its2.toArray.size),Sm A.in1 s its1.toArray[j] its2.toArray[j] (dM ds es j):=λj g1 g2=>by
      have q1:ds[j]? = some ds[j]:=Qy (by lia);have q2:es[j]? = some es[j]:=Qy (by lia);have e1:xs1[j]? = some xs1[j]:=Qy (by lia);have e2:xs2[j]? = some xs2[j]:=Qy (by lia);obtain⟨u1,z1,w1⟩:=rv1.get e1;obtain⟨u2,z2,w2⟩:=rv2.get e2;have y1:its1.toArray[j]=u1:=by
       have:=QH.mp z1;obtain⟨_,q⟩:=this;simpa using q
      have y2:its2.toArray[j]=u2:=by
       have:=QH.mp z2;obtain⟨_,q⟩:=this;simpa using q
      rw[y1,y2];have:dM ds es j=fk ds[j] es[j]:=by unfold dM;rw[q1,q2]
      rw[this];refine ih ds[j] es[j] xs1[j] xs2[j] u1 u2 A.in1 ?_ (by show A.units+1+n<Tj;lia) (hr1.get q1 e1) (hr2.get q2 e2) w1 w2;have:=fM q1;unfold bP at hd;lia
     have q:=SeqAt.RcAt.tuples (A:=A) p1 p2 el he;rw[l1,l2,gq] at q;unfold fk;exact q
   |lst es=>
    unfold aU at h2;obtain⟨a2,xs2,rfl,cv,hr2⟩:=h2;cases r2;obtain⟨its2,rv2,p2,hz2⟩:=I.list cv;exact SeqAt.EqAt.tuple_list p1 p2.isList el
  |lst ds=>
   unfold aU at h1;obtain⟨a1,xs1,rfl,hs1,hr1⟩:=h1;cases r1;obtain⟨its1,rv1,p1,hz1⟩:=I.list hs1;cases d2 with
   |non=>
    unfold aU at h2;subst h2;cases r2;exact SeqAt.EqAt.list_none p1.isList el
   |bl b2=>
    unfold aU at h2;subst h2;cases r2;exact SeqAt.EqAt.list_bool b2 p1.isList el
   |int b2=>
    unfold aU at h2;subst h2;obtain⟨t2,rfl⟩:=r2;exact SeqAt.EqAt.list_int b2 t2 p1.isList el
   |str b2=>
    unfold aU at h2;subst h2;obtain⟨t2,rfl⟩:=r2;exact SeqAt.EqAt.list_str b2 t2 p1.isList el
   |tup es=>
    unfold aU at h2;obtain⟨a2,xs2,rfl,cv,hr2⟩:=h2;cases r2;obtain⟨its2,rv2,p2,hz2⟩:=I.tuple cv;exact SeqAt.EqAt.list_tuple p1.isList p2 el
   |lst es=>
    unfold aU at h2;obtain⟨a2,xs2,rfl,cv,hr2⟩:=h2;cases r2;obtain⟨its2,rv2,p2,hz2⟩:=I.list cv;by_cases hab:a1=a2
    ·subst hab;rw[vb I (n+1) (.lst ds) (.lst es) (.ref a1) hd (by unfold aU;exact⟨a1,xs1,rfl,hs1,hr1⟩) (by unfold aU;exact⟨a1,xs2,rfl,cv,hr2⟩)];exact TR _
    ·refine SeqAt.EqAt.of_refs hab ?_;have l1:its1.toArray.size=ds.length:=by rw[QD,←rv1.length,hr1.length]
     have l2:its2.toArray.size=es.length:=by rw[QD,←rv2.length,hr2.length]
     have k1:xs1.length=ds.length:=hr1.length.symm;have k2:xs2.length=es.length:=hr2.length.symm;have he:∀j (h1:j<its1.toArray.size) (h2:j<its2.toArray.size),Sm A.in1 s its1.toArray[j] its2.toArray[j] (dM ds es j):=λj g1 g2=>by
      have q1:ds[j]? = some ds[j]:=Qy (by lia);have q2:es[j]? = some es[j]:=Qy (by lia);have e1:xs1[j]? = some xs1[j]:=Qy (by lia);have e2:xs2[j]? = some xs2[j]:=Qy (by lia);obtain⟨u1,z1,w1⟩:=rv1.get e1;obtain⟨u2,z2,w2⟩:=rv2.get e2;have y1:its1.toArray[j]=u1:=by
       have:=QH.mp z1;obtain⟨_,q⟩:=this;simpa using q
      have y2:its2.toArray[j]=u2:=by
       have:=QH.mp z2;obtain⟨_,q⟩:=this;simpa using q
      rw[y1,y2];have:dM ds es j=fk ds[j] es[j]:=by unfold dM;rw[q1,q2]
      rw[this];refine ih ds[j] es[j] xs1[j] xs2[j] u1 u2 A.in1 ?_ (by show A.units+1+n<Tj;lia) (hr1.get q1 e1) (hr2.get q2 e2) w1 w2;have:=fM q1;unfold bP at hd;lia
     unfold fk;by_cases hl:ds.length=es.length
     ·have q:=SeqAt.RcAt.lists (A:=A) p1.isList p2.isList (by rw[l1,l2,hl]) el he;rw[l1] at q;have z:=gq ds es;rw[hl,Nat.min_self,beq_self_eq_true,Bool.and_true] at z;rw[hl,z] at q;exact q
     ·rw[qa hl];exact Up (A:=A) p1.isList p2.isList (by rw[l1,l2];simpa using hl) el
  |non=>exact ih _ d2 x y u v A (by unfold bP;exact S6 _) (by lia) h1 h2 r1 r2
  |bl b1=>exact ih _ d2 x y u v A (by unfold bP;exact S6 _) (by lia) h1 h2 r1 r2
  |int b1=>exact ih _ d2 x y u v A (by unfold bP;exact S6 _) (by lia) h1 h2 r1 r2
  |str b1=>exact ih _ d2 x y u v A (by unfold bP;exact S6 _) (by lia) h1 h2 r1 r2
theorem HK (I:aG X pins σ H s)(n:Nat)(d1 d2:D)(x y:V)(u v:QG)(A:Rk)(hd:bP d1<=n)(hu:A.units+n<Tj)(h1:aU X.K H d1 x)(h2:aU X.K H d2 y)(r1:bc x u)(r2:bc y v):SeqAt.RcAt A s u v (fk d1 d2):=by
  have el:A.units<Tj:=(by lia)
  cases d1 with
  |non=>
   unfold aU at h1;subst h1;cases r1;cases d2 with
   |non=>
    unfold aU at h2;subst h2;cases r2;exact SeqAt.RcAt.none_none
   |bl b2=>
    unfold aU at h2;subst h2;cases r2;exact SeqAt.RcAt.none_bool b2
   |int b2=>
    unfold aU at h2;subst h2;obtain⟨t2,rfl⟩:=r2;exact SeqAt.RcAt.none_int b2 t2
   |str b2=>
    unfold aU at h2;subst h2;obtain⟨t2,rfl⟩:=r2;exact SeqAt.RcAt.none_str b2 t2
   |tup es=>
    unfold aU at h2;obtain⟨a2,xs2,rfl,cv,hr2⟩:=h2;cases r2;obtain⟨its2,rv2,p2,hz2⟩:=I.tuple cv;exact SeqAt.RcAt.none_tuple p2 el
   |lst es=>
    unfold aU at h2;obtain⟨a2,xs2,rfl,cv,hr2⟩:=h2;cases r2;obtain⟨its2,rv2,p2,hz2⟩:=I.list cv;exact SeqAt.RcAt.none_list p2.isList el
  |bl b1=>
   unfold aU at h1;subst h1;cases r1;cases d2 with
   |non=>
    unfold aU at h2;subst h2;cases r2;exact SeqAt.RcAt.bool_none b1
   |bl b2=>
    unfold aU at h2;subst h2;cases r2;exact SeqAt.RcAt.bool_bool b1 b2
   |int b2=>
    unfold aU at h2;subst h2;obtain⟨t2,rfl⟩:=r2;exact SeqAt.RcAt.bool_int b1 b2 t2
   |str b2=>
    unfold aU at h2;subst h2;obtain⟨t2,rfl⟩:=r2;exact SeqAt.RcAt.bool_str b1 b2 t2
   |tup es=>
    unfold aU at h2;obtain⟨a2,xs2,rfl,cv,hr2⟩:=h2;cases r2;obtain⟨its2,rv2,p2,hz2⟩:=I.tuple cv;exact SeqAt.RcAt.bool_tuple b1 p2 el
   |lst es=>
    unfold aU at h2;obtain⟨a2,xs2,rfl,cv,hr2⟩:=h2;cases r2;obtain⟨its2,rv2,p2,hz2⟩:=I.list cv;exact SeqAt.RcAt.bool_list b1 p2.isList el
  |int b1=>
   unfold aU at h1;subst h1;obtain⟨t1,rfl⟩:=r1;cases d2 with
   |non=>
    unfold aU at h2;subst h2;cases r2;exact SeqAt.RcAt.int_none b1 t1
   |bl b2=>
    unfold aU at h2;subst h2;cases r2;exact SeqAt.RcAt.int_bool b1 t1 b2
   |int b2=>
    unfold aU at h2;subst h2;obtain⟨t2,rfl⟩:=r2;exact SeqAt.RcAt.int_int b1 t1 b2 t2
   |str b2=>
    unfold aU at h2;subst h2;obtain⟨t2,rfl⟩:=r2;exact SeqAt.RcAt.int_str b1 t1 b2 t2
   |tup es=>
    unfold aU at h2;obtain⟨a2,xs2,rfl,cv,hr2⟩:=h2;cases r2;obtain⟨its2,rv2,p2,hz2⟩:=I.tuple cv;exact SeqAt.RcAt.int_tuple b1 t1 p2 el
   |lst es=>
    unfold aU at h2;obtain⟨a2,xs2,rfl,cv,hr2⟩:=h2;cases r2;obtain⟨its2,rv2,p2,hz2⟩:=I.list cv;exact SeqAt.RcAt.int_list b1 t1 p2.isList el
  |str b1=>
   unfold aU at h1;subst h1;obtain⟨t1,rfl⟩:=r1;cases d2 with
   |non=>
    unfold aU at h2;subst h2;cases r2;exact SeqAt.RcAt.str_none b1 t1
   |bl b2=>
    unfold aU at h2;subst h2;cases r2;exact SeqAt.RcAt.str_bool b1 t1 b2
   |int b2=>
    unfold aU at h2;subst h2;obtain⟨t2,rfl⟩:=r2;exact SeqAt.RcAt.str_int b1 t1 b2 t2
   |str b2=>
    unfold aU at h2;subst h2;obtain⟨t2,rfl⟩:=r2;exact SeqAt.RcAt.str_str b1 t1 b2 t2
   |tup es=>
    unfold aU at h2;obtain⟨a2,xs2,rfl,cv,hr2⟩:=h2;cases r2;obtain⟨its2,rv2,p2,hz2⟩:=I.tuple cv;exact SeqAt.RcAt.str_tuple b1 t1 p2 el
   |lst es=>
    unfold aU at h2;obtain⟨a2,xs2,rfl,cv,hr2⟩:=h2;cases r2;obtain⟨its2,rv2,p2,hz2⟩:=I.list cv;exact SeqAt.RcAt.str_list b1 t1 p2.isList el
  |tup ds=>
   unfold aU at h1;obtain⟨a1,xs1,rfl,hs1,hr1⟩:=h1;cases r1;obtain⟨its1,rv1,p1,hz1⟩:=I.tuple hs1;cases d2 with
   |non=>
    unfold aU at h2;subst h2;cases r2;exact SeqAt.RcAt.tuple_none p1 el
   |bl b2=>
    unfold aU at h2;subst h2;cases r2;exact SeqAt.RcAt.tuple_bool b2 p1 el
   |int b2=>
    unfold aU at h2;subst h2;obtain⟨t2,rfl⟩:=r2;exact SeqAt.RcAt.tuple_int b2 t2 p1 el
   |str b2=>
    unfold aU at h2;subst h2;obtain⟨t2,rfl⟩:=r2;exact SeqAt.RcAt.tuple_str b2 t2 p1 el
   |tup es=>
    unfold aU at h2;obtain⟨a2,xs2,rfl,cv,hr2⟩:=h2;cases r2;obtain⟨its2,rv2,p2,hz2⟩:=I.tuple cv;have l1:its1.toArray.size=ds.length:=by rw[QD,←rv1.length,hr1.length]
    have l2:its2.toArray.size=es.length:=by rw[QD,←rv2.length,hr2.length]
    have k1:xs1.length=ds.length:=hr1.length.symm;have k2:xs2.length=es.length:=hr2.length.symm;have he:∀j (h1:j<its1.toArray.size) (h2:j<its2.toArray.size),Sm A.in1 s its1.toArray[j] its2.toArray[j] (dM ds es j):=λj g1 g2=>by
     have q1:ds[j]? = some ds[j]:=Qy (by lia);have q2:es[j]? = some es[j]:=Qy (by lia);have e1:xs1[j]? = some xs1[j]:=Qy (by lia);have e2:xs2[j]? = some xs2[j]:=Qy (by lia);obtain⟨u1,z1,w1⟩:=rv1.get e1;obtain⟨u2,z2,w2⟩:=rv2.get e2;have y1:its1.toArray[j]=u1:=by
      obtain⟨_,q⟩:=QH.mp z1;simpa using q
     have y2:its2.toArray[j]=u2:=by
      obtain⟨_,q⟩:=QH.mp z2;simpa using q
     rw[y1,y2];have:dM ds es j=fk ds[j] es[j]:=by unfold dM;rw[q1,q2]
     rw[this];have dl:=fM q1;unfold bP at hd;exact qb I (n-1) ds[j] es[j] xs1[j] xs2[j] u1 u2 A.in1 (by lia) (by show A.units+1+(n-1)<Tj;lia) (hr1.get q1 e1) (hr2.get q2 e2) w1 w2
    have q:=SeqAt.RcAt.tuples (A:=A) p1 p2 el he;rw[l1,l2,gq] at q;unfold fk;exact q
   |lst es=>
    unfold aU at h2;obtain⟨a2,xs2,rfl,cv,hr2⟩:=h2;cases r2;obtain⟨its2,rv2,p2,hz2⟩:=I.list cv;exact SeqAt.RcAt.tuple_list p1 p2.isList el
  |lst ds=>
   unfold aU at h1;obtain⟨a1,xs1,rfl,hs1,hr1⟩:=h1;cases r1;obtain⟨its1,rv1,p1,hz1⟩:=I.list hs1;cases d2 with
   |non=>
    unfold aU at h2;subst h2;cases r2;exact SeqAt.RcAt.list_none p1.isList el
   |bl b2=>
    unfold aU at h2;subst h2;cases r2;exact SeqAt.RcAt.list_bool b2 p1.isList el
   |int b2=>
    unfold aU at h2;subst h2;obtain⟨t2,rfl⟩:=r2;exact SeqAt.RcAt.list_int b2 t2 p1.isList el
   |str b2=>
    unfold aU at h2;subst h2;obtain⟨t2,rfl⟩:=r2;exact SeqAt.RcAt.list_str b2 t2 p1.isList el
   |tup es=>
    unfold aU at h2;obtain⟨a2,xs2,rfl,cv,hr2⟩:=h2;cases r2;obtain⟨its2,rv2,p2,hz2⟩:=I.tuple cv;exact SeqAt.RcAt.list_tuple p1.isList p2 el
   |lst es=>
    unfold aU at h2;obtain⟨a2,xs2,rfl,cv,hr2⟩:=h2;cases r2;obtain⟨its2,rv2,p2,hz2⟩:=I.list cv;have l1:its1.toArray.size=ds.length:=by rw[QD,←rv1.length,hr1.length]
    have l2:its2.toArray.size=es.length:=by rw[QD,←rv2.length,hr2.length]
    have k1:xs1.length=ds.length:=hr1.length.symm;have k2:xs2.length=es.length:=hr2.length.symm;have he:∀j (h1:j<its1.toArray.size) (h2:j<its2.toArray.size),Sm A.in1 s its1.toArray[j] its2.toArray[j] (dM ds es j):=λj g1 g2=>by
     have q1:ds[j]? = some ds[j]:=Qy (by lia);have q2:es[j]? = some es[j]:=Qy (by lia);have e1:xs1[j]? = some xs1[j]:=Qy (by lia);have e2:xs2[j]? = some xs2[j]:=Qy (by lia);obtain⟨u1,z1,w1⟩:=rv1.get e1;obtain⟨u2,z2,w2⟩:=rv2.get e2;have y1:its1.toArray[j]=u1:=by
      obtain⟨_,q⟩:=QH.mp z1;simpa using q
     have y2:its2.toArray[j]=u2:=by
      obtain⟨_,q⟩:=QH.mp z2;simpa using q
     rw[y1,y2];have:dM ds es j=fk ds[j] es[j]:=by unfold dM;rw[q1,q2]
     rw[this];have dl:=fM q1;unfold bP at hd;exact qb I (n-1) ds[j] es[j] xs1[j] xs2[j] u1 u2 A.in1 (by lia) (by show A.units+1+(n-1)<Tj;lia) (hr1.get q1 e1) (hr2.get q2 e2) w1 w2
    unfold fk;by_cases hl:ds.length=es.length
    ·have q:=SeqAt.RcAt.lists (A:=A) p1.isList p2.isList (by rw[l1,l2,hl]) el he;rw[l1] at q;have z:=gq ds es;rw[hl,Nat.min_self,beq_self_eq_true,Bool.and_true] at z;rw[hl,z] at q;exact q
    ·rw[qa hl];exact Up (A:=A) p1.isList p2.isList (by rw[l1,l2];simpa using hl) el
theorem Bt (I:aG X pins σ H s)(n:Nat)(d1 d2:D)(x y:V)(u v:QG)(A:Rk)(hd:bP d1<=n)(hu:A.units+n<Tj)(h1:aU X.K H d1 x)(h2:aU X.K H d2 y)(r1:bc x u)(r2:bc y v):SeqAt.RcNeAt A s u v (!fk d1 d2):=by
  have el:A.units<Tj:=(by lia)
  cases d1 with
  |non=>
   unfold aU at h1;subst h1;cases r1;cases d2 with
   |non=>
    unfold aU at h2;subst h2;cases r2;exact SeqAt.RcNeAt.none_none
   |bl b2=>
    unfold aU at h2;subst h2;cases r2;exact SeqAt.RcNeAt.none_bool b2
   |int b2=>
    unfold aU at h2;subst h2;obtain⟨t2,rfl⟩:=r2;exact SeqAt.RcNeAt.none_int b2 t2
   |str b2=>
    unfold aU at h2;subst h2;obtain⟨t2,rfl⟩:=r2;exact SeqAt.RcNeAt.none_str b2 t2
   |tup es=>
    unfold aU at h2;obtain⟨a2,xs2,rfl,cv,hr2⟩:=h2;cases r2;obtain⟨its2,rv2,p2,hz2⟩:=I.tuple cv;exact SeqAt.RcNeAt.none_tuple p2 el
   |lst es=>
    unfold aU at h2;obtain⟨a2,xs2,rfl,cv,hr2⟩:=h2;cases r2;obtain⟨its2,rv2,p2,hz2⟩:=I.list cv;exact SeqAt.RcNeAt.none_list p2.isList el
  |bl b1=>
   unfold aU at h1;subst h1;cases r1;cases d2 with
   |non=>
    unfold aU at h2;subst h2;cases r2;exact SeqAt.RcNeAt.bool_none b1
   |bl b2=>
    unfold aU at h2;subst h2;cases r2;exact SeqAt.RcNeAt.bool_bool b1 b2
   |int b2=>
    unfold aU at h2;subst h2;obtain⟨t2,rfl⟩:=r2;exact SeqAt.RcNeAt.bool_int b1 b2 t2
   |str b2=>
    unfold aU at h2;subst h2;obtain⟨t2,rfl⟩:=r2;exact SeqAt.RcNeAt.bool_str b1 b2 t2
   |tup es=>
    unfold aU at h2;obtain⟨a2,xs2,rfl,cv,hr2⟩:=h2;cases r2;obtain⟨its2,rv2,p2,hz2⟩:=I.tuple cv;exact SeqAt.RcNeAt.bool_tuple b1 p2 el
   |lst es=>
    unfold aU at h2;obtain⟨a2,xs2,rfl,cv,hr2⟩:=h2;cases r2;obtain⟨its2,rv2,p2,hz2⟩:=I.list cv;exact SeqAt.RcNeAt.bool_list b1 p2.isList el
  |int b1=>
   unfold aU at h1;subst h1;obtain⟨t1,rfl⟩:=r1;cases d2 with
   |non=>
    unfold aU at h2;subst h2;cases r2;exact SeqAt.RcNeAt.int_none b1 t1
   |bl b2=>
    unfold aU at h2;subst h2;cases r2;exact SeqAt.RcNeAt.int_bool b1 t1 b2
   |int b2=>
    unfold aU at h2;subst h2;obtain⟨t2,rfl⟩:=r2;exact SeqAt.RcNeAt.int_int b1 t1 b2 t2
   |str b2=>
    unfold aU at h2;subst h2;obtain⟨t2,rfl⟩:=r2;exact SeqAt.RcNeAt.int_str b1 t1 b2 t2
   |tup es=>
    unfold aU at h2;obtain⟨a2,xs2,rfl,cv,hr2⟩:=h2;cases r2;obtain⟨its2,rv2,p2,hz2⟩:=I.tuple cv;exact SeqAt.RcNeAt.int_tuple b1 t1 p2 el
   |lst es=>
    unfold aU at h2;obtain⟨a2,xs2,rfl,cv,hr2⟩:=h2;cases r2;obtain⟨its2,rv2,p2,hz2⟩:=I.list cv;exact SeqAt.RcNeAt.int_list b1 t1 p2.isList el
  |str b1=>
   unfold aU at h1;subst h1;obtain⟨t1,rfl⟩:=r1;cases d2 with
   |non=>
    unfold aU at h2;subst h2;cases r2;exact SeqAt.RcNeAt.str_none b1 t1
   |bl b2=>
    unfold aU at h2;subst h2;cases r2;exact SeqAt.RcNeAt.str_bool b1 t1 b2
   |int b2=>
    unfold aU at h2;subst h2;obtain⟨t2,rfl⟩:=r2;exact SeqAt.RcNeAt.str_int b1 t1 b2 t2
   |str b2=>
    unfold aU at h2;subst h2;obtain⟨t2,rfl⟩:=r2;exact SeqAt.RcNeAt.str_str b1 t1 b2 t2
   |tup es=>
    unfold aU at h2;obtain⟨a2,xs2,rfl,cv,hr2⟩:=h2;cases r2;obtain⟨its2,rv2,p2,hz2⟩:=I.tuple cv;exact SeqAt.RcNeAt.str_tuple b1 t1 p2 el
   |lst es=>
    unfold aU at h2;obtain⟨a2,xs2,rfl,cv,hr2⟩:=h2;cases r2;obtain⟨its2,rv2,p2,hz2⟩:=I.list cv;exact SeqAt.RcNeAt.str_list b1 t1 p2.isList el
  |tup ds=>
   unfold aU at h1;obtain⟨a1,xs1,rfl,hs1,hr1⟩:=h1;cases r1;obtain⟨its1,rv1,p1,hz1⟩:=I.tuple hs1;cases d2 with
   |non=>
    unfold aU at h2;subst h2;cases r2;exact SeqAt.RcNeAt.tuple_none p1 el
   |bl b2=>
    unfold aU at h2;subst h2;cases r2;exact SeqAt.RcNeAt.tuple_bool b2 p1 el
   |int b2=>
    unfold aU at h2;subst h2;obtain⟨t2,rfl⟩:=r2;exact SeqAt.RcNeAt.tuple_int b2 t2 p1 el
   |str b2=>
    unfold aU at h2;subst h2;obtain⟨t2,rfl⟩:=r2;exact SeqAt.RcNeAt.tuple_str b2 t2 p1 el
   |tup es=>
    unfold aU at h2;obtain⟨a2,xs2,rfl,cv,hr2⟩:=h2;cases r2;obtain⟨its2,rv2,p2,hz2⟩:=I.tuple cv;have l1:its1.toArray.size=ds.length:=by rw[QD,←rv1.length,hr1.length]
    have l2:its2.toArray.size=es.length:=by rw[QD,←rv2.length,hr2.length]
    have k1:xs1.length=ds.length:=hr1.length.symm;have k2:xs2.length=es.length:=hr2.length.symm;have he:∀j (h1:j<its1.toArray.size) (h2:j<its2.toArray.size),Sm A.in1 s its1.toArray[j] its2.toArray[j] (dM ds es j):=λj g1 g2=>by
     have q1:ds[j]? = some ds[j]:=Qy (by lia);have q2:es[j]? = some es[j]:=Qy (by lia);have e1:xs1[j]? = some xs1[j]:=Qy (by lia);have e2:xs2[j]? = some xs2[j]:=Qy (by lia);obtain⟨u1,z1,w1⟩:=rv1.get e1;obtain⟨u2,z2,w2⟩:=rv2.get e2;have y1:its1.toArray[j]=u1:=by
      obtain⟨_,q⟩:=QH.mp z1;simpa using q
     have y2:its2.toArray[j]=u2:=by
      obtain⟨_,q⟩:=QH.mp z2;simpa using q
     rw[y1,y2];have:dM ds es j=fk ds[j] es[j]:=by unfold dM;rw[q1,q2]
     rw[this];have dl:=fM q1;unfold bP at hd;exact qb I (n-1) ds[j] es[j] xs1[j] xs2[j] u1 u2 A.in1 (by lia) (by show A.units+1+(n-1)<Tj;lia) (hr1.get q1 e1) (hr2.get q2 e2) w1 w2
    have q:=SeqAt.RcNeAt.tuples (A:=A) p1 p2 el he;rw[l1,l2,gq] at q;unfold fk;exact q
   |lst es=>
    unfold aU at h2;obtain⟨a2,xs2,rfl,cv,hr2⟩:=h2;cases r2;obtain⟨its2,rv2,p2,hz2⟩:=I.list cv;exact SeqAt.RcNeAt.tuple_list p1 p2.isList el
  |lst ds=>
   unfold aU at h1;obtain⟨a1,xs1,rfl,hs1,hr1⟩:=h1;cases r1;obtain⟨its1,rv1,p1,hz1⟩:=I.list hs1;cases d2 with
   |non=>
    unfold aU at h2;subst h2;cases r2;exact SeqAt.RcNeAt.list_none p1.isList el
   |bl b2=>
    unfold aU at h2;subst h2;cases r2;exact SeqAt.RcNeAt.list_bool b2 p1.isList el
   |int b2=>
    unfold aU at h2;subst h2;obtain⟨t2,rfl⟩:=r2;exact SeqAt.RcNeAt.list_int b2 t2 p1.isList el
   |str b2=>
    unfold aU at h2;subst h2;obtain⟨t2,rfl⟩:=r2;exact SeqAt.RcNeAt.list_str b2 t2 p1.isList el
   |tup es=>
    unfold aU at h2;obtain⟨a2,xs2,rfl,cv,hr2⟩:=h2;cases r2;obtain⟨its2,rv2,p2,hz2⟩:=I.tuple cv;exact SeqAt.RcNeAt.list_tuple p1.isList p2 el
   |lst es=>
    unfold aU at h2;obtain⟨a2,xs2,rfl,cv,hr2⟩:=h2;cases r2;obtain⟨its2,rv2,p2,hz2⟩:=I.list cv;have l1:its1.toArray.size=ds.length:=by rw[QD,←rv1.length,hr1.length]
    have l2:its2.toArray.size=es.length:=by rw[QD,←rv2.length,hr2.length]
    have k1:xs1.length=ds.length:=hr1.length.symm;have k2:xs2.length=es.length:=hr2.length.symm;have he:∀j (h1:j<its1.toArray.size) (h2:j<its2.toArray.size),Sm A.in1 s its1.toArray[j] its2.toArray[j] (dM ds es j):=λj g1 g2=>by
     have q1:ds[j]? = some ds[j]:=Qy (by lia);have q2:es[j]? = some es[j]:=Qy (by lia);have e1:xs1[j]? = some xs1[j]:=Qy (by lia);have e2:xs2[j]? = some xs2[j]:=Qy (by lia);obtain⟨u1,z1,w1⟩:=rv1.get e1;obtain⟨u2,z2,w2⟩:=rv2.get e2;have y1:its1.toArray[j]=u1:=by
      obtain⟨_,q⟩:=QH.mp z1;simpa using q
     have y2:its2.toArray[j]=u2:=by
      obtain⟨_,q⟩:=QH.mp z2;simpa using q
     rw[y1,y2];have:dM ds es j=fk ds[j] es[j]:=by unfold dM;rw[q1,q2]
     rw[this];have dl:=fM q1;unfold bP at hd;exact qb I (n-1) ds[j] es[j] xs1[j] xs2[j] u1 u2 A.in1 (by lia) (by show A.units+1+(n-1)<Tj;lia) (hr1.get q1 e1) (hr2.get q2 e2) w1 w2
    unfold fk;by_cases hl:ds.length=es.length
    ·have q:=SeqAt.RcNeAt.lists (A:=A) p1.isList p2.isList (by rw[l1,l2,hl]) el he;rw[l1] at q;have z:=gq ds es;rw[hl,Nat.min_self,beq_self_eq_true,Bool.and_true] at z;rw[hl,z] at q;exact q
    ·rw[qa hl];exact SeqAt.RcNeAt.lists_lengths (A:=A) p1.isList p2.isList (by rw[l1,l2];simpa using hl) el
def HL (K:QB)(f:Bool->Bool):R2:=λx y H Q=>∃d1 d2,aU K H d1 x/\aU K H d2 y/\bP d1<=30/\Q (.bl (f (fk d1 d2))) H
theorem c_ (hu:X.A.units+64<Tj):iY X (RD .Eq) (HL X.K id):=by
 intro pins s σ H x y v u Q I rx ry h;obtain⟨d1,d2,h1,h2,hd,q⟩:=h;exact HK I 30 d1 d2 x y v u X.A hd (by lia) h1 h2 rx ry X.prog X.w X.xe _ ⟨.bl _,H,I,rfl,q⟩
theorem Bu (hu:X.A.units+64<Tj):iY X (RD .NotEq) (HL X.K not):=by
 intro pins s σ H x y v u Q I rx ry h;obtain⟨d1,d2,h1,h2,hd,q⟩:=h;exact Bt I 30 d1 d2 x y v u X.A hd (by lia) h1 h2 rx ry X.prog X.w X.xe _ ⟨.bl _,H,I,rfl,q⟩
end L2
namespace L2
noncomputable def iD (n m:String):Bool:=(n==m)||(n=="bool"&&m=="int")
theorem Ko (K:QB){n m:String}(hn:n∈["NoneType","bool","int","str","list","tuple","dict"])(hm:m∈["bool","int","str","list","tuple","dict"]) :
  RG K (.type n) (.type m)=some (iD n m):=by
 simp only[QN,Sk,or_false] at hn hm;rcases hn with rfl|rfl|rfl|rfl|rfl|rfl|rfl<;>rcases hm with rfl|rfl|rfl|rfl|rfl|rfl<;>kernel_rfl
inductive wG (K:QB)(H:Hp):V->String->Prop where
 |non:wG K H .non "NoneType"
 |bl (x:Bool):wG K H (.bl x) "bool"
 |int (i:Int):wG K H (.int i) "int"
 |str (x:Str):wG K H (.str x) "str"
 |lst {a:QX} {xs:List V} (e:H a=some (.lst xs)):wG K H (.ref a) "list"
 |frz {a:QX} {o:Obj} {xs:List V} (e:H a=some (.frz o (.lst xs))):wG K H (.ref a) "list"
 |tup {a:QX} {xs:List V} (e:H a=some (.tup xs)):wG K H (.ref a) "tuple"
 |dK {a:QX} {bA:List (Key×V)} (e:H a=some (.dK bA)):wG K H (.ref a) "dict"
 |dT {a:QX} {bA:List (List Key×V)} (e:H a=some (.dT bA)):wG K H (.ref a) "dict"
theorem wG.mem {x:V}{n:String}(h:wG K H x n):n∈["NoneType","bool","int","str","list","tuple","dict"]:=by
 cases h<;>simp
theorem wG.ty {x:V}{n:String}(h:wG K H x n):mZ K H x (.type n):=by
 cases h with
 |non=>exact .non
 |bl=>exact .bl _
 |int=>exact .int _
 |str=>exact .str _
 |lst e=>exact .lst e
 |frz e=>exact .frz e
 |tup e=>exact .tup e
 |dK e=>exact .dK e
 |dT e=>exact .dT e
theorem vc {m:String}(hm:m∈["bool","int","str","list","tuple","dict"]):fj X (.builtin "isinstance") (λxs H Q=>∃x n,xs=[x,.ty m]/\wG X.K H x n/\Q (.bl (iD n m)) H):=by
 intro pins s σ H xs us Q I r h;obtain⟨x,n,rfl,ty,q⟩:=h;obtain⟨u,w',rfl,rx,rt⟩:=xZ r;cases rt;exact zz I rx ty.ty (Ko X.K ty.mem hm) λtk=>⟨.bl _,H,I.tok tk,rfl,q⟩
theorem vd:fj X (.type "range") (λxs H Q=>∃j,xs=[.int j]/\∀p,H p=none->Q (.ref p) (cE H p (.rng 0 j))):=by
 intro pins s σ H xs us Q I r h;obtain⟨j,rfl,q⟩:=h;obtain⟨u,rfl,rx⟩:=jG r;obtain⟨t,rfl⟩:=rx;refine call_range_1 ⟨.ref s.heap.objs.size,cE H s.heap.objs.size (.rng 0 j),I.laid (λb u e=>QF _ e) (QJ _) ?_,rfl,q _ (I.hok.fresh (QJ _))⟩;exact⟨_,_,_,QS _ rfl⟩
theorem wY {a:Int}{ej:Array QG}(h:ItemsOf (λi v=>∃t,v=Value.int (a+i*1) t) ej n):a8 ((RL n).map λi=>V.int (a+(i:Nat))) ej.toList:=by
 obtain⟨hs,hi⟩:=h;have gen:∀(l:List QG) (k:Nat),(∀(i:Nat) v,l[i]? = some v->∃t,v=Value.int (a+((k+i:Nat):Int)*1) t)->a8 ((List.range' k l.length).map λi=>V.int (a+(i:Nat))) l:=by
  intro l
  induction l with
  |nil=>intro k _;exact .nil
  |cons v r ih=>
   intro k hk;rw[QL,List.range'_succ,Rb];refine .cons ?_ (ih (k+1) λi v e=>?_)
   ·obtain⟨t,e⟩:=hk 0 v rfl;exact⟨t,by rw[e];simp⟩
   ·obtain⟨t,e'⟩:=hk (i+1) v (by simpa using e);refine⟨t,?_⟩;rw[e',show k+(i+1)=k+1+i by lia]
 have q:=gen ej.toList 0 (λi v e=>by
  obtain⟨t,e'⟩:=hi i v (by simpa using e);exact⟨t,by rw[e',Nat.zero_add]⟩)
 rw[S4,hs] at q;rw[List.range_eq_range'];exact q
theorem rP (hc:X.calm=true):fj X (.type "list") (λxs H Q=>∃p lo hi,xs=[.ref p]/\H p=some (.rng lo hi)/\(-(2 ^ 62)<=lo/\lo<2 ^ 62/\ -(2 ^ 62)<=hi/\hi<2 ^ 62)/\(hi-lo).toNat<=2 ^ 20/\
  ∀l,H l=none->Q (.ref l) (cE H l (.lst ((RL (hi-lo).toNat).map λi=>V.int (lo+(i:Nat)))))):=by
 intro pins s σ H xs us Q I r h;obtain⟨p,lo,hi,rfl,hp,⟨h1,h2,h3,h4⟩,hz,q⟩:=h;obtain⟨u,rfl,rx⟩:=jG r;cases rx;obtain⟨t,u,v,e⟩:=I.hok p _ hp;refine call_list_range (n:=(hi-lo).toNat) (I.ok.hd hc) (c:=1) (show IsRange s.heap p lo hi 1 t u v from e) (small_one h1 h2 h3 h4) (by rw[rangeSize_one];split<;>lia) (by lia) λh' tk ND c' hk O_ Jj=>?_;have hl:((RL (hi-lo).toNat).map λi=>V.int (lo+(i:Nat))).length<=QC:=by
  rw[QI,SQ,S5];lia
 refine⟨.ref s.heap.objs.size,_,I.laid hk (QJ _) (show bU X.prog X.w _ _ _ (.lst _) from ⟨hl,ND.toList,c',wY Jj,by simpa using O_⟩),rfl,q _ (I.hok.fresh (QJ _))⟩
def Bv (i j:Int):Prop:=0<j/\j<18446744073709551616
theorem wZ (h:n<18446744073709551616):n.log2<9000:=by
 by_cases h0:n=0
 ·subst h0;decide
 ·have:=(Nat.log2_lt h0 (k:=64)).mpr (by lia);lia
theorem sF:iY X (Sr .FloorDiv) (rI Bv λi j=>.int (i / j)):=LS λi j _ _ _ _ _ hc q=>by
 refine floordiv_int (by have:=hc.1;lia) ?_ (.inl (PyProof.noPylong_of_log2 (wZ (by have:=hc.1;have:=hc.2;lia))));rw[Int.fdiv_eq_ediv_of_nonneg _ (by have:=hc.1;lia)];exact q
theorem yc:Ra "list"=some (.type "list"):=by decide+kernel
theorem eC:Ra "tuple"=some (.type "tuple"):=by decide+kernel
theorem tP:Ra "int"=some (.type "int"):=by decide+kernel
theorem pB:Ra "bool"=some (.type "bool"):=by decide+kernel
theorem HM:Ra "str"=some (.type "str"):=by decide+kernel
theorem Bw:Ra "range"=some (.type "range"):=by decide+kernel
theorem cf:Ra "len"=some (.builtin "len"):=by decide+kernel
theorem Bx:Ra "max"=some (.builtin "max"):=by decide+kernel
theorem By:Ra "min"=some (.builtin "min"):=by decide+kernel
theorem iT:Ra "isinstance"=some (.builtin "isinstance"):=by decide+kernel
theorem nj:Ra "sorted"=some (.builtin "sorted"):=by decide+kernel
theorem HN:Ra "all"=some (.builtin "all"):=by decide+kernel
theorem HP:Ra "sum"=some (.builtin "sum"):=by decide+kernel
end L2
namespace HT
open L2
section
variable {prog:RF}{w:Rx}{A:Rk}
theorem getItem_tuple_whole {t sl:QX}{items:Array QG}{vl vu:QG}(ht:IsTup s.heap t items)(hs:s.heap.IsSliceOf sl vl vu .none)(pl:IsPart vl lo)(pu:IsPart vu hi)(hw:sIx items.size 0 lo=0/\sIx items.size items.size hi=items.size)(h:Q (.ref t) s):Q2 (Q7 prog w) A (getItem (.ref t) (.ref sl)) Q E s:=by
 obtain⟨os,hos,hcs,hds⟩:=id hs;have Nm:s.TypeIs (.ref sl) "slice":=⟨os,hos,hcs⟩;unfold getItem
 try with_reducible refine R3 ?_
 first|refine Qz (QR ?_)|skip
 refine Qz (wpAny_sequenceKey ht.typeIs (by decide) ?_);refine Qz (RI (name:=QM "__getitem__") ht.typeIs RO
  (R1 RO ht.typeIs entry_tuple_getitem ?_ (args_tuple_getitem _ _)))
 show Q2 _ _ (T2 (.ref t) >>= _) _ _ s;refine Qz (tupleItemsOf_ ht ?_);refine Qz (wpAny_typeOf Nm ?_);rw[hV (by decide)];refine Qz (i0 hs pl pu ?_);obtain⟨w1,w2⟩:=hw;rw[w1,w2];show Q2 _ _ (if (((0:Nat):Int)==0&&(1:Int)==1&&(items.size-0)==items.size)=true then _ else _) _ _ s;rw[hV (by simp)];have JI:Q2 (Q7 prog w) A.in1 (T3 (.ref t)) (λb s'=>b=true/\s'=s) E s:=by
  unfold T3;exact Qz (wpAny_typeOf ht.typeIs (QR ⟨(by decide),rfl⟩))
 refine Qz (Rh JI (λb s' hb=>?_) λ_ _ e=>e);obtain⟨rfl,rfl⟩:=hb;rw[hV rfl];exact Qz (wpAny_rule (QR ⟨_,rfl,QR h⟩))
end
end HT
namespace L2
theorem qc {p:QX}(h:H p=none)(o:HO):aI H (cE H p o):=λb u q=>by rw[aL (bz q h)];exact q
end L2
namespace HT
open L2
end HT
namespace L2
def vf:V->List V->Hp->VK->Prop:=λx vs H Q=>∃l b xs zs,x=.ref l/\vs=[.ref b]/\H l=some (.lst xs)/\H b=some (.tup zs)/\xs.length+zs.length<=QC/\Q .non (cE H l (.lst (xs++zs)))
theorem w6:LV X "list.extend" vf:=by
 intro pins s σ H x vs v us Q I rx rv h;obtain⟨l,b,xs,zs,rfl,rfl,hH,hB,hz,q⟩:=h;cases rx;obtain⟨u,rfl,ru⟩:=rv.one;cases ru;obtain⟨z,ay,n,r,hl,e⟩:=I.lstM hH;obtain⟨z2,its2,r2,_,n2,e2⟩:=I.hok b _ hB;have Jm:=r2.length;have G0:ay.toArray.size+its2.toArray.size<=QC:=by rw[QD,QD];lia
 have wB:¬(!ay.toArray.isEmpty&&RS (ay.toArray.size+its2.toArray.size))=true:=by
  rw[p6 G0,Uh];exact QA
 refine TL T_ ⟨_,e,rfl⟩ TU (TC _ _)
  (AutoSeq1.list_extend_list_tuple_0 l ay.toArray n b its2.toArray n2 wB (by rw[QD];lia) (by lia)) ⟨e,e2,?_⟩
 refine⟨.non,_,I.lset (its':=ay++its2) hH e (by simp) (r.append r2) ?_,rfl,q⟩;rw[QE];lia
theorem ji:fj X (.builtin "sorted") (λxs H Q=>∃(p:QX) (ns:List Int),xs=[.ref p]/\(fi X.K H p (ns.map V.int)\/gL X.K H p (ns.map V.int))/\ns.length<64/\
  ∀(l:QX) (wJ:List Int),H l=none->wJ.Perm ns->wJ.Pairwise (·<=·)->Q (.ref l) (cE H l (.lst (wJ.map V.int)))):=by
 intro pins s σ H xs us Q I r h;obtain⟨p,ns,rfl,hq,h64,q⟩:=h;obtain⟨u,rfl,rx⟩:=jG r;cases rx;have src:∃(T:String) (o:Obj) (ay:List QG) (n:Nat),(T="list"\/T="tuple")/\s.heap.get? p=some o/\o.cls=.type T/\o.data=.seq ay.toArray n/\IntsAre ay ns:=by
  rcases hq with hq|hq
  ·obtain⟨ay,rv,pl,hz⟩:=I.list hq;obtain⟨o,e,c,n,d⟩:=pl.isList;exact⟨"list",o,ay,n,.inl rfl,e,c,d,g6 rv⟩
  ·obtain⟨ay,rv,pl,hz⟩:=I.tuple hq;obtain⟨o,e,c,n,d⟩:=pl;exact⟨"tuple",o,ay,n,.inr rfl,e,c,d,g6 rv⟩
 obtain⟨T,o,ay,n,hT,ho,hc,hd,hI⟩:=src;have iq:ay.length=ns.length:=hI.length;refine Calls.call_function_entry kind_sorted plain_sorted entry_sorted (args_sorted1 _) ?_;unfold Builtin.«sorted»;refine Qz (m:=checkCount "sorted" 1 1 _) (QR ?_);refine Qz (wpAny_collect_seq p hT ho hc hd (λh1 k1=>?_) (by rw[QD,S5];lia));refine Qz (wpAny_newList ?_);have Mg:(h1.push (seqObj "list" ay.toArray 0)).get? h1.objs.size=some (seqObj "list" ay.toArray 0):=QS _ rfl;have Jn:(h1.push {cls:=.type "list",data:=.seq (ay.toArray.toList).toArray}).get? h1.objs.size=some (seqObj "list" ay.toArray 0):=by simpa using Mg
 refine Qz (R3 (R1 slot_list_sort ⟨_,Jn,rfl⟩ entry_list_sort (list_sort_tree Jn hI (by lia) λout wJ a1 a2 a3=>⟨_,rfl,?_⟩) (args_list_sort _)));refine QR ⟨_,rfl,?_⟩;obtain⟨e,he⟩:=sortedHeap_at (out:=out) Jn;have keep:∀b o,h1.get? b=some o->(sortedHeap (h1.push {cls:=.type "list",data:=.seq (ay.toArray.toList).toArray}) h1.objs.size ay out).get? b=some o:=λb o e=>by
  have hb:=QO e;rw[sortedHeap_old (Q_ hb) (by rw[SW];exact Nat.lt_succ_of_lt hb)];exact QF _ e
 have I1:aG X pins σ H {s with heap:=h1}:=I.kept (t':=s.toks) k1;have Jm:(wJ.map V.int).length<=QC:=by rw[QI,a2.length_eq,S5];lia
 exact⟨.ref h1.objs.size,_,I1.laid (t':=s.toks) keep (QJ _) (show bU X.prog X.w _ _ _ (.lst _) from ⟨Jm,out.toList,e,nh a1,by simpa using he⟩),rfl,q _ wJ (I1.hok.fresh (QJ _)) a2 a3⟩
theorem zG {bs:List Bool}{us:List QG}(r:a8 (bs.map V.bl) us){v:QG}(h:us[i]? = some v):v=.bool (bs.getD i true):=by
 have hl:=r.length;rw[QI] at hl;obtain⟨hi,_⟩:=QH.mp h;have e:(bs.map V.bl)[i]? = some (V.bl (bs.getD i true)):=by
  rw[QV,Qy (by lia)];simp[Uq,Qy (show i<bs.length by lia)]
 obtain⟨u,hu,ru⟩:=r.get e;rw[h] at hu;cases hu;exact ru
theorem zH (bs:List Bool):((RL bs.length).all λi=>bs.getD i true)=bs.all id:=by
 induction bs with
 |nil=>rfl
 |cons b bs ih=>
  rw[QL,List.range_succ_eq_map,Td,List.all_map,Td];congr 1
theorem zI (hc:X.calm=true):fj X (.builtin "all") (λxs H Q=>∃(p:QX) (bs:List Bool),xs=[.ref p]/\fi X.K H p (bs.map V.bl)/\Q (.bl (bs.all id)) H):=by
 intro pins s σ H xs us Q I r h;obtain⟨p,bs,rfl,hq,q⟩:=h;obtain⟨u,rfl,rx⟩:=jG r;cases rx;obtain⟨ay,rv,pl,hz⟩:=I.list hq;have hl:=pl.isList;have uX:p<s.heap.objs.size:=by obtain⟨_,e,_⟩:=hl;exact QO e
 refine call_all_walk (Uj hl ?_);refine⟨s.heap.objs.size,_,_,_,_,_,λi=>bs.getD i true,rfl,Walks.list (A:=X.A.in1) (I.ok.hd hc) _ p (Q_ uX) ay.toArray,⟨⟨_,QS _ rfl,rfl,rfl⟩,hl.push _⟩,?_,λh' tk hk=>?_⟩
 ·intro i v s' Q' E' hP Pa;have e:=zG rv (i:=i) (v:=v) (by simpa using hP);subst e;exact RM Pa
 ·have e:(RL ay.toArray.size).all (λi=>bs.getD i true)=bs.all id:=by
   rw[QD,←rv.length,QI];exact zH bs
  rw[e];refine⟨.bl _,H,I.kept λb o e=>hk b o (λhm=>?_) (QF _ e),rfl,q⟩;rcases QN.mp hm with e1|hm
  ·exact absurd (e1▸QO e) (RT _)
  ·cases hm
def Bz (K:QB):V->Option Int->Option Int->Hp->VK->Prop:=λx lo hi H Q=>∃a xs,x=.ref a/\H a=some (.tup xs)/\∀r H',aI H H'->H' r=some (.tup (pZ xs lo hi))->Q (.ref r) H'
theorem EB:Bc X (Bz X.K):=by
 have base:Bc X (J_ X.K):=Hy;intro pins s σ H x v vl vu lo hi sl Q I rx hs pl pu h;obtain⟨a,xs,rfl,Lu,q⟩:=h;have hx:gL X.K H a xs:=gL.of Lu;by_cases hw:HT.sIx xs.length 0 lo=0/\HT.sIx xs.length xs.length hi=xs.length
 ·cases rx;obtain⟨ay,r,ht,hz⟩:=I.tuple hx;have hl:ay.toArray.size=xs.length:=by rw[QD,r.length]
  refine⟨"tuple",_,PyProof.Rows.slot_tuple_getitem.lookup,ht.typeIs,HT.getItem_tuple_whole ht hs pl pu (by rw[hl];exact hw) ⟨.ref a,H,I,rfl,q a H (aI.refl _) ?_⟩⟩;have e:pZ xs lo hi=xs:=by unfold pZ;rw[hw.1,hw.2];simp
  rw[e];exact Lu
 ·exact base pins s σ H _ v vl vu lo hi sl Q I rx hs pl pu ⟨a,xs,rfl,hx,hw,λp hp=>q p _ (qc hp _) aT⟩
def BA:R2:=λx y H Q=>∃a b xs ys,x=.ref a/\y=.ref b/\H a=some (.tup xs)/\H b=some (.tup ys)/\xs.length+ys.length<=QC/\∀r H',aI H H'->H' r=some (.tup (xs++ys))->Q (.ref r) H'
theorem BB:iY X (Sr .Add) BA:=by
 intro pins s σ H x y v u Q I rx ry h;obtain⟨a,b,xs,ys,rfl,rfl,LC,hb',hz,q⟩:=h;have ha:gL X.K H a xs:=gL.of LC;have hb:gL X.K H b ys:=gL.of hb';by_cases hx:xs=[]
 ·subst hx;cases rx;cases ry;obtain⟨ay,r1,p1,_⟩:=I.tuple ha;obtain⟨its2,r2,p2,_⟩:=I.tuple hb;have e1:ay=[]:=(a8.nil_iff r1).mpr rfl;subst e1;obtain⟨⟨cls,dd,data,sl⟩,ho,hc,n,hd⟩:=id p1;obtain⟨⟨cls2,dd2,data2,sl2⟩,ho2,hc2,n2,Jt⟩:=id p2;simp only at hc hd hc2 Jt;subst hc hd hc2 Jt;exact concat_meets ⟨_,ho,rfl⟩ ⟨_,ho2,rfl⟩ noFill_tuple_add seq_tuple_add To Tc (S8 _ _)
   (tuple_addW0 a b ([]:List QG).toArray its2.toArray n n2 dd dd2 sl sl2 (by simp)) ⟨ho,ho2,⟨.ref b,H,I,rfl,q b H (aI.refl _) (by simpa using hb')⟩⟩
 ·refine En pins s σ H _ _ v u Q I rx ry ⟨a,b,xs,ys,rfl,rfl,ha,hb,hx,hz,λe=>?_,λ_ p hp=>q p _ (qc hp _) aT⟩;subst e;exact q a H (aI.refl _) (by simpa using LC)
end L2
namespace L2
structure Fn (P:RF)(w:Rx)(K:QB)(mg:Str->Option QG)(base:S2)(x:Str)(k:Nat)(ps:List Str)(sp:Sp):Prop where
 ex:∃(f:QX) (fd:Sq),mg x=some (.ref f)/\Rv K (.ref f)=true/\jH K fd ps []/\iZ P w K mg base tM k f fd ps sp
structure Df (K:QB)(mg:Str->Option QG)(x:Str)(st:Si):Prop where
 ex:∃(f:QX) (fd:Sq),mg x=some (.ref f)/\D1 K x x st f fd
section
variable {w:Rx}
theorem Df.fn {st:Si}(d:Df K mg x st)(S:aE N ps (ao st))(hb:∀(kV kq pm:QG) (an:Option QX) (bh ct:QG) (us:List QG),us.length=ps.length->bindArgs (Rt x x (eK st) (bV st) (ao st) .none kV kq pm an bh ct) ⟨us,[]⟩=pure (ps.zip us))(len:∀vs H Q E,sp vs H Q E->vs.length=ps.length)(fE:∀(f:QX) (bh:QG) (A:Rk) (outer:List Env) (s:QP) (H:Hp) (vs:List V) (Q:VK) (E:XK),et k (A.deeper (RQ x (ao st) s.heap.objs.size f bh))->sp vs H Q E->
   ∃t,pj (iF tM P w K mg base N x (ao st) f bh A outer s H E).nox (bV st) t/\t {nx:=λ_ H'=>Q .non H',rt:=Q} (dJ N vs) H):Fn P w K mg base x (k+1) ps sp:=by
 obtain⟨f,fd,m,F⟩:=d.ex;exact⟨f,fd,m,F.kp,F.binds hb,F.ok S len (fE f)⟩
end
section
variable {p:Pos}{e:RP}{t:TA}
theorem vg (F:Fn X.prog X.w X.K X.mg X.base x k ps sp)(hr:et k X.A)(ha:PA X (e::es) t)(hg:Gl X x:=by rfl)(uN:(x==("__debug__":Str))=false:=by decide)
  (he:QK (e::es) X.env=(false,Sv e X.env)::QK es X.env:=by rfl) (mU:(Sd pos (QK es X.env)).any (·.1)=false:=by rfl) :
  PE X (.Call (.Name x p) (e::es) [] pos) (Ba sp [] E0 t):=by
 obtain⟨f,fd,hm,hk,hb,G⟩:=F.ex;exact Ej G hr hg hm hk hb .nil Kg ha uN he mU
end
theorem aI.seqT (e:aI H H')(h:gL K H a xs):gL K H' a xs:=by
 rcases h with (h|⟨o,h⟩)|h
 ·exact .inl (.inl (e _ _ h))
 ·exact .inl (.inr ⟨o,e _ _ h⟩)
 ·exact .inr h
mutual
theorem aI.rep {K:QB}{H H':Hp}(e:aI H H'):∀{d:D} {v:V},aU K H d v->aU K H' d v
 | .non,v,h=>by unfold aU at h ⊢;exact h
 | .bl b,v,h=>by unfold aU at h ⊢;exact h
 | .int b,v,h=>by unfold aU at h ⊢;exact h
 | .str b,v,h=>by unfold aU at h ⊢;exact h
 | .tup ds,v,h=>by
  unfold aU at h ⊢;obtain⟨a,xs,r,q,z⟩:=h;exact⟨a,xs,r,e.seqT q,aI.reps e z⟩
 | .lst ds,v,h=>by
  unfold aU at h ⊢;obtain⟨a,xs,r,q,z⟩:=h;exact⟨a,xs,r,e.seq q,aI.reps e z⟩
theorem aI.reps {K:QB}{H H':Hp}(e:aI H H'):∀{ds:List D} {vs:List V},fK K H ds vs->fK K H' ds vs
 | [],vs,h=>by unfold fK at h ⊢;exact h
 |d::ds,vs,h=>by
  unfold fK at h ⊢;obtain⟨x,r,q,p,z⟩:=h;exact⟨x,r,q,aI.rep e p,aI.reps e z⟩
end
end L2
namespace L2
inductive U where
 |non|bl (b:Bool)|int (i:Int)|str (x:Str)|tup (xs:List U)|lst (xs:List U)|dct (ks vs:List U)|scr (xs:List U)
instance:Inhabited U:=⟨.non⟩
inductive R (α:Type) where
 |ok (a:α)|exc (c:String) (u:U)|stk
noncomputable def R.bind {α β:Type}:R α->(α->R β)->R β
 | .ok a,f=>f a
 | .exc c u,_=>.exc c u
 | .stk,_=>.stk
noncomputable abbrev Ev:=List (Option U)
inductive SR where
 |nx (ρ:Ev)|rt (u:U) (ρ:Ev)|bk (ρ:Ev)|ct (ρ:Ev)|exc (c:String) (u:U)|stk
end L2
variable {us ws:List L2.U}{p:L2.U->L2.U->L2.R L2.U}{ρ ρ1:L2.Ev}{sg:L2.U->L2.Ev->L2.R L2.Ev}
namespace L2
open Sem (wp)
mutual
noncomputable def tQ:U->U->Bool
 | .non,.non=>true
 | .bl a,.bl b=>decide (a=b)
 | .int a,.int b=>decide (a=b)
 | .str a,.str b=>decide (a=b)
 | .tup a,.tup b=>nk a b
 | .lst a,.lst b=>nk a b
 | .dct a b,.dct c d=>nk a c&&nk b d
 | .scr a,.scr b=>nk a b
 |_,_=>false
noncomputable def nk:List U->List U->Bool
 | [],[]=>true
 |x::xs,y::ys=>tQ x y&&nk xs ys
 |_,_=>false
end
mutual
theorem BC:∀{a b:U},tQ a b=true->a=b
 | .non,b,h=>by cases b<;>first|rfl|(unfold tQ at h;cases h)
 | .bl a,b,h=>by cases b<;>unfold tQ at h<;>first|(cases h;done)|rw[of_decide_eq_true h]
 | .int a,b,h=>by cases b<;>unfold tQ at h<;>first|(cases h;done)|rw[of_decide_eq_true h]
 | .str a,b,h=>by cases b<;>unfold tQ at h<;>first|(cases h;done)|rw[of_decide_eq_true h]
 | .tup a,b,h=>by cases b<;>unfold tQ at h<;>first|(cases h;done)|rw[kG h]
 | .lst a,b,h=>by cases b<;>unfold tQ at h<;>first|(cases h;done)|rw[kG h]
 | .scr a,b,h=>by cases b<;>unfold tQ at h<;>first|(cases h;done)|rw[kG h]
 | .dct a c,b,h=>by
  cases b<;>unfold tQ at h<;>first|(cases h;done)|skip
  rw[QU] at h;rw[kG h.1,kG h.2]
theorem kG:∀{a b:List U},nk a b=true->a=b
 | [],[],_=>rfl
 | [],_::_,h=>by unfold nk at h;cases h
 |_::_,[],h=>by unfold nk at h;cases h
 |x::xs,y::ys,h=>by
  unfold nk at h;rw[QU] at h;rw[BC h.1,kG h.2]
end
mutual
theorem vh:∀(a:U),tQ a a=true
 | .non=>rfl
 | .bl a=>by unfold tQ;exact hG rfl
 | .int a=>by unfold tQ;exact hG rfl
 | .str a=>by unfold tQ;exact hG rfl
 | .tup a=>by unfold tQ;exact gS a
 | .lst a=>by unfold tQ;exact gS a
 | .scr a=>by unfold tQ;exact gS a
 | .dct a b=>by unfold tQ;rw[gS a,gS b];rfl
theorem gS:∀(a:List U),nk a a=true
 | []=>by unfold nk;rfl
 |x::xs=>by unfold nk;rw[vh x,gS xs];rfl
end
noncomputable instance OL:DecidableEq U:=λa b=>if h:tQ a b=true then .isTrue (BC h) else .isFalse λe=>h (by rw[e];exact vh b)
mutual
def lT (h:S2):U->QG->Prop
 | .int i,v=>∃t,v=.int i t
 | .tup us,v=>∃a items,v=.ref a/\h.IsTuple a items/\iG h us items.toList
 |_,_=>False
def iG (h:S2):List U->List QG->Prop
 | [],vs=>vs=[]
 |u::us,vs=>∃v r,vs=v::r/\lT h u v/\iG h us r
end
mutual
noncomputable def hK:U->Int
 | .int i=>hashInt i
 | .tup us=>reduceHash (Builtin.Tuple.tupleHashOf (NZ us))
 |_=>0
noncomputable def NZ:List U->List Int
 | []=>[]
 |u::us=>hK u::NZ us
end
mutual
noncomputable def OM:U->Nat
 | .tup us=>Kp us+1
 |_=>1
noncomputable def Kp:List U->Nat
 | []=>0
 |u::us=>OM u+Kp us
end
mutual
noncomputable def ON:U->Nat
 | .tup us=>HQ us+1
 |_=>0
noncomputable def HQ:List U->Nat
 | []=>0
 |u::us=>max (ON u) (HQ us)
end
theorem w9 {x y:Array QG}(h1:h.IsTuple a x)(h2:h.IsTuple a y):x=y:=by
 obtain⟨o,e,_,n,d⟩:=h1;obtain⟨o',e',_,n',d'⟩:=h2;rw[e] at e';cases e';rw[d] at d';cases d';rfl
mutual
theorem lT.inj {h:S2}:∀{x y:U} {v:QG},lT h x v->lT h y v->x=y
 | .int i,y,v,h1,h2=>by
  unfold lT at h1;obtain⟨t,rfl⟩:=h1;cases y<;>unfold lT at h2<;>first|exact h2.elim|skip
  ·obtain⟨u,e⟩:=h2;cases e;rfl
  ·obtain⟨_,_,e,_⟩:=h2;cases e
 | .str i,y,v,h1,h2=>by unfold lT at h1;exact h1.elim
 | .tup us,y,v,h1,h2=>by
  unfold lT at h1;obtain⟨a,ay,rfl,q,z⟩:=h1;cases y<;>unfold lT at h2<;>first|exact h2.elim|skip
  ·obtain⟨u,e⟩:=h2;cases e
  ·obtain⟨a',its',e,q',z'⟩:=h2;cases e;have:=w9 q q';subst this;rw[iG.inj z z']
 | .non,y,v,h1,h2=>by unfold lT at h1;exact h1.elim
 | .bl _,y,v,h1,h2=>by unfold lT at h1;exact h1.elim
 | .lst _,y,v,h1,h2=>by unfold lT at h1;exact h1.elim
 | .dct _ _,y,v,h1,h2=>by unfold lT at h1;exact h1.elim
 | .scr _,y,v,h1,h2=>by unfold lT at h1;exact h1.elim
theorem iG.inj {h:S2}:∀{x y:List U} {vs:List QG},iG h x vs->iG h y vs->x=y
 | [],y,vs,h1,h2=>by
  unfold iG at h1;subst h1;cases y with
  |nil=>rfl
  |cons=>unfold iG at h2;obtain⟨_,_,e,_⟩:=h2;cases e
 |u::us,y,vs,h1,h2=>by
  unfold iG at h1;obtain⟨v,r,rfl,p,q⟩:=h1;cases y with
  |nil=>unfold iG at h2;cases h2
  |cons=>
   unfold iG at h2;obtain⟨v',r',e,p',q'⟩:=h2;cases e;rw[lT.inj p p',iG.inj q q']
end
mutual
theorem lT.keep {h h':S2}(k:∀a ay,h.IsTuple a ay->h'.IsTuple a ay):∀{x:U} {v:QG},lT h x v->lT h' x v
 | .int i,v,h1=>by unfold lT at h1 ⊢;exact h1
 | .str i,v,h1=>by unfold lT at h1;exact h1.elim
 | .tup us,v,h1=>by
  unfold lT at h1 ⊢;obtain⟨a,ay,e,q,z⟩:=h1;exact⟨a,ay,e,k a ay q,iG.keep k z⟩
 | .non,v,h1=>by unfold lT at h1;exact h1.elim
 | .bl _,v,h1=>by unfold lT at h1;exact h1.elim
 | .lst _,v,h1=>by unfold lT at h1;exact h1.elim
 | .dct _ _,v,h1=>by unfold lT at h1;exact h1.elim
 | .scr _,v,h1=>by unfold lT at h1;exact h1.elim
theorem iG.keep {h h':S2}(k:∀a ay,h.IsTuple a ay->h'.IsTuple a ay):∀{x:List U} {vs:List QG},iG h x vs->iG h' x vs
 | [],vs,h1=>by unfold iG at h1 ⊢;exact h1
 |u::us,vs,h1=>by
  unfold iG at h1 ⊢;obtain⟨v,r,e,p,q⟩:=h1;exact⟨v,r,e,lT.keep k p,iG.keep k q⟩
end
def OO (p:List U×QX×V)(q:List U×QX×QG):Prop:=p.1=q.1/\p.2.1=q.2.1/\bc p.2.2 q.2.2
noncomputable def MP (e:List U×QX×QG):DictEntry:=⟨hK (.tup e.1),.ref e.2.1,e.2.2⟩
def Kq (a:QX)(ep:Nat)(es:List (List U×QX×V))(h:S2):Prop:=(a==SM)=false/\∃o ds,∃xs:List (List U×QX×QG),h.get? a=some o/\o.ExactDict/\o.data=.dict ds ep/\Paired OO es xs/\ds.toList=xs.map MP
noncomputable def DN (a:QX)(ep:Nat)(es:List (List U×QX×V)):HO:=.ext (Kq a ep es)
mutual
def KH (H:Hp):U->V->Prop
 | .int i,v=>v=.int i
 | .tup us,v=>∃b ys,v=.ref b/\H b=some (.tup ys)/\us.length<=QC/\wH H us ys
 |_,_=>False
def wH (H:Hp):List U->List V->Prop
 | [],vs=>vs=[]
 |u::us,vs=>∃v r,vs=v::r/\KH H u v/\wH H us r
end
mutual
theorem KH.to {H H':Hp}(e:∀b ys,H b=some (.tup ys)->H' b=some (.tup ys)):∀{u:U} {v:V},KH H u v->KH H' u v
 | .int i,v,h=>by unfold KH at h ⊢;exact h
 | .tup us,v,h=>by
  unfold KH at h ⊢;obtain⟨b,ys,r,q,l,z⟩:=h;exact⟨b,ys,r,e b ys q,l,wH.to e z⟩
 | .non,v,h=>by unfold KH at h;exact h.elim
 | .bl _,v,h=>by unfold KH at h;exact h.elim
 | .str _,v,h=>by unfold KH at h;exact h.elim
 | .lst _,v,h=>by unfold KH at h;exact h.elim
 | .dct _ _,v,h=>by unfold KH at h;exact h.elim
 | .scr _,v,h=>by unfold KH at h;exact h.elim
theorem wH.to {H H':Hp}(e:∀b ys,H b=some (.tup ys)->H' b=some (.tup ys)):∀{us:List U} {vs:List V},wH H us vs->wH H' us vs
 | [],vs,h=>by unfold wH at h ⊢;exact h
 |u::us,vs,h=>by
  unfold wH at h ⊢;obtain⟨v,r,q,p,z⟩:=h;exact⟨v,r,q,KH.to e p,wH.to e z⟩
end
section
variable {w:Rx}
mutual
theorem KH.is (ok:jR P w H h):∀{u:U} {v:V} {x:QG},KH H u v->bc v x->lT h u x
 | .int i,v,x,k,r=>by
  unfold KH at k;subst k;obtain⟨t,rfl⟩:=r;unfold lT;exact⟨t,rfl⟩
 | .tup us,v,x,k,r=>by
  unfold KH at k;obtain⟨b,ys,rfl,q,_,z⟩:=k;cases r;obtain⟨_,ay,rv,it,_⟩:=ok b _ q;unfold lT;exact⟨b,ay.toArray,rfl,it,by simpa using wH.is ok z rv⟩
 | .non,v,x,k,r=>by unfold KH at k;exact k.elim
 | .bl _,v,x,k,r=>by unfold KH at k;exact k.elim
 | .str _,v,x,k,r=>by unfold KH at k;exact k.elim
 | .lst _,v,x,k,r=>by unfold KH at k;exact k.elim
 | .dct _ _,v,x,k,r=>by unfold KH at k;exact k.elim
 | .scr _,v,x,k,r=>by unfold KH at k;exact k.elim
theorem wH.is (ok:jR P w H h):∀{us:List U} {vs:List V} {xs:List QG},wH H us vs->a8 vs xs->iG h us xs
 | [],vs,xs,k,r=>by
  unfold wH at k;subst k;cases r;unfold iG;rfl
 |u::us,vs,xs,k,r=>by
  unfold wH at k;obtain⟨v,vr,rfl,p,z⟩:=k;cases r with
  |cons r1 r2=>
   unfold iG;exact⟨_,_,rfl,KH.is ok p r1,wH.is ok z r2⟩
end
def LY (H:Hp)(us:List U)(b:QX):Prop:=HQ us<=6/\∃ys,H b=some (.tup ys)/\us.length<=QC/\wH H us ys
theorem LY.to (e:∀b ys,H b=some (.tup ys)->H' b=some (.tup ys))(k:LY H us b):LY H' us b:=by
 obtain⟨l,ys,q,n,z⟩:=k;exact⟨l,ys,e b ys q,n,z.to e⟩
structure HU (H:Hp)(a:QX)(es:List (List U×QX×V)):Prop where
 ob:(∃ep,H a=some (DN a ep es))\/(es=[]/\H a=some (.dK []))
 nd:(es.map (·.1)).Nodup
 key:∀e∈es,LY H e.1 e.2.1
end
end L2
namespace L2
noncomputable def kU:Key->U
 | .inl i=>.int i
 | .inr x=>.str x
def D2 (H:Hp)(a:QX)(ks:List U)(xs:List V):Prop:=
 (∃bA:List (Key×V),H a=some (.dK bA)/\ks=bA.map (λp=>kU p.1)/\xs=bA.map (·.2)) \/
 ∃es:List (List U×QX×V),es≠[]/\HU H a es/\ks=es.map (λp=>.tup p.1)/\xs=es.map (·.2.2)
noncomputable abbrev Kr:=D2
theorem D2.at {ks:List U}(h:Kr H a ks xs):D2 H a ks xs:=h
theorem HU.ne {es:List (List U×QX×V)}(h:HU H a es)(n:es≠[]):∃ep,H a=some (DN a ep es):=by
 rcases h.ob with q|⟨e,_⟩
 ·exact q
 ·exact absurd e n
def EC (K:QB)(H:Hp)(a:QX)(xs:List V):Prop:=(∃o,H a=some (.frz o (.lst xs))) \/
  ∃(o:Obj) (ay:Array QG) (n:Nat),K.lookup a=some o/\o.cls=.type "list"/\o.dict=none/\o.data=.seq ay n/\ay.size<=QC/\a8 xs ay.toList
theorem EC.sq (h:EC K H a xs):fi K H a xs:=by
 rcases h with⟨o,h⟩|h
 ·exact .inl (.inr ⟨o,h⟩)
 ·exact .inr h
theorem EC.to (h:EC K H a xs)(e:∀o y,H a=some (.frz o y)->H' a=some (.frz o y)):EC K H' a xs:=by
 rcases h with⟨o,h⟩|h
 ·exact .inl ⟨o,e _ _ h⟩
 ·exact .inr h
mutual
def Rp (K:QB)(H:Hp)(A:QX->Prop):U->V->Prop
 | .non,v=>v=.non
 | .bl b,v=>v=.bl b
 | .int i,v=>v=.int i
 | .str x,v=>v=.str x
 | .tup us,v=>∃a xs,v=.ref a/\H a=some (.tup xs)/\us.length<=QC/\aR K H A us xs
 | .lst us,v=>∃a xs,v=.ref a/\¬A a/\H a=some (.lst xs)/\us.length<=QC/\aR K H A us xs
 | .dct ks us,v=>∃a xs,v=.ref a/\¬A a/\D2 H a ks xs/\us.length<=QC/\aR K H A us xs
 | .scr us,v=>∃a xs,v=.ref a/\EC K H a xs/\us.length<=QC/\aR K H A us xs
def aR (K:QB)(H:Hp)(A:QX->Prop):List U->List V->Prop
 | [],xs=>xs=[]
 |u::us,xs=>∃x r,xs=x::r/\Rp K H A u x/\aR K H A us r
end
def kW (K:QB)(H:Hp)(A:QX->Prop):U->QX->Prop
 | .lst us,a=>∃xs,H a=some (.lst xs)/\us.length<=QC/\aR K H A us xs
 | .dct ks us,a=>∃xs,Kr H a ks xs/\us.length<=QC/\aR K H A us xs
 |_,_=>False
def Pk (K:QB)(H:Hp)(A:QX->Prop):U->V->Prop
 | .non,v=>v=.non
 | .bl b,v=>v=.bl b
 | .int i,v=>v=.int i
 | .str x,v=>v=.str x
 | .tup us,v=>∃a xs,v=.ref a/\H a=some (.tup xs)/\us.length<=QC/\aR K H A us xs
 | .lst us,v=>∃a xs,v=.ref a/\H a=some (.lst xs)/\us.length<=QC/\aR K H A us xs
 | .dct ks us,v=>∃a xs,v=.ref a/\D2 H a ks xs/\us.length<=QC/\aR K H A us xs
 | .scr us,v=>∃a xs,v=.ref a/\EC K H a xs/\us.length<=QC/\aR K H A us xs
def Mu:Option HO->Prop
 |some (.lst _)=>True
 |some (.dK _)=>True
 |some (.dT _)=>True
 |some (.ext _)=>True
 |_=>False
theorem Mu.ex {o:Option HO}(h:Mu o):∃x,o=.some x:=by
 cases o with
 |none=>exact h.elim
 |some x=>exact⟨x,rfl⟩
def eD (A:QX->Prop)(H H':Hp):Prop:=∀b o,¬A b->H b=some o->H' b=some o
theorem eD.refl:eD A H H:=λ_ _ _ h=>h
theorem eD.trans (a:eD A H H1)(b:eD A H1 H2):eD A H H2:=λc o n h=>b c o n (a c o n h)
theorem eD.same (h:aI H H'):eD A H H':=λb o _ e=>h b o e
section
variable {A':QX->Prop}
theorem D2.ex {ks:List U}(h:D2 H a ks xs):∃o,H a=some o:=by
 rcases h with⟨k,h,_⟩|⟨k,n,h,_⟩
 ·exact⟨_,h⟩
 ·obtain⟨ep,q⟩:=h.ne n;exact⟨_,q⟩
theorem D2.to {ks:List U}(h:D2 H a ks xs)(e:∀o,H a=some o->H' a=some o)(t:∀b ys,H b=some (.tup ys)->H' b=some (.tup ys)):D2 H' a ks xs:=by
 rcases h with⟨k,h,z⟩|⟨k,n,h,z⟩
 ·exact .inl ⟨k,e _ h,z⟩
 ·exact .inr ⟨k,n,⟨h.ob.imp (fun⟨ep,q⟩=>⟨ep,e _ q⟩) (λq=>⟨q.1,e _ q.2⟩),h.nd,λy hy=>(h.key y hy).to t⟩,z⟩
mutual
theorem Rp.re (m:∀b,A b->Mu (H b))(e:eD A H H')(n:∀b,A' b->A b\/H b=none):∀{u:U} {v:V},Rp K H A u v->Rp K H' A' u v
 | .non,v,h=>by unfold Rp at h ⊢;exact h
 | .bl b,v,h=>by unfold Rp at h ⊢;exact h
 | .int b,v,h=>by unfold Rp at h ⊢;exact h
 | .str b,v,h=>by unfold Rp at h ⊢;exact h
 | .tup us,v,h=>by
  unfold Rp at h ⊢;obtain⟨a,xs,r,q,l,z⟩:=h;exact⟨a,xs,r,e a _ (λz=>by have:=m a z;rw[q] at this;exact this) q,l,aR.re m e n z⟩
 | .lst us,v,h=>by
  unfold Rp at h ⊢;obtain⟨a,xs,r,na,q,l,z⟩:=h;refine⟨a,xs,r,λy=>?_,e a _ na q,l,aR.re m e n z⟩;rcases n a y with y|y
  ·exact na y
  ·rw[q] at y;cases y
 | .scr us,v,h=>by
  unfold Rp at h ⊢;obtain⟨a,xs,r,q,l,z⟩:=h;exact⟨a,xs,r,q.to λo y w=>e a _ (λz=>by have:=m a z;rw[w] at this;exact this) w,l,aR.re m e n z⟩
 | .dct ks us,v,h=>by
  unfold Rp at h ⊢;obtain⟨a,xs,r,na,q,l,z⟩:=h;refine⟨a,xs,r,λy=>?_,q.to (λo w=>e a o na w) (λb ys w=>e b _ (λy=>by have:=m b y;rw[w] at this;exact this) w),l,aR.re m e n z⟩;obtain⟨o,w⟩:=q.ex;rcases n a y with y|y
  ·exact na y
  ·rw[w] at y;cases y
theorem aR.re (m:∀b,A b->Mu (H b))(e:eD A H H')(n:∀b,A' b->A b\/H b=none):∀{us:List U} {vs:List V},aR K H A us vs->aR K H' A' us vs
 | [],vs,h=>by unfold aR at h ⊢;exact h
 |u::us,vs,h=>by
  unfold aR at h ⊢;obtain⟨x,r,q,p,z⟩:=h;exact⟨x,r,q,Rp.re m e n p,aR.re m e n z⟩
end
mutual
theorem Rp.mono (n:∀b,A' b->A b):∀{u:U} {v:V},Rp K H A u v->Rp K H A' u v
 | .non,v,h=>by unfold Rp at h ⊢;exact h
 | .bl b,v,h=>by unfold Rp at h ⊢;exact h
 | .int b,v,h=>by unfold Rp at h ⊢;exact h
 | .str b,v,h=>by unfold Rp at h ⊢;exact h
 | .tup us,v,h=>by
  unfold Rp at h ⊢;obtain⟨a,xs,r,q,l,z⟩:=h;exact⟨a,xs,r,q,l,aR.mono n z⟩
 | .lst us,v,h=>by
  unfold Rp at h ⊢;obtain⟨a,xs,r,na,q,l,z⟩:=h;exact⟨a,xs,r,λy=>na (n a y),q,l,aR.mono n z⟩
 | .scr us,v,h=>by
  unfold Rp at h ⊢;obtain⟨a,xs,r,q,l,z⟩:=h;exact⟨a,xs,r,q,l,aR.mono n z⟩
 | .dct ks us,v,h=>by
  unfold Rp at h ⊢;obtain⟨a,xs,r,na,q,l,z⟩:=h;exact⟨a,xs,r,λy=>na (n a y),q,l,aR.mono n z⟩
theorem aR.mono (n:∀b,A' b->A b):∀{us:List U} {vs:List V},aR K H A us vs->aR K H A' us vs
 | [],vs,h=>by unfold aR at h ⊢;exact h
 |u::us,vs,h=>by
  unfold aR at h ⊢;obtain⟨x,r,q,p,z⟩:=h;exact⟨x,r,q,Rp.mono n p,aR.mono n z⟩
end
mutual
theorem Rp.same (e:aI H H'):∀{u:U} {v:V},Rp K H A u v->Rp K H' A u v
 | .non,v,h=>by unfold Rp at h ⊢;exact h
 | .bl b,v,h=>by unfold Rp at h ⊢;exact h
 | .int b,v,h=>by unfold Rp at h ⊢;exact h
 | .str b,v,h=>by unfold Rp at h ⊢;exact h
 | .tup us,v,h=>by
  unfold Rp at h ⊢;obtain⟨a,xs,r,q,l,z⟩:=h;exact⟨a,xs,r,e a _ q,l,aR.same e z⟩
 | .lst us,v,h=>by
  unfold Rp at h ⊢;obtain⟨a,xs,r,na,q,l,z⟩:=h;exact⟨a,xs,r,na,e a _ q,l,aR.same e z⟩
 | .scr us,v,h=>by
  unfold Rp at h ⊢;obtain⟨a,xs,r,q,l,z⟩:=h;exact⟨a,xs,r,q.to λo y w=>e a _ w,l,aR.same e z⟩
 | .dct ks us,v,h=>by
  unfold Rp at h ⊢;obtain⟨a,xs,r,na,q,l,z⟩:=h;exact⟨a,xs,r,na,q.to (λo w=>e a o w) (λb ys w=>e b _ w),l,aR.same e z⟩
theorem aR.same (e:aI H H'):∀{us:List U} {vs:List V},aR K H A us vs->aR K H' A us vs
 | [],vs,h=>by unfold aR at h ⊢;exact h
 |u::us,vs,h=>by
  unfold aR at h ⊢;obtain⟨x,r,q,p,z⟩:=h;exact⟨x,r,q,Rp.same e p,aR.same e z⟩
end
theorem aR.length:∀{us:List U} {vs:List V},aR K H A us vs->us.length=vs.length
 | [],_,h=>by unfold aR at h;subst h;rfl
 |u::us,_,h=>by
  unfold aR at h;obtain⟨x,r,rfl,_,q⟩:=h;rw[QL,QL,aR.length q]
theorem aR.get:∀{us:List U} {vs:List V} {i:Nat} {u:U},aR K H A us vs->us[i]? = some u->∃v,vs[i]? = some v/\Rp K H A u v
 | [],_,_,_,_,e=>by simp at e
 |w::us,_,i,u,h,e=>by
  unfold aR at h;obtain⟨x,r,rfl,p,q⟩:=h;cases i with
  |zero=>simp at e;subst e;exact⟨x,by simp,p⟩
  |succ i=>
   obtain⟨v,a,b⟩:=aR.get q (i:=i) (by simpa using e);exact⟨v,by simpa using a,b⟩
theorem aR.nil:aR K H A [] []:=by unfold aR;rfl
theorem aR.cons {u:U}(h:Rp K H A u v)(t:aR K H A us vs):aR K H A (u::us) (v::vs):=by unfold aR;exact⟨v,vs,rfl,h,t⟩
theorem aR.append:∀{us ws:List U} {vs xs:List V},aR K H A us vs->aR K H A ws xs->aR K H A (us++ws) (vs++xs)
 | [],ws,vs,xs,h,t=>by unfold aR at h;subst h;exact t
 |u::us,ws,vs,xs,h,t=>by
  unfold aR at h;obtain⟨x,r,rfl,p,q⟩:=h;exact aR.cons p (aR.append q t)
theorem aR.take:∀{us:List U} {vs:List V} (n:Nat),aR K H A us vs->aR K H A (us.take n) (vs.take n)
 | [],vs,n,h=>by unfold aR at h;subst h;simp;exact aR.nil
 |u::us,vs,0,h=>by simp;exact aR.nil
 |u::us,vs,n+1,h=>by
  unfold aR at h;obtain⟨x,r,rfl,p,q⟩:=h;exact aR.cons p (aR.take n q)
theorem aR.drop:∀{us:List U} {vs:List V} (n:Nat),aR K H A us vs->aR K H A (us.drop n) (vs.drop n)
 | [],vs,n,h=>by unfold aR at h;subst h;simp;exact aR.nil
 |u::us,vs,0,h=>h
 |u::us,vs,n+1,h=>by
  unfold aR at h;obtain⟨x,r,rfl,p,q⟩:=h;exact aR.drop n q
theorem aR.set:∀{us:List U} {vs:List V} (n:Nat) {u:U} {v:V},Rp K H A u v->aR K H A us vs->aR K H A (us.set n u) (vs.set n v)
 | [],vs,n,_,_,_,h=>by unfold aR at h;subst h;simp;exact aR.nil
 |u::us,vs,0,_,_,p',h=>by
  unfold aR at h;obtain⟨x,r,rfl,p,q⟩:=h;exact aR.cons p' q
 |u::us,vs,n+1,_,_,p',h=>by
  unfold aR at h;obtain⟨x,r,rfl,p,q⟩:=h;exact aR.cons p (aR.set n p' q)
theorem Rp.pk {u:U}(h:Rp K H A u v):Pk K H A u v:=by
 cases u<;>(unfold Rp at h;unfold Pk)
 case lst us=>obtain⟨a,xs,r,na,q⟩:=h;exact⟨a,xs,r,q⟩
 case dct ks us=>obtain⟨a,xs,r,na,q⟩:=h;exact⟨a,xs,r,q⟩
 all_goals exact h
theorem Pk.same (e:aI H H'){u:U}(h:Pk K H A u v):Pk K H' A u v:=by
 cases u<;>(unfold Pk at h ⊢)
 case tup us=>obtain⟨a,xs,r,q,l,z⟩:=h;exact⟨a,xs,r,e a _ q,l,z.same e⟩
 case lst us=>obtain⟨a,xs,r,q,l,z⟩:=h;exact⟨a,xs,r,e a _ q,l,z.same e⟩
 case scr us=>obtain⟨a,xs,r,q,l,z⟩:=h;exact⟨a,xs,r,q.to λo y w=>e a _ w,l,z.same e⟩
 case dct ks us=>obtain⟨a,xs,r,q,l,z⟩:=h;exact⟨a,xs,r,q.to (λo w=>e a o w) (λb ys w=>e b _ w),l,z.same e⟩
 all_goals exact h
theorem kW.pk {u:U}(h:kW K H A u a):Pk K H A u (.ref a):=by
 cases u<;>(unfold kW at h;unfold Pk)
 case lst us=>obtain⟨xs,q,l,z⟩:=h;exact⟨a,xs,rfl,q,l,z⟩
 case dct ks us=>obtain⟨xs,q,l,z⟩:=h;exact⟨a,xs,rfl,q.at,l,z⟩
 all_goals exact h.elim
theorem kW.rp {u:U}(h:kW K H A u a)(n:∀b,A' b->A b)(na:¬A' a):Rp K H A' u (.ref a):=by
 cases u<;>(unfold kW at h;unfold Rp)
 case lst us=>obtain⟨xs,q,l,z⟩:=h;exact⟨a,xs,rfl,na,q,l,z.mono n⟩
 case dct ks us=>obtain⟨xs,q,l,z⟩:=h;exact⟨a,xs,rfl,na,q.at,l,z.mono n⟩
 all_goals exact h.elim
theorem kW.re (m:∀b,A b->Mu (H b))(e:eD A H H')(n:∀b,A' b->A b\/H b=none){u:U}(ea:∀o,H a=some o->H' a=some o)(h:kW K H A u a):kW K H' A' u a:=by
 cases u<;>(unfold kW at h ⊢)
 case lst us=>obtain⟨xs,q,l,z⟩:=h;exact⟨xs,ea _ q,l,z.re m e n⟩
 case dct ks us=>obtain⟨xs,q,l,z⟩:=h;exact⟨xs,q.to ea (λb ys w=>e b _ (λy=>by have:=m b y;rw[w] at this;exact this) w),l,z.re m e n⟩
 all_goals exact h.elim
theorem kW.mu {u:U}(h:kW K H A u a):Mu (H a):=by
 cases u<;>(unfold kW at h)
 case lst us=>obtain⟨xs,q,_⟩:=h;rw[q];trivial
 case dct ks us=>
  obtain⟨xs,q,_⟩:=h;rcases q with⟨k,q,_⟩|⟨k,n,q,_⟩
  ·rw[q];trivial
  ·obtain⟨ep,q⟩:=q.ne n;rw[q];trivial
 all_goals exact h.elim
end
structure Pkg where
 A0:QX->Prop
 B:Hp
 a0:QX
structure Gm where
 own:List Bool
 io:Bool
 W:Hp->Prop
noncomputable def Gm.is (G:Gm)(i:Nat):Bool:=G.own.getD i false
structure cZ (K:QB)(G:Gm)(Z:Pkg)(A:QX->Prop)(ρ:Ev)(σ:St)(H:Hp):Prop where
 slot:∀i u,ρ[i]? = some (some u)->∃v,σ[i]? = some (some v)/\if G.is i=true then (∃a,v=.ref a/\A a/\Z.B a=none/\(¬Z.A0 a\/(G.io=true/\i=0))/\kW K H A u a) else Rp K H A u v
 dis:∀i j u w a,G.is i=true->G.is j=true->i≠j->ρ[i]? = some (some u)->ρ[j]? = some (some w)->σ[i]? = some (some (.ref a))->σ[j]? = some (some (.ref a))->False
 mu:∀a,A a->Mu (H a)
 sup:∀a,Z.A0 a->A a
 out:∀a,A a->Z.A0 a\/Z.B a=none
 bas:∀a o,Z.B a=some o->H a=some o
 io0:G.io=true->σ[0]? = some (some (.ref Z.a0))/\G.is 0=true
 len:ρ.length=σ.length
section
variable {A':QX->Prop}{G:Gm}{Z:Pkg}{ρ':Ev}
theorem cZ.same (r:cZ K G Z A ρ σ H)(e:aI H H'):cZ K G Z A ρ σ H' where
 slot:=λi u h=>by
  obtain⟨v,h1,h2⟩:=r.slot i u h;refine⟨v,h1,?_⟩;by_cases c:G.is i=true
  ·rw[hV c] at h2 ⊢;obtain⟨a,e1,e2,e3,e4,e5⟩:=h2;exact⟨a,e1,e2,e3,e4,e5.re r.mu (eD.same e) (λb z=>.inl z) λo w=>e a o w⟩
  ·rw[hU c] at h2 ⊢;exact h2.same e
 dis:=r.dis
 mu:=λa h=>by
  have m:=r.mu a h;obtain⟨o,q⟩:=m.ex;rw[e a o q,←q];exact m
 sup:=r.sup
 out:=r.out
 bas:=λa o h=>e a o (r.bas a o h)
 io0:=r.io0
 len:=r.len
theorem cZ.add (r:cZ K G Z A ρ σ H)(e:aI H H')(n:H a=none)(m:Mu (H' a)):cZ K G Z (λb=>A b\/b=a) ρ σ H' where
 slot:=λi u h=>by
  have q:∀b,(A b\/b=a)->A b\/H b=none:=λb z=>by
   rcases z with z|z
   ·exact .inl z
   ·subst z;exact .inr n
  obtain⟨v,h1,h2⟩:=r.slot i u h;refine⟨v,h1,?_⟩;by_cases c:G.is i=true
  ·rw[hV c] at h2 ⊢;obtain⟨b,e1,e2,e3,e4,e5⟩:=h2;exact⟨b,e1,.inl e2,e3,e4,e5.re r.mu (eD.same e) q λo w=>e b o w⟩
  ·rw[hU c] at h2 ⊢;exact h2.re r.mu (eD.same e) q
 dis:=r.dis
 mu:=λb h=>by
  rcases h with h|h
  ·exact (r.same e).mu b h
  ·subst h;exact m
 sup:=λb h=>.inl (r.sup b h)
 out:=λb h=>by
  rcases h with h|h
  ·exact r.out b h
  ·subst h;refine .inr ?_;cases q:Z.B b with
   |none=>rfl
   |some o=>rw[r.bas b o q] at n;cases n
 bas:=λa o h=>e a o (r.bas a o h)
 io0:=r.io0
 len:=r.len
theorem cZ.notA (r:cZ K G Z A ρ σ H)(n:H a=none):¬A a:=λz=>by
 have:=r.mu a z;rw[n] at this;exact this
theorem cZ.notB (r:cZ K G Z A ρ σ H)(n:H a=none):Z.B a=none:=by
 cases q:Z.B a with
 |none=>rfl
 |some o=>rw[r.bas a o q] at n;cases n
theorem cZ.val (r:cZ K G Z A ρ σ H){u:U}(c:G.is i=false)(h:ρ[i]? = some (some u)):∃v,σ[i]? = some (some v)/\Rp K H A u v:=by
 obtain⟨v,h1,h2⟩:=r.slot i u h;rw[hU (by rw[c];exact QA)] at h2;exact⟨v,h1,h2⟩
theorem cZ.own (r:cZ K G Z A ρ σ H){u:U}(c:G.is i=true)(h:ρ[i]? = some (some u)):∃a,σ[i]? = some (some (.ref a))/\A a/\Z.B a=none/\(¬Z.A0 a\/(G.io=true/\i=0))/\kW K H A u a:=by
 obtain⟨v,h1,h2⟩:=r.slot i u h;rw[hV c] at h2;obtain⟨a,rfl,z⟩:=h2;exact⟨a,h1,z⟩
end
end L2
variable {Z:L2.Pkg}{G:L2.Gm}
namespace L2
inductive Md where
 |S|O|P
 deriving DecidableEq
def sG (K:QB)(G:Gm)(Z:Pkg)(m:Md)(A:QX->Prop)(ρ:Ev)(σ:St)(H:Hp)(u:U)(v:V):Prop:=match m with
 | .S=>Rp K H A u v
 | .P=>Pk K H A u v
 | .O=>∃a,v=.ref a/\¬A a/\Z.B a=none/\cZ K G Z (λb=>A b\/b=a) ρ σ H/\kW K H (λb=>A b\/b=a) u a
def zJ (K:QB)(m:Md)(A:QX->Prop)(H H':Hp)(u:U)(v:V):Prop:=match m with
 | .S=>Rp K H' A u v
 | .P=>Pk K H' A u v
 | .O=>∃a,v=.ref a/\H a=none/\kW K H' (λb=>A b\/b=a) u a
def ED (K:QB)(G:Gm)(Z:Pkg)(A:QX->Prop)(b:Bool)(m:Md)(ρ:Ev)(σ:St)(H:Hp):R (U×Ev)->VK->Prop
 | .ok (u,ρ'),Q=>∀v H',cZ K G Z A ρ' σ H'->eD A H H'->(b=false->ρ'=ρ/\aI H H')->sG K G Z m A ρ' σ H' u v->Q v H'
 |_,_=>False
def tD (K:QB)(G:Gm)(b:Bool)(m:Md)(g:Ev->R (U×Ev)):TE:=λσ H Q=>∃Z A ρ,cZ K G Z A ρ σ H/\ED K G Z A b m ρ σ H (g ρ) Q
structure DE (X:Cx)(G:Gm)(e:RP)(b:Bool)(m:Md)(g:Ev->R (U×Ev)):Prop where
 un:PE X e (tD X.K G b m g)
def EE (K:QB)(G:Gm)(Z:Pkg)(A:QX->Prop)(b:Bool)(ρ:Ev)(σ:St)(H:Hp):R (Bool×Ev)->(Bool->Hp->Prop)->Prop
 | .ok (c,ρ'),Q=>∀H',cZ K G Z A ρ' σ H'->eD A H H'->(b=false->ρ'=ρ/\aI H H')->Q c H'
 |_,_=>False
def AL (K:QB)(G:Gm)(b:Bool)(g:Ev->R (Bool×Ev)):TT:=λσ H Q=>∃Z A ρ,cZ K G Z A ρ σ H/\EE K G Z A b ρ σ H (g ρ) Q
structure DT (X:Cx)(G:Gm)(e:RP)(b:Bool)(g:Ev->R (Bool×Ev)):Prop where
 un:PT X e (AL X.K G b g)
def w_ (K:QB)(H:Hp)(A:QX->Prop):List U->List V->Prop
 | [],vs=>vs=[]
 |u::us,vs=>∃x r,vs=x::r/\Pk K H A u x/\w_ K H A us r
def EF (K:QB)(p:Bool)(A:QX->Prop)(H:Hp)(us:List U)(vs:List V):Prop:=if p=true then w_ K H A us vs else aR K H A us vs
def EG (K:QB)(G:Gm)(Z:Pkg)(A:QX->Prop)(b p:Bool)(ρ:Ev)(σ:St)(H:Hp):R (List U×Ev)->(List V->Hp->Prop)->Prop
 | .ok (us,ρ'),Q=>∀vs H',cZ K G Z A ρ' σ H'->eD A H H'->(b=false->ρ'=ρ/\aI H H')->EF K p A H' us vs->Q vs H'
 |_,_=>False
def MQ (K:QB)(G:Gm)(b p:Bool)(g:Ev->R (List U×Ev)):TA:=λσ H Q=>∃Z A ρ,cZ K G Z A ρ σ H/\EG K G Z A b p ρ σ H (g ρ) Q
structure DA (X:Cx)(G:Gm)(es:List RP)(b p:Bool)(g:Ev->R (List U×Ev)):Prop where
 un:PA X es (MQ X.K G b p g)
section
variable {e:RP}{t t':TE}
theorem PE.to (h:PE X e t)(i:∀σ H Q,t' σ H Q->t σ H Q):PE X e t':=λpins s σ H Q I q=>h pins s σ H Q I (i _ _ _ q)
theorem PT.to {t t':TT}(h:PT X e t)(i:∀σ H Q,t' σ H Q->t σ H Q):PT X e t':=λpins s σ H Q I q=>h pins s σ H Q I (i _ _ _ q)
theorem PW.to {t t':TT}(h:PW X e t)(i:∀σ H Q,t' σ H Q->t σ H Q):PW X e t':=λmV pins s σ H Q I q=>h mV pins s σ H Q I (i _ _ _ q)
theorem PA.to {t t':TA}(h:PA X es t)(i:∀σ H Q,t' σ H Q->t σ H Q):PA X es t':=λpos pins s σ H Q I q=>h pos pins s σ H Q I (i _ _ _ q)
theorem PS.to {st:Si}{t t':TS}(h:PS X st t)(i:∀D σ H,t' D σ H->t D σ H):PS X st t':=λpins s σ H D I q=>h pins s σ H D I (i _ _ _ q)
theorem pj.to {st:List Si}{t t':TS}(h:pj X st t)(i:∀D σ H,t' D σ H->t D σ H):pj X st t':=λpins s σ H D I q=>h pins s σ H D I (i _ _ _ q)
theorem PG.to {t t':TG}(h:PG X e t)(i:∀v σ H Q,t' v σ H Q->t v σ H Q):PG X e t':=λpins s σ H v u Q I r q=>h pins s σ H v u Q I r (i _ _ _ _ q)
end
section
variable {A':QX->Prop}{ρ':Ev}{u:U}{m:Md}{b:Bool}
theorem sG.rp (h:sG K G Z m A ρ σ H u v)(n:m≠.P):Rp K H A u v:=by
 cases m with
 |S=>exact h
 |O=>
  obtain⟨a,rfl,na,_,_,t⟩:=h;exact t.rp (λb z=>.inl z) na
 |P=>exact absurd rfl n
theorem sG.pk (h:sG K G Z m A ρ σ H u v):Pk K H A u v:=by
 by_cases c:m=.P
 ·subst c;exact h
 ·exact (h.rp c).pk
theorem zJ.e (r:cZ K G Z A ρ σ H)(s:aI H H')(h:zJ K m A H H' u v):sG K G Z m A ρ σ H' u v:=by
 cases m with
 |S=>exact h
 |P=>exact h
 |O=>
  obtain⟨a,rfl,n,t⟩:=h;exact⟨a,rfl,r.notA n,r.notB n,r.add s n t.mu,t⟩
theorem sG.later (r:cZ K G Z A ρ σ H)(h:sG K G Z m A ρ σ H u v)(x:eD A H H')(s:b=false->ρ'=ρ/\aI H H')(c:m=.P->b=false):Pk K H' A u v:=by
 by_cases d:m=.P
 ·exact h.pk.same (s (c d)).2
 ·exact ((h.rp d).re r.mu x λb z=>.inl z).pk
theorem sG.laterS (r:cZ K G Z A ρ σ H)(h:sG K G Z m A ρ σ H u v)(x:eD A H H')(d:m≠.P):Rp K H' A u v:=(h.rp d).re r.mu x λb z=>.inl z
theorem two {b1 b2:Bool}{ρ2:Ev}(h1:b1=false->ρ1=ρ/\aI H H1)(h2:b2=false->ρ2=ρ1/\aI H1 H2):(b1||b2)=false->ρ2=ρ/\aI H H2:=λh=>by
 rw[Rg] at h;obtain⟨a,b⟩:=h1 h.1;obtain⟨c,d⟩:=h2 h.2;exact⟨c.trans a,b.trans d⟩
theorem lZ {b1:Bool}(h1:b1=false->ρ1=ρ/\aI H H1)(h2:aI H1 H2):b1=false->ρ1=ρ/\aI H H2:=λh=>⟨(h1 h).1,(h1 h).2.trans h2⟩
end
noncomputable def ag (i:Nat):Ev->R (U×Ev):=λρ=>match ρ[i]? with
 |some (some u)=>.ok (u,ρ)
 |_=>.stk
noncomputable def gC (u:U):Ev->R (U×Ev):=λρ=>.ok (u,ρ)
section
variable {e a b:RP}
theorem Ks {b:Bool}{m:Md}(h:PE X e (D8 i))(c:G.is i=false):DE X G e false .S (ag i):=by
 refine⟨h.to λσ H Q ⟨Z,A,ρ,r,f⟩=>?_⟩;unfold ag at f;split at f
 ·rename_i u hu;obtain⟨v,h1,h2⟩:=r.val c hu;exact⟨v,h1,f v H r eD.refl (λ_=>⟨rfl,aI.refl _⟩) h2⟩
 ·exact f.elim
theorem aj (i:Nat)(hN:X.N[i]? = some x:=by rfl)(hv:zk X.env.scope x:=by first|exact Or.inl rfl|exact Or.inr (Or.inl rfl)|exact Or.inr (Or.inr rfl))(hd:(x==("__debug__":Str))=false:=by decide)
  (kn:(x==("__classdict__":Str))=false:=by decide) (c:G.is i=false:=by rfl):DE X G (.Name x pos) false .S (ag i):=Ks (b:=false) (m:=.S) (iR hN hv hd kn) c
theorem fm (i:Nat)(hN:X.N[i]? = some x:=by rfl)(hv:zk X.env.scope x:=by first|exact Or.inl rfl|exact Or.inr (Or.inl rfl)|exact Or.inr (Or.inr rfl))(hd:(x==("__debug__":Str))=false:=by decide)
  (kn:(x==("__classdict__":Str))=false:=by decide) (c:G.is i=true:=by rfl):DE X G (.Name x pos) false .P (ag i):=by
 refine⟨(iR hN hv hd kn).to λσ H Q ⟨Z,A,ρ,r,f⟩=>?_⟩;unfold ag at f;split at f
 ·rename_i u hu;obtain⟨a,h1,_,_,_,h2⟩:=r.own c hu;exact⟨.ref a,h1,f _ H r eD.refl (λ_=>⟨rfl,aI.refl _⟩) h2.pk⟩
 ·exact f.elim
theorem BD {u:U}(h:PE X e (tC v))(r:∀K H A,Rp K H A u v):DE X G e false .S (gC u):=by
 refine⟨h.to λσ H Q ⟨Z,A,ρ,q,f⟩=>?_⟩;exact f v H q eD.refl (λ_=>⟨rfl,aI.refl _⟩) (r _ _ _)
theorem ah {i j pos}:DE X G (.Constant (.int i) j pos) false .S (gC (.int i)):=BD iS λ_ _ _=>by unfold Rp;rfl
theorem jJ {i j pos}:DE X G (.Constant (.bool i) j pos) false .S (gC (.bl i)):=BD AR λ_ _ _=>by unfold Rp;rfl
theorem g7 {j pos}:DE X G (.Constant .none j pos) false .S (gC .non):=BD Ha λ_ _ _=>by unfold Rp;rfl
theorem aJ {i j pos}:DE X G (.Constant (.str i) j pos) false .S (gC (.str i)):=BD eO λ_ _ _=>by unfold Rp;rfl
theorem l0 {i:Int}{tk:Tok}(hg:Gl X x)(hm:X.mg x=some (.int i tk))(hd:(x==("__debug__":Str))=false:=by decide):DE X G (.Name x pos) false .S (gC (.int i)):=BD (v:=.int i) (xV hg hm ⟨_,rfl⟩ hd) λ_ _ _=>by unfold Rp;rfl
noncomputable def aF (p:U->U->R U)(g1 g2:Ev->R (U×Ev)):Ev->R (U×Ev):=λρ=>(g1 ρ).bind λx=>(g2 x.2).bind λy=>(p x.1 y.1).bind λz=>.ok (z,y.2)
def fg (K:QB)(r:R2)(m:Md)(p:U->U->R U):Prop:=∀A H x y u w z Q,Pk K H A u x->Pk K H A w y->(∀a,A a->Mu (H a))->p u w=.ok z->(∀v H',aI H H'->zJ K m A H H' z v->Q v H')->r x y H Q
variable {b1 b2 b3:Bool}{m1 m2 m3 mr:Md}{g1 g2 g3:Ev->R (U×Ev)}
theorem pD (hp:fg X.K r mr p)(hm:m1=.P->b2=false){Q:VK}(h:tD X.K G (b1||b2) mr (aF p g1 g2) σ H Q) :
  JX r (tD X.K G b1 m1 g1) (tD X.K G b2 m2 g2) σ H Q:=by
 obtain⟨Z,A,ρ,q,f⟩:=h;unfold aF at f;refine⟨Z,A,ρ,q,?_⟩;cases e1:g1 ρ with
 |stk=>rw[e1] at f;exact f.elim
 |exc=>rw[e1] at f;exact f.elim
 |ok x=>
  obtain⟨u,ρ1⟩:=x;rw[e1] at f;intro v1 H1 q1 x1 s1 pR;refine⟨Z,A,ρ1,q1,?_⟩;cases e2:g2 ρ1 with
  |stk=>simp only[R.bind,e2] at f;exact f.elim
  |exc=>simp only[R.bind,e2] at f;exact f.elim
  |ok y=>
   obtain⟨w,ρ2⟩:=y;simp only[R.bind,e2] at f;intro v2 H2 q2 x2 s2 s_;cases e3:p u w with
   |stk=>rw[e3] at f;exact f.elim
   |exc=>rw[e3] at f;exact f.elim
   |ok z=>
    rw[e3] at f;refine hp A H2 v1 v2 u w z Q (pR.later q1 x2 s2 hm) s_.pk q2.mu e3 λv H' sm vm=>?_;exact f v H' (q2.same sm) ((x1.trans x2).trans (eD.same sm)) (lZ (two s1 s2) sm) (vm.e q2 sm)
theorem aV {op:Operator}(ho:iY X (Sr op) r)(hp:fg X.K r mr p)(ha:DE X G a b1 m1 g1)(hb:DE X G b b2 m2 g2)(hm:m1=.P->b2=false:=by first|exact λ_=>rfl|exact λh=>nomatch h) :
  DE X G (.BinOp a op b pos) (b1||b2) mr (aF p g1 g2):=⟨(A6 ho ha.un hb.un).to λ_ _ _=>pD hp hm⟩
theorem fN (ho:iY X (RD op) r)(hp:fg X.K r mr p)(ha:DE X G a b1 m1 g1)(hb:DE X G b b2 m2 g2)(hk:SN op b=false)(hm:m1=.P->b2=false:=by first|exact λ_=>rfl|exact λh=>nomatch h) :
  DE X G (.Compare a [op] [b] pos) (b1||b2) mr (aF p g1 g2):=⟨(Eh ho ha.un hb.un hk).to λ_ _ _=>pD hp hm⟩
theorem aH (ho:D0 X r)(hp:fg X.K r mr p)(ha:DE X G a b1 m1 g1)(hb:DE X G b b2 m2 g2)(hs:x_ b)(hm:m1=.P->b2=false:=by first|exact λ_=>rfl|exact λh=>nomatch h) :
  DE X G (.Subscript a b pos) (b1||b2) mr (aF p g1 g2):=⟨(FA ho ha.un hb.un hs).to λ_ _ _=>pD hp hm⟩
noncomputable def gB (g:Ev->R (U×Ev)):Ev->R (Bool×Ev):=λρ=>(g ρ).bind λx=>match x.1 with
 | .bl c=>.ok (c,x.2)
 |_=>.stk
theorem sH {g:Ev->R (U×Ev)}{m:Md}{Q:Bool->Hp->Prop}(h:AL X.K G b1 (gB g) σ H Q):tD X.K G b1 m g σ H λx H'=>∃k,x=.bl k/\Q k H':=by
 obtain⟨Z,A,ρ,q,f⟩:=h;refine⟨Z,A,ρ,q,?_⟩;unfold gB at f;cases e1:g ρ with
 |stk=>rw[e1] at f;exact f.elim
 |exc=>rw[e1] at f;exact f.elim
 |ok x=>
  obtain⟨u,ρ1⟩:=x;rw[e1] at f;intro v H1 q1 x1 s1 vm;cases u with
  |bl c=>
   have e:v=.bl c:=by have:=vm.pk;unfold Pk at this;exact this
   exact⟨c,e,f H1 q1 x1 s1⟩
  |_=>exact f.elim
theorem de (h:DE X G e b1 m1 g1)(he:∀mV,isTrue e X.env mV=(do let v ←mV;standAt e.pos;holding [v] (truthy v)):=by intro _;rfl):DT X G e b1 (gB g1):=⟨(AS h.un he).to λ_ _ _ h=>sH h⟩
theorem aN (ho:iY X (RD op) r)(hp:fg X.K r mr p)(ha:DE X G a b1 m1 g1)(hb:DE X G b b2 m2 g2)(hk:SN op b=false)(hm:m1=.P->b2=false:=by first|exact λ_=>rfl|exact λh=>nomatch h) :
  DT X G (.Compare a [op] [b] pos) (b1||b2) (gB (aF p g1 g2)):=⟨(pz ho ha.un hb.un hk).to λ_ _ _ h=>pD hp hm (sH (m:=mr) h)⟩
end
end L2
namespace L2
section
variable {A':QX->Prop}{ρ':Ev}{b p:Bool}{m:Md}{α:Type}
theorem ED.bind {x:R α}{k:α->R (U×Ev)}{Q:VK}(f:ED K G Z A b m ρ σ H (x.bind k) Q):∃a,x=.ok a/\ED K G Z A b m ρ σ H (k a) Q:=by
 cases x with
 |ok a=>exact⟨a,rfl,f⟩
 |exc=>exact f.elim
 |stk=>exact f.elim
theorem EE.bind {x:R α}{k:α->R (Bool×Ev)}{Q:Bool->Hp->Prop}(f:EE K G Z A b ρ σ H (x.bind k) Q):∃a,x=.ok a/\EE K G Z A b ρ σ H (k a) Q:=by
 cases x with
 |ok a=>exact⟨a,rfl,f⟩
 |exc=>exact f.elim
 |stk=>exact f.elim
theorem EG.bind {x:R α}{k:α->R (List U×Ev)}{Q:List V->Hp->Prop}(f:EG K G Z A b p ρ σ H (x.bind k) Q):∃a,x=.ok a/\EG K G Z A b p ρ σ H (k a) Q:=by
 cases x with
 |ok a=>exact⟨a,rfl,f⟩
 |exc=>exact f.elim
 |stk=>exact f.elim
theorem Pk.bl {c:Bool}(h:Pk K H A (.bl c) v):v=.bl c:=by unfold Pk at h;exact h
theorem Pk.int {i:Int}(h:Pk K H A (.int i) v):v=.int i:=by unfold Pk at h;exact h
theorem Pk.str {i:Str}(h:Pk K H A (.str i) v):v=.str i:=by unfold Pk at h;exact h
theorem gr {c:Bool}:Rp K H A (.bl c) (.bl c):=by unfold Rp;rfl
theorem cy {c:Int}:Rp K H A (.int c) (.int c):=by unfold Rp;rfl
theorem sG.ofS {u:U}(h:Rp K H A u v):sG K G Z .S A ρ σ H u v:=h
theorem qd:Rp K H A .non .non:=by unfold Rp;rfl
theorem tR {c:Str}:Rp K H A (.str c) (.str c):=by unfold Rp;rfl
theorem aR.pks:∀{us:List U} {vs:List V},aR K H A us vs->w_ K H A us vs
 | [],_,h=>by unfold aR at h;unfold w_;exact h
 |u::us,_,h=>by
  unfold aR at h;unfold w_;obtain⟨x,r,e,z,q⟩:=h;exact⟨x,r,e,z.pk,aR.pks q⟩
end
section
variable {e a b:RP}{rest:List RP}{b1 b2 b3:Bool}{m1 m2 m3 mr:Md}{g1 g2 g3:Ev->R (U×Ev)}{h1 h2:Ev->R (Bool×Ev)}
noncomputable def zK (g1 g2:Ev->R (Bool×Ev)):Ev->R (Bool×Ev):=λρ=>(g1 ρ).bind λx=>if x.1=true then g2 x.2 else .ok (false,x.2)
noncomputable def yd (g1 g2:Ev->R (Bool×Ev)):Ev->R (Bool×Ev):=λρ=>(g1 ρ).bind λx=>if x.1=true then .ok (true,x.2) else g2 x.2
noncomputable def jT (g1:Ev->R (Bool×Ev)):Ev->R (Bool×Ev):=λρ=>(g1 ρ).bind λx=>.ok (!x.1,x.2)
structure DW (X:Cx)(G:Gm)(e:RP)(b:Bool)(g:Ev->R (Bool×Ev)):Prop where
 un:PW X e (AL X.K G b g)
theorem DW.dt (h:DW X G e b1 h1):DT X G e b1 h1:=⟨PW.pt h.un⟩
theorem BE {Q:Bool->Hp->Prop}(h:AL X.K G (b1||b2) (zK h1 h2) σ H Q):JN (AL X.K G b1 h1) (AL X.K G b2 h2) σ H Q:=by
 obtain⟨Z,A,ρ,q,f⟩:=h;obtain⟨⟨k,ρ1⟩,e1,f⟩:=f.bind;refine⟨Z,A,ρ,q,?_⟩;rw[e1];intro H1 q1 x1 s1;cases k with
 |true=>
  rw[hV rfl] at f ⊢;refine⟨Z,A,ρ1,q1,?_⟩;dsimp only at f;cases e2:h2 ρ1 with
  |ok y=>rw[e2] at f;exact λH2 q2 x2 s2=>f H2 q2 (x1.trans x2) (two s1 s2)
  |exc=>rw[e2] at f;exact f.elim
  |stk=>rw[e2] at f;exact f.elim
 |false=>
  rw[hU QA] at f ⊢;exact f H1 q1 x1 λz=>s1 (Rg.mp z).1
theorem EH {Q:Bool->Hp->Prop}(h:AL X.K G (b1||b2) (yd h1 h2) σ H Q):NP (AL X.K G b1 h1) (AL X.K G b2 h2) σ H Q:=by
 obtain⟨Z,A,ρ,q,f⟩:=h;obtain⟨⟨k,ρ1⟩,e1,f⟩:=f.bind;refine⟨Z,A,ρ,q,?_⟩;rw[e1];intro H1 q1 x1 s1;cases k with
 |false=>
  rw[hU QA] at f ⊢;refine⟨Z,A,ρ1,q1,?_⟩;dsimp only at f;cases e2:h2 ρ1 with
  |ok y=>rw[e2] at f;exact λH2 q2 x2 s2=>f H2 q2 (x1.trans x2) (two s1 s2)
  |exc=>rw[e2] at f;exact f.elim
  |stk=>rw[e2] at f;exact f.elim
 |true=>
  rw[hV rfl] at f ⊢;exact f H1 q1 x1 λz=>s1 (Rg.mp z).1
theorem tS (ha:DT X G a b1 h1):DW X G (.BoolOp .And [a] pos) b1 h1:=⟨D9 ha.un⟩
theorem lB (ha:DT X G a b1 h1):DW X G (.BoolOp .Or [a] pos) b1 h1:=⟨Hb ha.un⟩
theorem xc (ha:DT X G a b1 h1)(hb:DW X G (.BoolOp .And (b::rest) pos) b2 h2):DW X G (.BoolOp .And (a::b::rest) pos) (b1||b2) (zK h1 h2):=⟨(Hd ha.un hb.un).to λ_ _ _=>BE⟩
theorem k7 (ha:DT X G a b1 h1)(hb:DW X G (.BoolOp .Or (b::rest) pos) b2 h2):DW X G (.BoolOp .Or (a::b::rest) pos) (b1||b2) (yd h1 h2):=⟨(JO ha.un hb.un).to λ_ _ _=>EH⟩
theorem fO (ha:DT X G a b1 h1):DT X G (.UnaryOp .Not a pos) b1 (jT h1):=⟨(AU ha.un).to λσ H Q h=>by
 obtain⟨Z,A,ρ,q,f⟩:=h;obtain⟨⟨k,ρ1⟩,e1,f⟩:=f.bind;refine⟨Z,A,ρ,q,?_⟩;rw[e1];exact λH1 q1 x1 s1=>f H1 q1 x1 s1⟩
noncomputable def qe (g1 g2:Ev->R (U×Ev)):Ev->R (U×Ev):=λρ=>(gB g1 ρ).bind λx=>if x.1=true then g2 x.2 else .ok (.bl false,x.2)
noncomputable def OP (g1 g2:Ev->R (U×Ev)):Ev->R (U×Ev):=λρ=>(gB g1 ρ).bind λx=>if x.1=true then .ok (.bl true,x.2) else g2 x.2
noncomputable def BF (g1:Ev->R (U×Ev)):Ev->R (U×Ev):=λρ=>(gB g1 ρ).bind λx=>.ok (.bl (!x.1),x.2)
theorem FF {g:Ev->R (U×Ev)}{k:Bool}(h:gB g ρ=.ok (k,ρ1)):g ρ=.ok (.bl k,ρ1):=by
 unfold gB at h;cases e:g ρ with
 |ok y=>
  obtain⟨u,ρ2⟩:=y;rw[e] at h;cases u<;>simp[R.bind] at h;obtain⟨rfl,rfl⟩:=h;rfl
 |exc=>rw[e] at h;simp[R.bind] at h
 |stk=>rw[e] at h;simp[R.bind] at h
theorem j2 (hn:m2≠.P:=by decide)(ha:DE X G a b1 m1 g1)(hb:DE X G (.BoolOp .And (b::rest) pos) b2 m2 g2):DE X G (.BoolOp .And (a::b::rest) pos) (b1||b2) .S (qe g1 g2):=⟨(Hf ha.un hb.un).to λσ H Q h=>by
 obtain⟨Z,A,ρ,q,f⟩:=h;obtain⟨⟨k,ρ1⟩,e1,f⟩:=f.bind;refine⟨Z,A,ρ,q,?_⟩;rw[FF e1];intro v H1 q1 x1 s1 vm;refine⟨k,vm.pk.bl,?_⟩;cases k with
 |true=>
  rw[hV rfl] at f ⊢;refine⟨Z,A,ρ1,q1,?_⟩;dsimp only at f;cases e2:g2 ρ1 with
  |ok y=>rw[e2] at f;exact λv2 H2 q2 x2 s2 s_=>f v2 H2 q2 (x1.trans x2) (two s1 s2) (s_.rp hn)
  |exc=>rw[e2] at f;exact f.elim
  |stk=>rw[e2] at f;exact f.elim
 |false=>
  rw[hU QA] at f ⊢;exact f _ H1 q1 x1 (λz=>s1 (Rg.mp z).1) (sG.ofS gr)⟩
theorem lC {op}(ha:DE X G a b1 m1 g1):DE X G (.BoolOp op [a] pos) b1 m1 g1:=⟨He ha.un⟩
theorem xf (ha:DE X G a b1 m1 g1):DE X G (.UnaryOp .Not a pos) b1 .S (BF g1):=⟨(Hg ha.un).to λσ H Q h=>by
 obtain⟨Z,A,ρ,q,f⟩:=h;obtain⟨⟨k,ρ1⟩,e1,f⟩:=f.bind;refine⟨Z,A,ρ,q,?_⟩;rw[FF e1];exact λv H1 q1 x1 s1 vm=>⟨k,vm.pk.bl,f _ H1 q1 x1 s1 (sG.ofS gr)⟩⟩
noncomputable def FG (h:Ev->R (Bool×Ev))(g1 g2:Ev->R (U×Ev)):Ev->R (U×Ev):=λρ=>(h ρ).bind λx=>if x.1=true then g1 x.2 else g2 x.2
theorem j3 (Pb:m1≠.P:=by decide)(Nu:m2≠.P:=by decide)(hc:DT X G c b1 h1)(ha:DE X G a b2 m1 g1)(hb:DE X G b b3 m2 g2):DE X G (.IfExp c a b pos) (b1||(b2||b3)) .S (FG h1 g1 g2):=⟨(AV hc.un ha.un hb.un).to λσ H Q h=>by
 obtain⟨Z,A,ρ,q,f⟩:=h;obtain⟨⟨k,ρ1⟩,e1,f⟩:=f.bind;refine⟨Z,A,ρ,q,?_⟩;rw[e1];intro H1 q1 x1 s1;cases k with
 |true=>
  rw[hV rfl] at f ⊢;refine⟨Z,A,ρ1,q1,?_⟩;dsimp only at f;cases e2:g1 ρ1 with
  |ok y=>rw[e2] at f;exact λv2 H2 q2 x2 s2 s_=>f v2 H2 q2 (x1.trans x2) (two s1 λz=>s2 (Rg.mp z).1) (s_.rp Pb)
  |exc=>rw[e2] at f;exact f.elim
  |stk=>rw[e2] at f;exact f.elim
 |false=>
  rw[hU QA] at f ⊢;refine⟨Z,A,ρ1,q1,?_⟩;dsimp only at f;cases e2:g2 ρ1 with
  |ok y=>rw[e2] at f;exact λv2 H2 q2 x2 s2 s_=>f v2 H2 q2 (x1.trans x2) (two s1 λz=>s2 (Rg.mp z).2) (s_.rp Nu)
  |exc=>rw[e2] at f;exact f.elim
  |stk=>rw[e2] at f;exact f.elim⟩
noncomputable def tT (p p':U->U->R U)(g1 g2 g3:Ev->R (U×Ev)):Ev->R (U×Ev):=λρ=>(g1 ρ).bind λx=>(g2 x.2).bind λy=>(p x.1 y.1).bind λz=>match z with
 | .bl k=>if k=true then (g3 y.2).bind λw=>(p' y.1 w.1).bind λz'=>.ok (z',w.2) else .ok (.bl false,y.2)
 |_=>.stk
theorem xg {p':U->U->R U}(hp:fg X.K r .S p)(DU:fg X.K r' .S p')(n1:m1≠.P)(n2:m2≠.P){Q:VK}(h:tD X.K G (b1||(b2||b3)) .S (tT p p' g1 g2 g3) σ H Q) :
  A8 r r' (tD X.K G b1 m1 g1) (tD X.K G b2 m2 g2) (tD X.K G b3 m3 g3) σ H Q:=by
 obtain⟨Z,A,ρ,q,f⟩:=h;obtain⟨⟨u,ρ1⟩,e1,f⟩:=f.bind;obtain⟨⟨w,ρ2⟩,e2,f⟩:=f.bind;obtain⟨z,e3,f⟩:=f.bind;refine⟨Z,A,ρ,q,?_⟩;rw[e1];intro v1 H1 q1 x1 s1 pR;refine⟨Z,A,ρ1,q1,?_⟩;dsimp only at e2;rw[e2];intro v2 H2 q2 x2 s2 s_;refine hp A H2 v1 v2 u w z _ (pR.laterS q1 x2 n1).pk s_.pk q2.mu e3 λv H3 sm vm=>?_;cases z with
 |bl k=>
  refine⟨k,(show Rp X.K H3 A (.bl k) v from vm).pk.bl,?_⟩;have q3:=q2.same sm;cases k with
  |false=>
   rw[hU QA];exact f _ H3 q3 ((x1.trans x2).trans (eD.same sm)) (λz=>by
    obtain⟨a,b⟩:=Rg.mp z;exact lZ (two s1 s2) sm (by rw[a,(Rg.mp b).1];rfl)) (sG.ofS gr)
  |true=>
   rw[hV rfl];dsimp only at f;rw[hV rfl] at f;obtain⟨⟨w3,ρ3⟩,e4,f⟩:=f.bind;obtain⟨z',e5,f⟩:=f.bind;refine⟨Z,A,ρ2,q3,?_⟩;rw[e4];intro v4 H4 q4 x4 s4 Pc;refine DU A H4 v2 v4 w w3 z' Q ((s_.rp n2).same sm |>.re q3.mu x4 (λb z=>.inl z)).pk Pc.pk q4.mu e5 λv5 H5 G2 Pd=>?_;refine f v5 H5 (q4.same G2) (((x1.trans x2).trans (eD.same sm)).trans (x4.trans (eD.same G2))) ?_ (Pd.e q4 G2);intro z;obtain⟨a,b⟩:=Rg.mp z;obtain⟨b,c⟩:=Rg.mp b;exact lZ (two (lZ (two s1 s2) sm) s4) G2 (by rw[a,b,c];rfl)
 |_=>exact f.elim
theorem BG {Jc:CmpOp}{p':U->U->R U}(ho:iY X (RD op) r)(hp:fg X.K r .S p)(wI:iY X (RD Jc) r')(DU:fg X.K r' .S p')(ha:DE X G a b1 m1 g1)(hb:DE X G b b2 m2 g2)(hc:DE X G c b3 m3 g3)(n1:m1≠.P:=by decide)(n2:m2≠.P:=by decide)(hm:lastMarks [op,Jc] [b,c]=false:=by with_unfolding_all rfl):DE X G (.Compare a [op,Jc] [b,c] pos) (b1||(b2||b3)) .S (tT p p' g1 g2 g3):=⟨(A9 ho wI ha.un hb.un hc.un hm).to λ_ _ _=>xg hp DU n1 n2⟩
noncomputable def xh (p:U->R U)(g:Ev->R (U×Ev)):Ev->R (U×Ev):=λρ=>(g ρ).bind λx=>(p x.1).bind λz=>.ok (z,x.2)
def HV (K:QB)(r:V->Hp->VK->Prop)(m:Md)(p:U->R U):Prop:=∀A H x u z Q,Pk K H A u x->(∀a,A a->Mu (H a))->p u=.ok z->(∀v H',aI H H'->zJ K m A H H' z v->Q v H')->r x H Q
theorem EI {r:V->Hp->VK->Prop}{p:U->R U}(hp:HV X.K r mr p){Q:VK}(h:tD X.K G b1 mr (xh p g1) σ H Q):NT r (tD X.K G b1 m1 g1) σ H Q:=by
 obtain⟨Z,A,ρ,q,f⟩:=h;obtain⟨⟨u,ρ1⟩,e1,f⟩:=f.bind;obtain⟨z,e2,f⟩:=f.bind;refine⟨Z,A,ρ,q,?_⟩;rw[e1];intro v1 H1 q1 x1 s1 pR;exact hp A H1 v1 u z Q pR.pk q1.mu e2 λv H' sm vm=>f v H' (q1.same sm) (x1.trans (eD.same sm)) (lZ s1 sm) (vm.e q1 sm)
theorem qf {op:UnaryOp}{r:V->Hp->VK->Prop}{p:U->R U}(ho:LQ X (unaryOp op) r)(hp:HV X.K r mr p)(ha:DE X G a b1 m1 g1):DE X G (.UnaryOp op a pos) b1 mr (xh p g1):=⟨(JY ho ha.un).to λ_ _ _=>EI hp⟩
noncomputable def ak:Ev->R (List U×Ev):=λρ=>.ok ([],ρ)
noncomputable def ae (g:Ev->R (U×Ev))(ga:Ev->R (List U×Ev)):Ev->R (List U×Ev):=λρ=>(g ρ).bind λx=>(ga x.2).bind λy=>.ok (x.1::y.1,y.2)
variable {ga:Ev->R (List U×Ev)}{p:Bool}
theorem af:DA X G [] false p ak:=⟨c9.to λσ H Q ⟨Z,A,ρ,q,f⟩=>f [] H q eD.refl (λ_=>⟨rfl,aI.refl _⟩) (by unfold EF;split;exact rfl;exact aR.nil)⟩
theorem aa (ha:DE X G e b1 m1 g1)(hr:DA X G es b2 p ga)(hm:m1=.P->(p=true/\b2=false):=by first|exact λ_=>⟨rfl,rfl⟩|exact λh=>nomatch h)
  (hs:QK (e::es) X.env=(false,Sv e X.env)::QK es X.env:=by rfl):DA X G (e::es) (b1||b2) p (ae g1 ga):=⟨(aO ha.un hr.un hs).to λσ H Q h=>by
 obtain⟨Z,A,ρ,q,f⟩:=h;obtain⟨⟨u,ρ1⟩,e1,f⟩:=f.bind;obtain⟨⟨us,ρ2⟩,e2,f⟩:=f.bind;refine⟨Z,A,ρ,q,?_⟩;rw[e1];intro v1 H1 q1 x1 s1 pR;refine⟨Z,A,ρ1,q1,?_⟩;dsimp only at e2;rw[e2];intro vs H2 q2 x2 s2 s_;refine f (v1::vs) H2 q2 (x1.trans x2) (two s1 s2) ?_;unfold EF at s_ ⊢;cases p with
 |true=>
  rw[hV rfl] at s_ ⊢;exact⟨v1,vs,rfl,pR.later q1 x2 s2 (λz=>(hm z).2),s_⟩
 |false=>
  rw[hU QA] at s_ ⊢;exact aR.cons (pR.laterS q1 x2 λz=>QA (hm z).1) s_⟩
theorem EF.pks (h:EF K p A H us vs):w_ K H A us vs:=by
 unfold EF at h;cases p with
 |true=>rw[hV rfl] at h;exact h
 |false=>rw[hU QA] at h;exact h.pks
theorem EF.rps (h:EF K false A H us vs):aR K H A us vs:=by
 unfold EF at h;rw[hU QA] at h;exact h
noncomputable def a4 (ga:Ev->R (List U×Ev)):Ev->R (U×Ev):=λρ=>(ga ρ).bind λx=>if x.1.length<=QC then .ok (.tup x.1,x.2) else .stk
noncomputable def bF (ga:Ev->R (List U×Ev)):Ev->R (U×Ev):=λρ=>(ga ρ).bind λx=>if x.1.length<=QC then .ok (.lst x.1,x.2) else .stk
theorem ee {p:QX}(h:H p=none)(o:HO):aI H (cE H p o):=λb u q=>by rw[aL (bz q h)];exact q
theorem sI {a:QX}(h:aR K H A us vs)(n:H a=none)(l:us.length<=QC):Rp K (cE H a (.tup vs)) A (.tup us) (.ref a):=by
 unfold Rp;exact⟨a,vs,rfl,aT,l,h.same (ee n _)⟩
theorem cL {a:QX}(m:∀b,A b->Mu (H b))(h:aR K H A us vs)(n:H a=none)(l:us.length<=QC):kW K (cE H a (.lst vs)) (λb=>A b\/b=a) (.lst us) a:=
 ⟨vs,aT,l,h.re m (eD.same (ee n _)) λb z=>by
  rcases z with z|z
  ·exact .inl z
  ·subst z;exact .inr n⟩
theorem aP {x1}(h:DA X G es b1 false ga):DE X G (.Tuple es x1 pos) b1 .S (a4 ga):=⟨(A_ h.un).to λσ H Q h=>by
 obtain⟨Z,A,ρ,q,f⟩:=h;obtain⟨⟨us,ρ1⟩,e1,f⟩:=f.bind;refine⟨Z,A,ρ,q,?_⟩;rw[e1];intro vs H1 q1 x1 s1 pR;dsimp only at f;split at f
 ·rename_i l;refine⟨by rw[←pR.rps.length];exact l,λa n=>?_⟩;exact f _ _ (q1.same (ee n _)) (x1.trans (eD.same (ee n _))) (lZ s1 (ee n _)) (sG.ofS (sI pR.rps n l))
 ·exact f.elim⟩
theorem bG (h:DA X G es b1 false ga):DE X G (.List es pos) b1 .O (bF ga):=⟨(m8 h.un).to λσ H Q h=>by
 obtain⟨Z,A,ρ,q,f⟩:=h;obtain⟨⟨us,ρ1⟩,e1,f⟩:=f.bind;refine⟨Z,A,ρ,q,?_⟩;rw[e1];intro vs H1 q1 x1 s1 pR;dsimp only at f;split at f
 ·rename_i l;refine⟨by rw[←pR.rps.length];exact l,λa n=>?_⟩;exact f _ _ (q1.same (ee n _)) (x1.trans (eD.same (ee n _))) (lZ s1 (ee n _)) (zJ.e q1 (ee n _) ⟨a,rfl,n,cL q1.mu pR.rps n l⟩)
 ·exact f.elim⟩
noncomputable def gb (p:List U->R U)(ga:Ev->R (List U×Ev)):Ev->R (U×Ev):=λρ=>(ga ρ).bind λx=>(p x.1).bind λz=>.ok (z,x.2)
def l4 (K:QB)(r:List V->Hp->VK->Prop)(m:Md)(p:List U->R U):Prop:=∀A H vs us z Q,w_ K H A us vs->(∀a,A a->Mu (H a))->p us=.ok z->(∀v H',aI H H'->zJ K m A H H' z v->Q v H')->r vs H Q
theorem ye {r:List V->Hp->VK->Prop}{f:List U->R U}(hp:l4 X.K r mr f){Q:VK}(h:tD X.K G b1 mr (gb f ga) σ H Q):ML r (MQ X.K G b1 p ga) σ H Q:=by
 obtain⟨Z,A,ρ,q,f⟩:=h;obtain⟨⟨us,ρ1⟩,e1,f⟩:=f.bind;obtain⟨z,e2,f⟩:=f.bind;refine⟨Z,A,ρ,q,?_⟩;rw[e1];intro vs H1 q1 x1 s1 pR;exact hp A H1 vs us z Q pR.pks q1.mu e2 λv H' sm vm=>f v H' (q1.same sm) (x1.trans (eD.same sm)) (lZ s1 sm) (vm.e q1 sm)
theorem aM {id:String}{p1:Pos}{r:List V->Hp->VK->Prop}{f:List U->R U}(hc:fj X (.builtin id) r)(hp:l4 X.K r mr f)(hg:Gl X x)(hm:X.mg x=none)(hv:Ra x=some (.builtin id))(ha:DA X G (e::es) b1 true ga)(hn:x≠"__name__":=by decide)(uN:(x==("__debug__":Str))=false:=by decide)
  (he:QK (e::es) X.env=(false,Sv e X.env)::QK es X.env:=by rfl) (mU:(Sd pos (QK es X.env)).any (·.1)=false:=by rfl):DE X G (.Call (.Name x p1) (e::es) [] pos) b1 mr (gb f ga):=⟨(lW hc hg hm hv ha.un hn uN he mU).to λ_ _ _=>ye hp⟩
theorem fP {p1:Pos}{r:List V->Hp->VK->Prop}{f:List U->R U}(hc:fj X (.type T) r)(hp:l4 X.K r mr f)(hg:Gl X x)(hm:X.mg x=none)(hv:Ra x=some (.type T))(ha:DA X G (e::es) b1 true ga)(hn:x≠"__name__":=by decide)(uN:(x==("__debug__":Str))=false:=by decide)(he:QK (e::es) X.env=(false,Sv e X.env)::QK es X.env:=by rfl)(mU:(Sd pos (QK es X.env)).any (·.1)=false:=by rfl):DE X G (.Call (.Name x p1) (e::es) [] pos) b1 mr (gb f ga):=⟨(ng hc hg hm hv ha.un hn uN he mU).to λ_ _ _=>ye hp⟩
end
end L2
namespace L2
section
variable {A':QX->Prop}{ρ':Ev}{b p:Bool}{m:Md}{α:Type}
theorem kW.mono (n:∀b,A' b->A b){u:U}(h:kW K H A u a):kW K H A' u a:=by
 cases u<;>(unfold kW at h ⊢)
 case lst us=>obtain⟨xs,q,l,z⟩:=h;exact⟨xs,q,l,z.mono n⟩
 case dct ks us=>obtain⟨xs,q,l,z⟩:=h;exact⟨xs,q,l,z.mono n⟩
 all_goals exact h.elim
theorem eL {α:Type}{l:List (Option α)}{x:Option α}{y:α}(h:(l.set i x)[j]? = some (some y)):(i=j/\x=some y)\/(i≠j/\l[j]? = some (some y)):=by
 by_cases e:i=j
 ·subst e;rw[List.getElem?_set_self'] at h;refine .inl ⟨rfl,?_⟩;cases q:l[i]? with
  |none=>rw[q] at h;cases h
  |some w=>rw[q] at h;exact Q0 h
 ·rw[QY e] at h;exact .inr ⟨e,h⟩
theorem pE {α:Type}{l l':List (Option α)}{x:α}{β:Type}{k:List (Option β)}{y:Option β}{z:β}(hl:k.length=l.length)(h:(k.set i y)[i]? = some (some z)):(l.set i (some x))[i]? = some (some x):=by
 have:i<l.length:=by
  have:=(QH.mp h).1;rw[RJ] at this;lia
 rw[RY this]
theorem cZ.set (r:cZ K G Z A ρ σ H){u:U}(c:G.is i=false)(h:Rp K H A u v):cZ K G Z A (ρ.set i (some u)) (σ.set i (some v)) H where
 slot:=λj w hj=>by
  rcases eL hj with⟨rfl,e⟩|⟨ne,e⟩
  ·cases e;refine⟨v,pE (l':=σ) r.len hj,?_⟩;rw[hU (by rw[c];exact QA)];exact h
  ·rw[QY ne];exact r.slot j w e
 dis:=λj k w w' a cj ck ne hj hk sj sk=>by
  rcases eL hj with⟨rfl,_⟩|⟨n1,e1⟩
  ·rw[c] at cj;cases cj
  ·rcases eL hk with⟨rfl,_⟩|⟨n2,e2⟩
   ·rw[c] at ck;cases ck
   ·rw[QY n1] at sj;rw[QY n2] at sk;exact r.dis j k w w' a cj ck ne e1 e2 sj sk
 mu:=r.mu
 sup:=r.sup
 out:=r.out
 bas:=r.bas
 io0:=λh0=>by
  obtain⟨a,b⟩:=r.io0 h0;refine⟨?_,b⟩;have:i≠0:=λz=>by subst z;rw[b] at c;cases c
  rw[QY this];exact a
 len:=by rw[RJ,RJ];exact r.len
theorem cZ.setO (r:cZ K G Z A ρ σ H){u:U}(c:G.is i=true)(hi:G.io=true->i≠0)(na:¬A a)(nb:Z.B a=none)(r':cZ K G Z (λb=>A b\/b=a) ρ σ H)(h:kW K H (λb=>A b\/b=a) u a) :
  cZ K G Z (λb=>A b\/b=a) (ρ.set i (some u)) (σ.set i (some (.ref a))) H where
 slot:=λj w hj=>by
  rcases eL hj with⟨rfl,e⟩|⟨ne,e⟩
  ·cases e;refine⟨.ref a,pE (l':=σ) r.len hj,?_⟩;rw[hV c];exact⟨a,rfl,.inr rfl,nb,.inl λz=>na (r.sup a z),h⟩
  ·rw[QY ne];exact r'.slot j w e
 dis:=λj k w w' b cj ck ne hj hk sj sk=>by
  have key:∀k w',G.is k=true->i≠k->ρ[k]? = some (some w')->σ[k]? ≠ some (some (.ref a)):=λk w' ck _ e q=>by
   obtain⟨b,h1,h2,_⟩:=r.own ck e;rw[h1] at q;cases q;exact na h2
  rcases eL hj with⟨rfl,e1⟩|⟨n1,e1⟩
  ·rcases eL hk with⟨rfl,_⟩|⟨n2,e2⟩
   ·exact ne rfl
   ·rw[pE (l':=σ) r.len hj] at sj;cases sj;rw[QY n2] at sk;exact key k w' ck n2 e2 sk
  ·rcases eL hk with⟨rfl,e2⟩|⟨n2,e2⟩
   ·rw[pE (l':=σ) r.len hk] at sk;cases sk;rw[QY n1] at sj;exact key j w cj n1 e1 sj
   ·rw[QY n1] at sj;rw[QY n2] at sk;exact r.dis j k w w' b cj ck ne e1 e2 sj sk
 mu:=r'.mu
 sup:=r'.sup
 out:=r'.out
 bas:=r'.bas
 io0:=λh0=>by
  obtain⟨a,b⟩:=r.io0 h0;exact⟨by rw[QY (hi h0)];exact a,b⟩
 len:=by rw[RJ,RJ];exact r.len
theorem cZ.put (r:cZ K G Z A ρ σ H){u w:U}(c:G.is i=true)(h:ρ[i]? = some (some u))(ha:σ[i]? = some (some (.ref a)))(e:∀b o,b≠a->H b=some o->H' b=some o)(t:kW K H' A w a) :
  cZ K G Z A (ρ.set i (some w)) σ H':=by
 obtain⟨a',h1,h2,h3,h4,h5⟩:=r.own c h;rw[ha] at h1;cases h1;have x:eD A H H':=λb o nb z=>e b o (λq=>nb (q▸h2)) z;exact {
  slot:=λj y hj=>by
   rcases eL hj with⟨rfl,q⟩|⟨ne,q⟩
   ·cases q;refine⟨.ref a,ha,?_⟩;rw[hV c];exact⟨a,rfl,h2,h3,h4,t⟩
   ·obtain⟨v,s1,s2⟩:=r.slot j y q;refine⟨v,s1,?_⟩;by_cases cj:G.is j=true
    ·rw[hV cj] at s2 ⊢;obtain⟨b,e1,e2,e3,e4,e5⟩:=s2;refine⟨b,e1,e2,e3,e4,e5.re r.mu x (λb z=>.inl z) λo z=>e b o (λq'=>?_) z⟩;subst q' e1;exact r.dis i j u y b c cj ne h q ha s1
    ·rw[hU cj] at s2 ⊢;exact s2.re r.mu x λb z=>.inl z
  dis:=λj k y y' b cj ck ne hj hk sj sk=>by
   have f:∀j y,(ρ.set i (some w))[j]? = some (some y)->∃y',ρ[j]? = some (some y'):=λj y hj=>by
    rcases eL hj with⟨rfl,q⟩|⟨ne,q⟩
    ·exact⟨u,h⟩
    ·exact⟨y,q⟩
   obtain⟨y1,hj⟩:=f j y hj;obtain⟨y2,hk⟩:=f k y' hk;exact r.dis j k y1 y2 b cj ck ne hj hk sj sk
  mu:=λb z=>by
   by_cases q:b=a
   ·subst q;exact t.mu
   ·have m:=r.mu b z;obtain⟨o,z⟩:=m.ex;rw[e b o q z,←z];exact m
  sup:=r.sup
  out:=r.out
  bas:=λb o z=>e b o (λq=>by subst q;rw[h3] at z;cases z) (r.bas b o z)
  io0:=r.io0
  len:=by rw[RJ];exact r.len}
end
def EJ (K:QB)(m:Md)(A:QX->Prop)(H:Hp):R U->VK->Prop
 | .ok u,Q=>∀v H',aI H H'->zJ K m A H H' u v->Q v H'
 |_,_=>False
noncomputable def uW {α:Type}(n:Nat)(g:List U->R α)(us:List U):R α:=if us.length=n then g us else .stk
def dI (K:QB)(n:Nat)(f:List U->R U)(m:Md):Sp:=λvs H Q _=>∃us A,aR K H A us vs/\(∀a,A a->Mu (H a))/\EJ K m A H (uW n f us) Q
def yf (K:QB)(n:Nat)(f:List U->R (U×U)):Sp:=λvs H Q _=>∃u0 us a0 vs' A,vs=.ref a0::vs'/\A a0/\kW K H A u0 a0/\aR K H A us vs'/\(∀a,A a->Mu (H a))/\match uW n f (u0::us) with
 | .ok (u,w)=>∀v H',(∀b o,b≠a0->H b=some o->H' b=some o)->kW K H' A w a0->Rp K H' A u v->Q v H'
 |_=>False
section
variable {e a b:RP}{rest:List RP}{p1:Pos}{b1 b2 b3:Bool}{m1 m2 m3 mr:Md}{g1 g2 g3:Ev->R (U×Ev)}{h1 h2:Ev->R (Bool×Ev)}{ga:Ev->R (List U×Ev)}
noncomputable def dz (n:Nat)(f:List U->R U)(ga:Ev->R (List U×Ev)):Ev->R (U×Ev):=λρ=>(ga ρ).bind λx=>(uW n f x.1).bind λz=>.ok (z,x.2)
theorem ar {f:List U->R U}(F:Fn X.prog X.w X.K X.mg X.base x k ps (dI X.K n f mr))(hr:et k X.A)(ha:DA X G (e::es) b1 false ga)(hg:Gl X x:=by rfl)(uN:(x==("__debug__":Str))=false:=by decide)(he:QK (e::es) X.env=(false,Sv e X.env)::QK es X.env:=by rfl)(mU:(Sd pos (QK es X.env)).any (·.1)=false:=by rfl):DE X G (.Call (.Name x p1) (e::es) [] pos) b1 mr (dz n f ga):=⟨(vg F hr ha.un hg uN he mU).to λσ H Q h=>by
 obtain⟨Z,A,ρ,q,f⟩:=h;obtain⟨⟨us,ρ1⟩,e1,f⟩:=f.bind;obtain⟨z,e2,f⟩:=f.bind;refine⟨Z,A,ρ,q,?_⟩;rw[e1];intro vs H1 q1 x1 s1 pR;show dI _ _ _ _ _ _ _ _;rw[Q1];refine⟨us,A,pR.rps,q1.mu,?_⟩;dsimp only at e2;rw[e2];exact λv H' sm vm=>f v H' (q1.same sm) (x1.trans (eD.same sm)) (lZ s1 sm) (vm.e q1 sm)⟩
noncomputable def zL (ρ:Ev)(i:Nat):Bool:=match ρ[i]? with
 |some (some _)=>true
 |_=>false
theorem tU (h:zL ρ i=true):∃u,ρ[i]? = some (some u):=by
 unfold zL at h;split at h
 ·rename_i u hu;exact⟨u,hu⟩
 ·cases h
noncomputable def nq (n i:Nat)(f:List U->R (U×U))(ga:Ev->R (List U×Ev)):Ev->R (U×Ev):=λρ=>if zL ρ i=true then (ga ρ).bind λx=>match x.2[i]? with
 |some (some u0)=>(uW n f (u0::x.1)).bind λz=>.ok (z.1,x.2.set i (some z.2))
 |_=>.stk
 else .stk
theorem bK {y:Str}{p2:Pos}{f:List U->R (U×U)}(F:Fn X.prog X.w X.K X.mg X.base x k ps (yf X.K n f))(hr:et k X.A)(ha:DA X G es b1 false ga)(hN:X.N[i]? = some y:=by rfl)(hv:zk X.env.scope y:=by first|exact Or.inl rfl|exact Or.inr (Or.inl rfl)|exact Or.inr (Or.inr rfl))(c:G.is i=true:=by rfl)(hd:(y==("__debug__":Str))=false:=by decide)(kn:(y==("__classdict__":Str))=false:=by decide)(hs:QK (.Name y p2::es) X.env=(false,Sv (.Name y p2) X.env)::QK es X.env:=by rfl)(hg:Gl X x:=by rfl)(uN:(x==("__debug__":Str))=false:=by decide)(mU:(Sd pos (QK es X.env)).any (·.1)=false:=by rfl):DE X G (.Call (.Name x p1) (.Name y p2::es) [] pos) true .S (nq n i f ga):=⟨(vg F hr (aO (iR hN hv hd kn) ha.un hs) hg uN hs mU).to λσ H Q h=>by
 obtain⟨Z,A,ρ,q,f⟩:=h;unfold nq at f;split at f
 ·rename_i hl;obtain⟨u00,hu0⟩:=tU hl;obtain⟨a0,h0,_⟩:=q.own c hu0;obtain⟨⟨us,ρ1⟩,e1,f⟩:=f.bind;dsimp only at f;split at f
  ·rename_i u0 hu;obtain⟨⟨z,w⟩,e2,f⟩:=f.bind;refine⟨.ref a0,h0,Z,A,ρ,q,?_⟩;rw[e1];intro vs H1 q1 x1 s1 pR;obtain⟨a0',k1,k2,_,_,k3⟩:=q1.own c hu;rw[h0] at k1;cases k1;show yf _ _ _ _ _ _ _;rw[Q1];refine⟨u0,us,a0,vs,A,rfl,k2,k3,pR.rps,q1.mu,?_⟩;rw[e2];intro v H' em tp rp;exact f v H' (q1.put c hu h0 em tp) (x1.trans λb o nb z=>em b o (λy=>nb (y▸k2)) z) (λz=>nomatch z) rp
  ·exact f.elim
 ·exact f.elim⟩
def BH (K:QB)(T:String)(r:V->List V->Hp->VK->Prop)(p:U->List U->R (U×U)):Prop:=∀A H a u vs us z w Q,kW K H A u a->A a->aR K H A us vs->(∀a,A a->Mu (H a))->p u us=.ok (z,w)->
 (∀v H',(∀b o,b≠a->H b=some o->H' b=some o)->kW K H' A w a->Rp K H' A z v->Q v H')->r (.ref a) vs H Q
noncomputable def zM:U->String->Bool
 | .lst _,T=>T=="list"
 |_,_=>false
theorem HW {u:U}{a:QX}(h:kW K H A u a)(t:zM u T=true):LU K T (.ref a) H:=by
 cases u<;>(unfold zM at t;unfold kW at h)
 case lst us=>
  obtain⟨xs,q,_⟩:=h;exact .inl ⟨by simpa using t,xs,.inl (.inl q)⟩
 all_goals cases t
noncomputable def gM (T:String)(i:Nat)(p:U->List U->R (U×U))(ga:Ev->R (List U×Ev)):Ev->R (U×Ev):=λρ=>match ρ[i]? with
 |some (some u1)=>if zM u1 T=true then (ga ρ).bind λx=>match x.2[i]? with
  |some (some u0)=>(p u0 x.1).bind λz=>.ok (z.1,x.2.set i (some z.2))
  |_=>.stk
  else .stk
 |_=>.stk
theorem BI {r:V->List V->Hp->VK->Prop}{p:U->List U->R (U×U)}(hp:BH X.K T r p)(c:G.is i=true){Q:VK}(h:tD X.K G true .S (gM T i p ga) σ H Q) :
  NY X.K T r (D8 i) (MQ X.K G b1 false ga) σ H Q:=by
 obtain⟨Z,A,ρ,q,f⟩:=h;unfold gM at f;split at f
 ·rename_i u1 iE;split at f
  ·rename_i ht;obtain⟨a0,h0,_,_,_,t0⟩:=q.own c iE;obtain⟨⟨us,ρ1⟩,e1,f⟩:=f.bind;dsimp only at f;split at f
   ·rename_i u0 hu;obtain⟨⟨z,w⟩,e2,f⟩:=f.bind;refine⟨.ref a0,h0,HW t0 ht,Z,A,ρ,q,?_⟩;rw[e1];intro vs H1 q1 x1 s1 pR;obtain⟨a0',k1,k2,_,_,k3⟩:=q1.own c hu;rw[h0] at k1;cases k1;exact hp A H1 a0 u0 vs us z w Q k3 k2 pR.rps q1.mu e2 λv H' em tp rp=>f v H' (q1.put c hu h0 em tp) (x1.trans λb o nb z=>em b o (λy=>nb (y▸k2)) z) (λz=>nomatch z) rp
   ·exact f.elim
  ·exact f.elim
 ·exact f.elim
theorem nA {id:String}{y name:Str}{p2 kr:Pos}{r:V->List V->Hp->VK->Prop}{p:U->List U->R (U×U)}(pa:PlainAttrs T)(slot:Slot T name id)(Lo:typeOf (.builtin id)=pure (.type "method_descriptor"))(hm:AJ X id r)(hp:BH X.K T r p)(ha:DA X G (e::es) b1 false ga)(hN:X.N[i]? = some y:=by rfl)(hv:zk X.env.scope y:=by first|exact Or.inl rfl|exact Or.inr (Or.inl rfl)|exact Or.inr (Or.inr rfl))(c:G.is i=true:=by rfl)(hd:(y==("__debug__":Str))=false:=by decide)(kn:(y==("__classdict__":Str))=false:=by decide)(rC:Te (.Name y p2) name X.env (Sv (.Name y p2) X.env)=Sv (.Name y p2) X.env:=by rfl)(Jd:((Sd pos (QK (e::es) X.env)).all (λx=> !x.1)&&(backToKw pos (keywordEach [] X.env)).all (λx=>x.1.isSome)
   && decide ((e::es).length+([]:List Keyword).length+(if ([]:List Keyword).isEmpty then 0 else 1)<30))=true:=by rfl)(rD:(kr.endLine==pos.line)=true:=by rfl)(hs:QK (e::es) X.env=(false,Sv e X.env)::QK es X.env:=by rfl)(xT:(Sd pos (QK es X.env)).any (·.1)=false:=by rfl) :
  DE X G (.Call (.Attribute (.Name y p2) name kr) (e::es) [] pos) true .S (gM T i p ga):=⟨(Bh pa slot Lo hm (iR hN hv hd kn) ha.un rC Jd rD hs xT).to λ_ _ _=>BI hp c⟩
def BJ (K:QB)(r:V->Option Int->Option Int->Hp->VK->Prop)(m:Md)(p:U->Option Int->Option Int->R U):Prop:=∀A H x u lo hi z Q,Pk K H A u x->(∀a,A a->Mu (H a))->p u lo hi=.ok z->(∀v H',aI H H'->zJ K m A H H' z v->Q v H')->r x lo hi H Q
def MR (K:QB)(G:Gm)(Z:Pkg)(A:QX->Prop)(b:Bool)(ρ:Ev)(σ:St)(H:Hp):R (Option Int×Ev)->(Option Int->Hp->Prop)->Prop
 | .ok (c,ρ'),Q=>∀H',cZ K G Z A ρ' σ H'->eD A H H'->(b=false->ρ'=ρ/\aI H H')->Q c H'
 |_,_=>False
def OQ (K:QB)(G:Gm)(b:Bool)(g:Ev->R (Option Int×Ev)):TO:=λσ H Q=>∃Z A ρ,cZ K G Z A ρ σ H/\MR K G Z A b ρ σ H (g ρ) Q
structure DO (X:Cx)(G:Gm)(e:Option RP)(b:Bool)(g:Ev->R (Option Int×Ev)):Prop where
 un:PO X e (OQ X.K G b g)
noncomputable def dN:Ev->R (Option Int×Ev):=λρ=>.ok (none,ρ)
noncomputable def dE (g:Ev->R (U×Ev)):Ev->R (Option Int×Ev):=λρ=>(g ρ).bind λx=>match x.1 with
 | .int i=>.ok (some i,x.2)
 |_=>.stk
theorem PO.to {e:Option RP}{t t':TO}(h:PO X e t)(i:∀σ H Q,t' σ H Q->t σ H Q):PO X e t':=λpins s σ H Q I q=>h pins s σ H Q I (i _ _ _ q)
theorem cO:DO X G none false dN:=⟨El.to λσ H Q ⟨Z,A,ρ,q,f⟩=>f H q eD.refl λ_=>⟨rfl,aI.refl _⟩⟩
theorem cP (h:DE X G e b1 m1 g1):DO X G (some e) b1 (dE g1):=⟨(Em h.un).to λσ H Q h00=>by
 obtain⟨Z,A,ρ,q,f⟩:=h00;refine⟨Z,A,ρ,q,?_⟩;unfold dE at f;cases e1:g1 ρ with
 |stk=>rw[e1] at f;exact f.elim
 |exc=>rw[e1] at f;exact f.elim
 |ok x=>
  obtain⟨u,ρ1⟩:=x;rw[e1] at f;intro v H1 q1 x1 s1 vm;cases u with
  |int c=>exact⟨c,vm.pk.int,f H1 q1 x1 s1⟩
  |_=>exact f.elim⟩
noncomputable def qg (p:U->Option Int->Option Int->R U)(g:Ev->R (U×Ev))(lo hi:Ev->R (Option Int×Ev)):Ev->R (U×Ev):=λρ=>(g ρ).bind λx=>(lo x.2).bind λl=>(hi l.2).bind λh=>(p x.1 l.1 h.1).bind λz=>.ok (z,h.2)
theorem b9 {r:V->Option Int->Option Int->Hp->VK->Prop}{p:U->Option Int->Option Int->R U}{lo hi:Option RP}{p2:Pos}{gl gh:Ev->R (Option Int×Ev)}(hr:Bc X r)(hp:BJ X.K r mr p)(he:DE X G e b1 m1 g1)(hl:DO X G lo b2 gl)(hu:DO X G hi b3 gh)
  (hm:m1=.P->(b2||b3)=false:=by first|exact λ_=>rfl|exact λh=>nomatch h):DE X G (.Subscript e (.Slice lo hi none p2) pos) (b1||(b2||b3)) mr (qg p g1 gl gh):=⟨(Be hr he.un hl.un hu.un).to λσ H Q h=>by
 obtain⟨Z,A,ρ,q,f⟩:=h;obtain⟨⟨u,ρ1⟩,e1,f⟩:=f.bind;obtain⟨⟨l,ρ2⟩,e2,f⟩:=f.bind;obtain⟨⟨h,ρ3⟩,e3,f⟩:=f.bind;obtain⟨z,e4,f⟩:=f.bind;dsimp only at e2 e3 e4 f;refine⟨Z,A,ρ,q,?_⟩;rw[e1];intro v1 H1 q1 x1 s1 pR;refine⟨Z,A,ρ1,q1,?_⟩;rw[e2];intro H2 q2 x2 s2;refine⟨Z,A,ρ2,q2,?_⟩;rw[e3];intro H3 q3 x3 s3;exact hp A H3 v1 u l h z Q (pR.later q1 (x2.trans x3) (two s2 s3) hm) q3.mu e4 λv H' sm vm=>f v H' (q3.same sm) ((x1.trans (x2.trans x3)).trans (eD.same sm)) (lZ (two s1 (two s2 s3)) sm) (vm.e q3 sm)⟩
end
end L2
namespace L2
def MS (K:QB)(G:Gm)(sg:U->Ev->R Ev):TG:=λv σ H Q=>∃Z A ρ u,cZ K G Z A ρ σ H/\Rp K H A u v/\match sg u ρ with
 | .ok ρ'=>∀σ',cZ K G Z A ρ' σ' H->(∀i,G.is i=true->σ'[i]? = σ[i]?)->Q σ' H
 |_=>False
structure DG (X:Cx)(G:Gm)(tg:RP)(sg:U->Ev->R Ev):Prop where
 un:PG X tg (MS X.K G sg)
def MT (K:QB)(G:Gm)(sg:List U->Ev->R Ev):Ea:=λvs σ H Q=>∃Z A ρ us,cZ K G Z A ρ σ H/\aR K H A us vs/\match sg us ρ with
 | .ok ρ'=>∀σ',cZ K G Z A ρ' σ' H->(∀i,G.is i=true->σ'[i]? = σ[i]?)->Q σ' H
 |_=>False
structure LZ (X:Cx)(G:Gm)(tgs:List RP)(sg:List U->Ev->R Ev):Prop where
 un:Fx X tgs (MT X.K G sg)
noncomputable def fh (i:Nat):U->Ev->R Ev:=λu ρ=>.ok (ρ.set i (some u))
noncomputable def og:List U->Ev->R Ev:=λus ρ=>match us with
 | []=>.ok ρ
 |_=>.stk
noncomputable def fo (s:U->Ev->R Ev)(t:List U->Ev->R Ev):List U->Ev->R Ev:=λus ρ=>match us with
 |u::r=>(s u ρ).bind λρ1=>t r ρ1
 |_=>.stk
noncomputable def oh (n:Nat)(t:List U->Ev->R Ev):U->Ev->R Ev:=λu ρ=>match u with
 | .tup us=>if us.length=n then t us ρ else .stk
 |_=>.stk
theorem Fx.to {t t':Ea}(h:Fx X es t)(i:∀v σ H Q,t' v σ H Q->t v σ H Q):Fx X es t':=λpins s σ H v u Q I r q=>h pins s σ H v u Q I r (i _ _ _ _ q)
theorem bj (hN:X.N.Nodup)(hi:X.N[i]? = some x:=by rfl)(hx:AQ X.env.scope x:=by first|exact Or.inl rfl|exact Or.inr rfl)(c:G.is i=false:=by rfl)(hf:X.fn x=true\/X.env.scope.names.lookup x=some .local:=by first|exact .inl rfl|exact .inr rfl|assumption):DG X G (.Name x pos) (fh i):=⟨(Eb hN hi hx hf).to λv σ H Q ⟨Z,A,ρ,u,q,r,f⟩=>f _ (q.set c r) λj cj=>by
  have:i≠j:=λz=>by subst z;rw[c] at cj;cases cj
  rw[QY this]⟩
theorem yg:LZ X G [] og:=⟨Ec.to λvs σ H Q h00=>by
 obtain⟨Z,A,ρ,us,q,r,f⟩:=h00;unfold og at f;cases us with
 |nil=>unfold aR at r;exact⟨r,f σ q λ_ _=>rfl⟩
 |cons=>exact f.elim⟩
theorem l5 {e:RP}{s:U->Ev->R Ev}{t:List U->Ev->R Ev}(h1:DG X G e s)(h2:LZ X G es t)(hs:(Sl (e::es) X.env).map (·.2)=assign e X.env::(Sl es X.env).map (·.2):=by rfl):LZ X G (e::es) (fo s t):=⟨(AX h1.un h2.un hs).to λvs σ H Q h00=>by
 obtain⟨Z,A,ρ,us,q,r,f⟩:=h00;unfold fo at f;cases us with
 |nil=>exact f.elim
 |cons u us=>
  unfold aR at r;obtain⟨v,vr,rfl,r1,r2⟩:=r;dsimp only at f;refine⟨v,vr,rfl,Z,A,ρ,u,q,r1,?_⟩;cases e1:s u ρ with
  |ok ρ1=>
   rw[e1] at f;simp only[R.bind] at f;intro σ1 q1 o1;refine⟨Z,A,ρ1,us,q1,r2,?_⟩;cases e2:t us ρ1 with
   |ok ρ2=>rw[e2] at f;exact λσ2 q2 o2=>f σ2 q2 λi c=>(o2 i c).trans (o1 i c)
   |exc=>rw[e2] at f;exact f.elim
   |stk=>rw[e2] at f;exact f.elim
  |exc=>rw[e1] at f;exact f.elim
  |stk=>rw[e1] at f;exact f.elim⟩
theorem BK {t:List U->Ev->R Ev}(hc:X.calm=true)(h:LZ X G es t)(hn:(Sl es X.env).length=n:=by rfl)(GX:(Sl es X.env).findIdx? (·.1)=none:=by rfl):DG X G (.Tuple es k pos) (oh n t):=⟨(Hj hc h.un hn GX).to λv σ H Q h00=>by
 obtain⟨Z,A,ρ,u,q,r,f⟩:=h00;unfold oh at f;cases u with
 |tup us=>
  unfold Rp at r;obtain⟨a,xs,rfl,sq,l,rs⟩:=r;dsimp only at f;by_cases hl:us.length=n
  ·rw[hV hl] at f;exact⟨a,xs,rfl,gL.of sq,by rw[←rs.length];exact hl,Z,A,ρ,us,q,rs,f⟩
  ·rw[hU hl] at f;exact f.elim
 |_=>exact f.elim⟩
def OR (K:QB)(Z:Pkg)(m:Md)(H:Hp)(u:U)(v:V):Prop:=match m with
 | .S=>Rp K H Z.A0 u v
 | .O=>∃a,v=.ref a/\Z.B a=none/\¬Z.A0 a/\kW K H (λb=>Z.A0 b\/b=a) u a
 | .P=>False
def qh (K:QB)(G:Gm)(Z:Pkg)(m:Md):SR->lu->Prop
 | .nx ρ',D=>∀A' σ' H',cZ K G Z A' ρ' σ' H'->D.nx σ' H'
 | .bk ρ',D=>∀A' σ' H',cZ K G Z A' ρ' σ' H'->D.bk σ' H'
 | .ct ρ',D=>∀A' σ' H',cZ K G Z A' ρ' σ' H'->D.ct σ' H'
 | .rt u ρ',D=>∀A' σ' H' v,cZ K G Z A' ρ' σ' H'->OR K Z m H' u v->D.rt v H'
 | .exc _ _,_=>∀H',(∀a o,Z.B a=some o->H' a=some o)->G.W H'
 | .stk,_=>False
def JC (K:QB)(G:Gm)(m:Md)(g:Ev->SR):TS:=λD σ H=>∃Z A ρ,cZ K G Z A ρ σ H/\qh K G Z m (g ρ) D
structure DS (X:Cx)(G:Gm)(m:Md)(st:Si)(g:Ev->SR):Prop where
 un:PS X st (JC X.K G m g)
structure vi (X:Cx)(G:Gm)(m:Md)(st:List Si)(g:Ev->SR):Prop where
 un:pj X st (JC X.K G m g)
noncomputable def bf:Ev->SR:=.nx
noncomputable def az (g1 g2:Ev->SR):Ev->SR:=λρ=>match g1 ρ with
 | .nx ρ'=>g2 ρ'
 |r=>r
noncomputable def SR.of {α:Type}:R α->(α->SR)->SR
 | .ok a,f=>f a
 |_,_=>.stk
section
variable {m:Md}{α:Type}
theorem qh.of {x:R α}{k:α->SR}{D:lu}(f:qh K G Z m (SR.of x k) D):∃a,x=.ok a/\qh K G Z m (k a) D:=by
 cases x with
 |ok a=>exact⟨a,rfl,f⟩
 |exc=>exact f.elim
 |stk=>exact f.elim
end
section
variable {e a b:RP}{st:Si}{Ja rest:List Si}{p1:Pos}{b1 b2 b3:Bool}{m m1 m2 m3 mr:Md}{g1 g2 g3:Ev->R (U×Ev)}{h1 h2:Ev->R (Bool×Ev)}{ga:Ev->R (List U×Ev)}{s1 s2:Ev->SR}
theorem aK:vi X G m [] bf:=⟨tu.to λD σ H ⟨Z,A,ρ,q,f⟩=>f A σ H q⟩
theorem aq (h:DS X G m st s1):vi X G m [st] s1:=⟨kF h.un⟩
theorem ai (ha:DS X G m st s1)(hb:vi X G m rest s2):vi X G m (st::rest) (az s1 s2):=⟨(g5 ha.un hb.un).to λD σ H h00=>by
 obtain⟨Z,A,ρ,q,f⟩:=h00;refine⟨Z,A,ρ,q,?_⟩;unfold az at f;cases e:s1 ρ with
 |nx ρ1=>rw[e] at f;exact λA1 σ1 H1 q1=>⟨Z,A1,ρ1,q1,f⟩
 |rt=>rw[e] at f;exact f
 |bk=>rw[e] at f;exact f
 |ct=>rw[e] at f;exact f
 |exc=>rw[e] at f;exact f
 |stk=>rw[e] at f;exact f⟩
noncomputable def HX:Ev->SR:=.bk
noncomputable def Kt:Ev->SR:=.ct
noncomputable def k8 (g:Ev->R (U×Ev)):Ev->SR:=λρ=>SR.of (g ρ) λx=>.nx x.2
theorem kH (h:DE X G e b1 m1 g1)(hs:TM e none pos.line X.env=pure false:=by rfl):DS X G m (.Expr e pos) (k8 g1):=⟨(D_ h.un hs).to λD σ H h00=>by
 obtain⟨Z,A,ρ,q,f⟩:=h00;obtain⟨⟨u,ρ1⟩,e1,f⟩:=f.of;refine⟨Z,A,ρ,q,?_⟩;rw[e1];exact λv H1 q1 _ _ _=>f A σ H1 q1⟩
noncomputable def a6 (g:Ev->R (U×Ev)):Ev->SR:=λρ=>SR.of (g ρ) λx=>.rt x.1 x.2
theorem aA (h:DE X G e b1 m1 g1)(hn:m1≠.P:=by decide):DS X G .S (.Return (some e) pos) (a6 g1):=⟨(jY h.un).to λD σ H h00=>by
 obtain⟨Z,A,ρ,q,f⟩:=h00;obtain⟨⟨u,ρ1⟩,e1,f⟩:=f.of;refine⟨Z,A,ρ,q,?_⟩;rw[e1];exact λv H1 q1 _ _ vm=>f A σ H1 v q1 ((vm.rp hn).mono q1.sup)⟩
theorem l6 (h:DE X G e b1 .O g1):DS X G .O (.Return (some e) pos) (a6 g1):=⟨(jY h.un).to λD σ H h00=>by
 obtain⟨Z,A,ρ,q,f⟩:=h00;obtain⟨⟨u,ρ1⟩,e1,f⟩:=f.of;refine⟨Z,A,ρ,q,?_⟩;rw[e1];intro v H1 q1 _ _ vm;obtain⟨a,rfl,na,nb,_,t⟩:=vm;exact f A σ H1 _ q1 ⟨a,rfl,nb,λz=>na (q1.sup a z),t.mono λb z=>z.imp (q1.sup b) id⟩⟩
theorem yh (hm:m≠.P:=by decide)(hi:G.io=true->i≠0)(hN:X.N[i]? = some x:=by rfl)(hv:zk X.env.scope x:=by first|exact Or.inl rfl|exact Or.inr (Or.inl rfl)|exact Or.inr (Or.inr rfl))(hd:(x==("__debug__":Str))=false:=by decide)(kn:(x==("__classdict__":Str))=false:=by decide)(c:G.is i=true:=by rfl):DS X G m (.Return (some (.Name x p1)) pos) (a6 (ag i)):=⟨(jY (iR hN hv hd kn)).to λD σ H h00=>by
 obtain⟨Z,A,ρ,q,f⟩:=h00;obtain⟨⟨u,ρ1⟩,e1,f⟩:=f.of;unfold ag at e1;split at e1
 ·rename_i u' hu;cases e1;obtain⟨a,h1,h2,h3,h4,h5⟩:=q.own c hu;have na:¬Z.A0 a:=by
   rcases h4 with h4|⟨h4,h6⟩
   ·exact h4
   ·exact absurd h6 (hi h4)
  refine⟨.ref a,h1,f A σ H _ q ?_⟩;cases m with
  |S=>exact h5.rp q.sup na
  |O=>exact⟨a,rfl,h3,na,h5.mono λb z=>by
    rcases z with z|z
    ·exact q.sup b z
    ·subst z;exact h2⟩
  |P=>exact absurd rfl hm
 ·cases e1⟩
noncomputable def a_ (i:Nat)(g:Ev->R (U×Ev)):Ev->SR:=λρ=>SR.of (g ρ) λx=>.nx (x.2.set i (some x.1))
theorem vj (c:G.is i=false)(hn:m1≠.P)(hi:∀σ H Q,tD X.K G b1 m1 g1 σ H Q->te σ H Q){D:lu}(h:JC X.K G m (a_ i g1) D σ H):AY te (u3 i) D σ H:=by
 obtain⟨Z,A,ρ,q,f⟩:=h;obtain⟨⟨u,ρ1⟩,e1,f⟩:=f.of;refine hi _ _ _ ⟨Z,A,ρ,q,?_⟩;rw[e1];exact λv H1 q1 _ _ vm=>f A _ H1 (q1.set c (vm.rp hn))
theorem zN (c:G.is i=true)(h0:G.io=true->i≠0)(hi:∀σ H Q,tD X.K G b1 .O g1 σ H Q->te σ H Q){D:lu}(h:JC X.K G m (a_ i g1) D σ H):AY te (u3 i) D σ H:=by
 obtain⟨Z,A,ρ,q,f⟩:=h;obtain⟨⟨u,ρ1⟩,e1,f⟩:=f.of;refine hi _ _ _ ⟨Z,A,ρ,q,?_⟩;rw[e1];intro v H1 q1 _ _ vm;obtain⟨a,rfl,na,nb,r,t⟩:=vm;exact f _ _ H1 (q1.setO c h0 na nb r t)
theorem a5 (hN:X.N.Nodup)(h:DE X G e b1 m1 g1)(hi:X.N[i]? = some x:=by rfl)(hx:AQ X.env.scope x:=by first|exact Or.inl rfl|exact Or.inr rfl)(c:G.is i=false:=by rfl)(hn:m1≠.P:=by decide)(hs:TM e (some (.Name x p1)) pos.line X.env=pure false:=by rfl)(hf:X.fn x=true\/X.env.scope.names.lookup x=some .local:=by first|exact .inl rfl|exact .inr rfl|assumption):DS X G m (.Assign [.Name x p1] e pos) (a_ i g1):=⟨(tw hN hi hx h.un hs hf).to λ_ _ _=>vj c hn λ_ _ _ h=>h⟩
theorem gc (hN:X.N.Nodup)(h:DE X G e b1 .O g1)(h0:G.io=true->i≠0:=by decide)(hi:X.N[i]? = some x:=by rfl)(hx:AQ X.env.scope x:=by first|exact Or.inl rfl|exact Or.inr rfl)(c:G.is i=true:=by rfl)(hs:TM e (some (.Name x p1)) pos.line X.env=pure false:=by rfl)(hf:X.fn x=true\/X.env.scope.names.lookup x=some .local:=by first|exact .inl rfl|exact .inr rfl|assumption):DS X G m (.Assign [.Name x p1] e pos) (a_ i g1):=⟨(tw hN hi hx h.un hs hf).to λ_ _ _=>zN c h0 λ_ _ _ h=>h⟩
noncomputable def Ku (i j:Nat):Ev->SR:=λρ=>match ρ[j]? with
 |some (some u)=>.nx ((ρ.set j none).set i (some u))
 |_=>.stk
noncomputable def MU (sg:U->Ev->R Ev)(g:Ev->R (U×Ev)):Ev->SR:=λρ=>SR.of (g ρ) λx=>SR.of (sg x.1 x.2) .nx
noncomputable def MV (i j:Nat)(ga:Ev->R (List U×Ev)):Ev->SR:=λρ=>SR.of (ga ρ) λx=>match x.1 with
 | [u,w]=>.nx ((x.2.set i (some u)).set j (some w))
 |_=>.stk
noncomputable def gH (h:Ev->R (Bool×Ev))(s1 s2:Ev->SR):Ev->SR:=λρ=>SR.of (h ρ) λx=>if x.1=true then s1 x.2 else s2 x.2
theorem bo {a b:List Si}(hc:DT X G c b1 h1)(ha:vi X G m a s1)(hb:vi X G m b s2):DS X G m (.If c a b pos) (gH h1 s1 s2):=⟨(AW hc.un ha.un hb.un).to λD σ H h00=>by
 obtain⟨Z,A,ρ,q,f⟩:=h00;obtain⟨⟨k,ρ1⟩,e1,f⟩:=f.of;refine⟨Z,A,ρ,q,?_⟩;rw[e1];intro H1 q1 _ _;cases k with
 |true=>rw[hV rfl] at f ⊢;exact⟨Z,A,ρ1,q1,f⟩
 |false=>rw[hU QA] at f ⊢;exact⟨Z,A,ρ1,q1,f⟩⟩
noncomputable def gI (h:Ev->R (Bool×Ev))(s:Ev->SR):Nat->Ev->SR
 |0,_=>.stk
 |n+1,ρ=>SR.of (h ρ) λx=>if x.1=true then match s x.2 with
   | .nx ρ2=>gI h s n ρ2
   | .ct ρ2=>gI h s n ρ2
   | .bk ρ2=>.nx ρ2
   |r=>r
  else .nx x.2
theorem BL (hp:Uu (Q7 X.prog X.w) X.A X.env X.xe)(hc:DT X G c b1 h1)(hb:vi X G m body s1):DS X G m (.While c body [] pos) (gI h1 s1 n):=⟨(AZ hp hc.un hb.un).to λD σ H h00=>by
 obtain⟨Z,A,ρ,q,f⟩:=h00;refine⟨λk σ H=>∃A ρ,cZ X.K G Z A ρ σ H/\qh X.K G Z m (gI h1 s1 k ρ) D,⟨n,A,ρ,q,f⟩,?_⟩;rintro k σ H ⟨A,ρ,q,f⟩;cases k with
 |zero=>exact f.elim
 |succ k=>
  unfold gI at f;obtain⟨⟨t,ρ1⟩,e1,f⟩:=f.of;refine⟨Z,A,ρ,q,?_⟩;rw[e1];intro H1 q1 _ _;cases t with
  |false=>rw[hU QA] at f ⊢;exact f A σ H1 q1
  |true=>
   rw[hV rfl] at f ⊢;refine⟨λσ H=>∃A ρ,cZ X.K G Z A ρ σ H/\qh X.K G Z m (gI h1 s1 k ρ) D,λσ' H' z=>⟨k,Nat.lt_succ_self k,z⟩,Z,A,ρ1,q1,?_⟩;dsimp only at f;cases e2:s1 ρ1 with
   |nx ρ2=>rw[e2] at f;exact λA2 σ2 H2 q2=>⟨A2,ρ2,q2,f⟩
   |ct ρ2=>rw[e2] at f;exact λA2 σ2 H2 q2=>⟨A2,ρ2,q2,f⟩
   |bk ρ2=>rw[e2] at f;exact f
   |rt=>rw[e2] at f;exact f
   |exc=>rw[e2] at f;exact f
   |stk=>rw[e2] at f;exact f⟩
end
end L2
namespace L2
def Wk (K:QB)(p:Bool)(A:QX->Prop)(us:List U)(J:It)(H1:Hp):Prop:=us.length<=QC/\
 ∀H A',(if p=true then aI H1 H else eD A H1 H)->(∀b,A' b->A b\/H1 b=none)->(∀(i:Nat) (u:U),us[i]? = some u->J.go i H/\∀x H',J.yld i H x H'->aI H H'/\Rp K H' A' u x)/\J.stop us.length H
def MW (K:QB)(G:Gm)(b p:Bool)(gi:Ev->R (List U×Ev)):TI:=λσ H R=>∃Z A ρ,cZ K G Z A ρ σ H/\match gi ρ with
 | .ok (us,ρ')=>∀J H1,cZ K G Z A ρ' σ H1->eD A H H1->(b=false->ρ'=ρ/\aI H H1)->Wk K p A us J H1->R J H1
 |_=>False
structure DI (X:Cx)(G:Gm)(tg dH:RP)(b p:Bool)(gi:Ev->R (List U×Ev)):Prop where
 un:PI X tg dH (MW X.K G b p gi)
section
variable {e a b:RP}{p1:Pos}{b1 b2 b3:Bool}{m m1 m2 m3 mr:Md}{g1 g2 g3:Ev->R (U×Ev)}{h1 h2:Ev->R (Bool×Ev)}{ga:Ev->R (List U×Ev)}{s1 s2:Ev->SR}
theorem PI.to {t t':TI}(h:PI X tg e t)(i:∀σ H Q,t' σ H Q->t σ H Q):PI X tg e t':=λpins s σ H Q I q=>h pins s σ H Q I (i _ _ _ q)
theorem PI.or {t t':TI}(h:PI X tg e t)(h':PI X tg e t'):PI X tg e (λσ H R=>t σ H R\/t' σ H R):=λpins s σ H Q I q=>by
 rcases q with q|q
 ·exact h pins s σ H Q I q
 ·exact h' pins s σ H Q I q
noncomputable def Kv:Md->Bool
 | .P=>true
 |_=>false
noncomputable def gO (g:Ev->R (U×Ev)):Ev->R (List U×Ev):=λρ=>(g ρ).bind λx=>match x.1 with
 | .lst us=>.ok (us,x.2)
 | .tup us=>.ok (us,x.2)
 | .scr us=>.ok (us,x.2)
 |_=>.stk
theorem EK (q:cZ K G Z A ρ σ H1)(h:sG K G Z m1 A ρ σ H1 (.lst us) v):∃a,v=.ref a/\(∃xs,fi K H1 a xs)/\Wk K (Kv m1) A us (LO K a) H1:=by
 have hp:=h.pk;unfold Pk at hp;obtain⟨a,xs,rfl,rd,l,rs⟩:=hp;refine⟨a,rfl,⟨xs,fi.of rd⟩,l,λH A' hs ha=>?_⟩;have st:H a=some (.lst xs)/\∀(i:Nat) (u:U),us[i]? = some u->∃x,xs[i]? = some x/\Rp K H A' u x:=by
  cases hm:Kv m1 with
  |true=>
   rw[hm,hV rfl] at hs;refine⟨hs a _ rd,λi u hu=>?_⟩;obtain⟨x,h1,h2⟩:=rs.get hu;exact⟨x,h1,h2.re q.mu (eD.same hs) ha⟩
  |false=>
   rw[hm,hU QA] at hs;have hn:m1≠.P:=λz=>by subst z;cases hm
   have hr:=h.rp hn;unfold Rp at hr;obtain⟨a',xs',e,na,rd',_,rs'⟩:=hr;cases e;refine⟨hs a _ na rd,λi u hu=>?_⟩;obtain⟨x,h1,h2⟩:=rs.get hu;exact⟨x,h1,h2.re q.mu hs ha⟩
 obtain⟨rd2,get⟩:=st;refine⟨λi u hu=>?_,⟨xs,fi.of rd2,by rw[←rs.length];exact QJ _⟩⟩;obtain⟨x,h1,h2⟩:=get i u hu;refine⟨⟨xs,x,fi.of rd2,h1⟩,λy H' yl=>?_⟩;obtain⟨e,yl⟩:=yl;have e2:=yl xs (fi.of rd2);rw[h1] at e2;cases e2;subst e;exact⟨aI.refl _,h2⟩
theorem HY {p:Bool}(q:cZ K G Z A ρ σ H1)(h:Pk K H1 A (.tup us) v):∃a,v=.ref a/\(∃xs,gL K H1 a xs)/\Wk K p A us (Mx K a) H1:=by
 unfold Pk at h;obtain⟨a,xs,rfl,sq,l,rs⟩:=h;refine⟨a,rfl,⟨xs,gL.of sq⟩,l,λH A' hs ha=>?_⟩;have ex:eD A H1 H:=by
  cases p with
  |true=>rw[hV rfl] at hs;exact eD.same hs
  |false=>rw[hU QA] at hs;exact hs
 have Jo:gL K H a xs:=gL.of (ex a _ (λz=>by have:=q.mu a z;rw[sq] at this;exact this) sq);refine⟨λi u hu=>?_,⟨xs,Jo,by rw[←rs.length];exact QJ _⟩⟩;obtain⟨x,h1,h2⟩:=rs.get hu;refine⟨⟨xs,x,Jo,h1⟩,λy H' yl=>?_⟩;obtain⟨e,yl⟩:=yl;have e2:=yl xs Jo;rw[h1] at e2;cases e2;subst e;exact⟨aI.refl _,h2.re q.mu ex ha⟩
theorem HZ {p:Bool}(q:cZ K G Z A ρ σ H1)(h:Pk K H1 A (.scr us) v):∃a,v=.ref a/\(∃xs,fi K H1 a xs)/\Wk K p A us (LO K a) H1:=by
 unfold Pk at h;obtain⟨a,xs,rfl,sq,l,rs⟩:=h;refine⟨a,rfl,⟨xs,sq.sq⟩,l,λH A' hs ha=>?_⟩;have ex:eD A H1 H:=by
  cases p with
  |true=>rw[hV rfl] at hs;exact eD.same hs
  |false=>rw[hU QA] at hs;exact hs
 have Jo:fi K H a xs:=(sq.to λo y w=>ex a _ (λz=>by have:=q.mu a z;rw[w] at this;exact this) w).sq;refine⟨λi u hu=>?_,⟨xs,Jo,by rw[←rs.length];exact QJ _⟩⟩;obtain⟨x,h1,h2⟩:=rs.get hu;refine⟨⟨xs,x,Jo,h1⟩,λy H' yl=>?_⟩;obtain⟨e,yl⟩:=yl;have e2:=yl xs Jo;rw[h1] at e2;cases e2;subst e;exact⟨aI.refl _,h2.re q.mu ex ha⟩
theorem dC (h:DE X G e b1 m1 g1):DI X G tg e b1 (Kv m1) (gO g1):=⟨((Ed h.un).or (Hq h.un)).to λσ H RR h00=>by
 obtain⟨Z,A,ρ,q,f⟩:=h00;unfold gO at f;cases e1:g1 ρ with
 |stk=>rw[e1] at f;exact f.elim
 |exc=>rw[e1] at f;exact f.elim
 |ok y=>
  obtain⟨u,ρ1⟩:=y;rw[e1] at f;cases u with
  |lst us=>
   refine .inl ⟨Z,A,ρ,q,?_⟩;rw[e1];intro v H1 q1 x1 s1 vm;obtain⟨a,e,l,wk⟩:=EK q1 vm;exact⟨a,e,l,f _ H1 q1 x1 s1 wk⟩
  |tup us=>
   refine .inr ⟨Z,A,ρ,q,?_⟩;rw[e1];intro v H1 q1 x1 s1 vm;obtain⟨a,e,l,wk⟩:=HY (p:=Kv m1) q1 vm.pk;exact⟨a,e,l,f _ H1 q1 x1 s1 wk⟩
  |scr us=>
   refine .inl ⟨Z,A,ρ,q,?_⟩;rw[e1];intro v H1 q1 x1 s1 vm;obtain⟨a,e,l,wk⟩:=HZ (p:=Kv m1) q1 vm.pk;exact⟨a,e,l,f _ H1 q1 x1 s1 wk⟩
  |_=>exact f.elim⟩
noncomputable def b6 (lo:Int)(n:Nat):List U:=(RL n).map λi=>.int (lo+(i:Nat))
theorem BM {lo:Int}{p:Bool}(h:n<=QC):Wk K p A (b6 lo n) (LP lo n) H1:=by
 have hl:(b6 lo n).length=n:=by unfold b6;rw[QI,SQ]
 refine⟨by rw[hl];exact h,λH A' _ _=>⟨λi u hu=>?_,by rw[hl];exact QJ _⟩⟩;unfold b6 at hu;rw[QV] at hu;cases e:(RL n)[i]? with
 |none=>rw[e] at hu;cases hu
 |some j=>
  rw[e] at hu;obtain⟨l1,l2⟩:=QH.mp e;rw[SQ] at l1;rw[List.getElem_range] at l2;subst l2;cases hu;refine⟨l1,λx H' y=>?_⟩;obtain⟨rfl,rfl⟩:=y;exact⟨aI.refl _,cy⟩
noncomputable def l7 (ga:Ev->R (List U×Ev)):Ev->R (List U×Ev):=λρ=>(ga ρ).bind λx=>match x.1 with
 | [.int j]=>if -1000000<=j/\j<=1000000 then .ok (b6 0 j.toNat,x.2) else .stk
 |_=>.stk
theorem i4 {a:RP}(ha:DA X G [a] b1 false ga)(hm:X.mg "range"=none)(hg:Gl X "range":=by rfl)(hs:QK [a] X.env=[(false,Sv a X.env)]:=by rfl):DI X G tg (.Call (.Name "range" p1) [a] [] pos) b1 false (l7 ga):=⟨(zp hg hm ha.un hs).to λσ H RR h00=>by
 obtain⟨Z,A,ρ,q,f⟩:=h00;unfold l7 at f;cases e1:ga ρ with
 |stk=>rw[e1] at f;exact f.elim
 |exc=>rw[e1] at f;exact f.elim
 |ok y=>
  obtain⟨us,ρ1⟩:=y;rw[e1] at f;dsimp only[L2.R.bind] at f;refine⟨Z,A,ρ,q,?_⟩;rw[e1];intro vs H1 q1 x1 s1 vm;split at f
  ·rename_i Pe ρ' e2;split at e2
   ·rename_i j;split at e2
    ·rename_i hl;cases e2;have r:=vm.rps;unfold aR at r;obtain⟨v,vr,rfl,r1,r2⟩:=r;unfold aR at r2;subst r2;unfold Rp at r1;subst r1;exact⟨j,rfl,(by lia),(by lia),f _ H1 q1 x1 s1 (BM (by have:QC=16777216:=rfl;lia))⟩
    ·cases e2
   ·cases e2
  ·exact f.elim⟩
noncomputable def fq (sg:U->Ev->R Ev)(s:Ev->SR):List U->Ev->SR
 | [],ρ=>.nx ρ
 |u::us,ρ=>SR.of (sg u ρ) λρ1=>match s ρ1 with
   | .nx ρ2=>fq sg s us ρ2
   | .ct ρ2=>fq sg s us ρ2
   | .bk ρ2=>.nx ρ2
   |r=>r
noncomputable def kX (gi:Ev->R (List U×Ev))(sg:U->Ev->R Ev)(s:Ev->SR):Ev->SR:=λρ=>SR.of (gi ρ) λx=>fq sg s x.1 x.2
open Classical in
noncomputable def Pkg.lp (Z:Pkg)(A:QX->Prop)(H:Hp):Pkg:={Z with B:=λb=>if A b/\Z.B b=none then none else H b}
theorem tV {b:QX}(h1:A b)(h2:Z.B b=none):(Z.lp A H).B b=none:=by
 unfold Pkg.lp;dsimp only;exact hV ⟨h1,h2⟩
theorem l8 {b:QX}(h:¬(A b/\Z.B b=none)):(Z.lp A H).B b=H b:=by
 unfold Pkg.lp;dsimp only;exact hU h
theorem xi {b:QX}(h:(Z.lp A H).B b=none):(A b/\Z.B b=none)\/H b=none:=by
 by_cases c:A b/\Z.B b=none
 ·exact .inl c
 ·rw[l8 c] at h;exact .inr h
theorem cZ.lp (q:cZ K G Z A ρ σ H):cZ K G (Z.lp A H) A ρ σ H where
 slot:=λi u h=>by
  obtain⟨v,h1,h2⟩:=q.slot i u h;refine⟨v,h1,?_⟩;by_cases c:G.is i=true
  ·rw[hV c] at h2 ⊢;obtain⟨a,e1,e2,e3,e4,e5⟩:=h2;exact⟨a,e1,e2,tV e2 e3,e4,e5⟩
  ·rw[hU c] at h2 ⊢;exact h2
 dis:=q.dis
 mu:=q.mu
 sup:=q.sup
 out:=λa h=>(q.out a h).imp id λz=>tV h z
 bas:=λa o h=>by
  by_cases c:A a/\Z.B a=none
  ·rw[tV c.1 c.2] at h;cases h
  ·rw[l8 c] at h;exact h
 io0:=q.io0
 len:=q.len
theorem cZ.unlp {A':QX->Prop}{ρ':Ev}{σ':St}(q:cZ K G Z A ρ σ H)(q':cZ K G (Z.lp A H) A' ρ' σ' H'):cZ K G Z A' ρ' σ' H':=by
 have sub:∀a,(Z.lp A H).B a=none->Z.B a=none:=λa h=>by
  rcases xi h with z|h
  ·exact z.2
  ·cases e:Z.B a with
   |none=>rfl
   |some o=>rw[q.bas a o e] at h;cases h
 exact {
  slot:=λi u h=>by
   obtain⟨v,h1,h2⟩:=q'.slot i u h;refine⟨v,h1,?_⟩;by_cases c:G.is i=true
   ·rw[hV c] at h2 ⊢;obtain⟨a,e1,e2,e3,e4,e5⟩:=h2;exact⟨a,e1,e2,sub a e3,e4,e5⟩
   ·rw[hU c] at h2 ⊢;exact h2
  dis:=q'.dis
  mu:=q'.mu
  sup:=q'.sup
  out:=λa h=>(q'.out a h).imp id (sub a)
  bas:=λa o h=>q'.bas a o (by
   rw[l8 (λz=>by rw[h] at z;exact nomatch z.2)];exact q.bas a o h)
  io0:=q'.io0
  len:=q'.len}
theorem qh.lp {r:SR}{D:lu}(q:cZ K G Z A ρ σ H)(f:qh K G Z m r D):qh K G (Z.lp A H) m r D:=by
 cases r with
 |nx=>exact λA' σ' H' q'=>f A' σ' H' (q.unlp q')
 |bk=>exact λA' σ' H' q'=>f A' σ' H' (q.unlp q')
 |ct=>exact λA' σ' H' q'=>f A' σ' H' (q.unlp q')
 |rt u ρ'=>
  intro A' σ' H' v q' vm;refine f A' σ' H' v (q.unlp q') ?_;cases m with
  |S=>exact vm
  |P=>exact vm
  |O=>
   obtain⟨a,e,nb,na,t⟩:=vm;refine⟨a,e,?_,na,t⟩;rcases xi nb with z|h
   ·exact z.2
   ·cases e:Z.B a with
    |none=>rfl
    |some o=>rw[q.bas a o e] at h;cases h
 |exc=>exact λH' hb=>f H' λa o h=>hb a o (by
   rw[l8 (λz=>by rw[h] at z;exact nomatch z.2)];exact q.bas a o h)
 |stk=>exact f.elim
theorem g8 {gi:Ev->R (List U×Ev)}(hp:Uu (Q7 X.prog X.w) X.A X.env X.xe)(hc:X.calm=true)(hi:DI X G tg dH b1 false gi)(hg:DG X G tg sg)(hb:vi X G m body s1)(hs:∀x,RN dH X.env x=pure x:=by intro _;rfl):DS X G m (.For tg dH body [] pos) (kX gi sg s1):=⟨(EA hp hc hi.un hg.un hb.un hs).to λD σ H h00=>by
 obtain⟨Z,A,ρ,q,f⟩:=h00;obtain⟨⟨us,ρ1⟩,e1,f⟩:=f.of;refine⟨Z,A,ρ,q,?_⟩;rw[e1];intro J H1 q1 x1 Ou wk;dsimp only at f;obtain⟨hz,wk⟩:=wk;refine⟨λi k σ H=>i+k=us.length/\∃A' ρ',cZ X.K G (Z.lp A H1) A' ρ' σ H/\qh X.K G (Z.lp A H1) m (fq sg s1 (us.drop i) ρ') D,⟨us.length,(by lia),A,ρ1,q1.lp,by rw[Sn];exact f.lp q1⟩,?_⟩;rintro i k σ H ⟨hk,A',ρ',q',f'⟩;have ex:eD A H1 H:=λb o nb z=>q'.bas b o (by
  rw[l8 (λy=>nb y.1)];exact z)
 have nw:∀b,A' b->A b\/H1 b=none:=λb z=>by
  rcases q'.out b z with y|y
  ·exact .inl (q1.sup b y)
  ·rcases xi y with w|h
   ·exact .inl w.1
   ·exact .inr h
 obtain⟨w1,w2⟩:=wk H A' (by rw[hU QA];exact ex) nw;by_cases uX:i<us.length
 ·have eu:us[i]? = some us[i]:=Qy uX;obtain⟨go,yl⟩:=w1 i _ eu;rw[R9 uX] at f';unfold fq at f';obtain⟨ρ2,e2,f2⟩:=f'.of;refine .inr ⟨go,λσ H=>∃A' ρ',cZ X.K G (Z.lp A H1) A' ρ' σ H/\qh X.K G (Z.lp A H1) m (fq sg s1 (us.drop (i+1)) ρ') D,λσ' H' z=>⟨k-1,(by lia),(by lia),z⟩,λx H' y=>?_⟩;obtain⟨sm,rp⟩:=yl x H' y;refine⟨Z.lp A H1,A',ρ',us[i],q'.same sm,rp,?_⟩;rw[e2];intro σ2 q2 _;refine⟨Z.lp A H1,A',ρ2,q2,?_⟩;cases e3:s1 ρ2 with
  |nx ρ3=>rw[e3] at f2;exact λA3 σ3 H3 q3=>⟨A3,ρ3,q3,f2⟩
  |ct ρ3=>rw[e3] at f2;exact λA3 σ3 H3 q3=>⟨A3,ρ3,q3,f2⟩
  |bk ρ3=>rw[e3] at f2;exact f2
  |rt=>rw[e3] at f2;exact f2
  |exc=>rw[e3] at f2;exact f2
  |stk=>rw[e3] at f2;exact f2
 ·have e:i=us.length:=(by lia)
  subst e;rw[S0] at f';exact .inl ⟨w2,f' A' σ H q'⟩⟩
end
end L2
namespace L2
noncomputable def jj (js:List (Option Nat))(ρ:Ev):Ev:=js.map λo=>match o with
 |none=>none
 |some j=>match ρ[j]? with
  |some v=>v
  |none=>none
noncomputable def rM (G:Gm)(js:List (Option Nat)):Gm:=⟨js.map λo=>match o with
 |none=>false
 |some j=>G.is j,false,λ_=>False⟩
noncomputable def nB:List (Option Nat)->Bool
 | []=>true
 |none::r=>nB r
 |some j::r=> !(r.contains (some j))&&nB r
theorem qi:∀{js:List (Option Nat)} {i k j:Nat},nB js=true->js[i]? = some (some j)->js[k]? = some (some j)->i=k
 | [],_,_,_,_,h,_=>by simp at h
 |none::r,i,k,j,ok,h1,h2=>by
  unfold nB at ok;cases i with
  |zero=>simp at h1
  |succ i=>
   cases k with
   |zero=>simp at h2
   |succ k=>exact congrArg (·+1) (qi (j:=j) ok (by simpa using h1) (by simpa using h2))
 |some j'::r,i,k,j,ok,h1,h2=>by
  unfold nB at ok;rw[QU] at ok;have nm:∀n:Nat,r[n]? ≠ some (some j'):=λn h=>by
   have:=Rf h;simp at ok;exact ok.1 this
  cases i with
  |zero=>
   cases k with
   |zero=>rfl
   |succ k=>simp at h1 h2;subst h1;exact absurd h2 (nm k)
  |succ i=>
   cases k with
   |zero=>simp at h1 h2;subst h2;exact absurd h1 (nm i)
   |succ k=>exact congrArg (·+1) (qi (j:=j) ok.2 (by simpa using h1) (by simpa using h2))
theorem l9 {u:U}(h:(jj js ρ)[i]? = some (some u)):∃j,js[i]? = some (some j)/\ρ[j]? = some (some u):=by
 unfold jj at h;rw[QV] at h;cases e:js[i]? with
 |none=>rw[e] at h;cases h
 |some o=>
  rw[e] at h;cases o with
  |none=>cases h
  |some j=>
   refine⟨j,rfl,?_⟩;have h:=Q0 h;dsimp only at h;split at h
   ·rename_i v hv;rw[hv,h]
   ·cases h
theorem l_ (h:js[i]? = some (some j))(hv:σ[j]? = some (some v)):(sE js σ)[i]? = some (some v):=by
 unfold sE;rw[QV,h];dsimp only[Option.map];rw[hv]
theorem qj (h:js[i]? = some (some j)):(rM G js).is i=G.is j:=by
 unfold rM Gm.is;dsimp only;rw[Uq,QV,h];rfl
theorem yi (js:List (Option Nat))(ρ:Ev)(σ:St):(jj js ρ).length=(sE js σ).length:=by
 unfold jj sE;rw[QI,QI]
section
variable {ρi:Ev}
theorem yj (q:cZ K G Z A ρ σ H)(ok:nB js=true):cZ K (rM G js) ⟨λ_=>False,λ_=>none,0⟩ A (jj js ρ) (sE js σ) H where
 slot:=λi u h=>by
  obtain⟨j,h1,h2⟩:=l9 h;obtain⟨v,h3,h4⟩:=q.slot j u h2;refine⟨v,l_ h1 h3,?_⟩;rw[qj h1];by_cases c:G.is j=true
  ·rw[hV c] at h4 ⊢;obtain⟨a,e1,e2,_,_,e5⟩:=h4;exact⟨a,e1,e2,rfl,.inl id,e5⟩
  ·rw[hU c] at h4 ⊢;exact h4
 dis:=λi k u w a ci ck ne hi hk si sk=>by
  obtain⟨j,h1,h2⟩:=l9 hi;obtain⟨j',h1',JJ⟩:=l9 hk;rw[qj h1] at ci;rw[qj h1'] at ck;obtain⟨b,e1,_⟩:=q.own ci h2;obtain⟨b',e1',_⟩:=q.own ck JJ;rw[l_ h1 e1] at si;rw[l_ h1' e1'] at sk;cases si;cases sk;exact q.dis j j' u w a ci ck (λz=>ne (by subst z;exact qi ok h1 h1')) h2 JJ e1 e1'
 mu:=q.mu
 sup:=λ_ h=>h.elim
 out:=λ_ _=>.inr rfl
 bas:=λ_ _ h=>by cases h
 io0:=λh=>by cases h
 len:=yi js ρ σ
def EL (G:Gm)(js:List (Option Nat))(ρ:Ev)(σ:St)(a:QX):Prop:=∃(i j:Nat) (u:U),js[i]? = some (some j)/\G.is j=true/\ρ[j]? = some (some u)/\σ[j]? = some (some (.ref a))
open Classical in
noncomputable def H9 (G:Gm)(js:List (Option Nat))(A:QX->Prop)(ρ:Ev)(σ:St)(H:Hp):Pkg:=⟨λa=>A a/\¬EL G js ρ σ a,λa=>if EL G js ρ σ a then none else H a,0⟩
theorem qk (h:EL G js ρ σ a):(H9 G js A ρ σ H).B a=none:=by
 unfold H9;dsimp only;exact hV h
theorem ma (h:¬EL G js ρ σ a):(H9 G js A ρ σ H).B a=H a:=by
 unfold H9;dsimp only;exact hU h
theorem H_ (q:cZ K G Z A ρ σ H)(ok:nB js=true):cZ K (rM G js) (H9 G js A ρ σ H) A (jj js ρ) (sE js σ) H where
 slot:=λi u h=>by
  obtain⟨j,h1,h2⟩:=l9 h;obtain⟨v,h3,h4⟩:=q.slot j u h2;refine⟨v,l_ h1 h3,?_⟩;rw[qj h1];by_cases c:G.is j=true
  ·rw[hV c] at h4 ⊢;obtain⟨a,e1,e2,_,_,e5⟩:=h4;subst e1;have cp:EL G js ρ σ a:=⟨i,j,u,h1,c,h2,h3⟩;exact⟨a,rfl,e2,qk cp,.inl λz=>z.2 cp,e5⟩
  ·rw[hU c] at h4 ⊢;exact h4
 dis:=(yj q ok).dis
 mu:=q.mu
 sup:=λ_ h=>h.1
 out:=λa h=>by
  by_cases c:EL G js ρ σ a
  ·exact .inr (qk c)
  ·exact .inl ⟨h,c⟩
 bas:=λa o h=>by
  by_cases c:EL G js ρ σ a
  ·rw[qk c] at h;cases h
  ·rw[ma c] at h;exact h
 io0:=λh=>by cases h
 len:=yi js ρ σ
noncomputable def j4:List (Option Nat)->Nat->Option Nat
 | [],_=>none
 |o::r,j=>if o=some j then some 0 else (j4 r j).map (·+1)
theorem sJ:∀{js:List (Option Nat)} {i j:Nat},j4 js j=some i->js[i]? = some (some j)
 | [],_,_,h=>by cases h
 |o::r,i,j,h=>by
  unfold j4 at h;split at h
  ·rename_i e;cases h;rw[e];rfl
  ·cases e:j4 r j with
   |none=>rw[e] at h;cases h
   |some k=>
    rw[e] at h;cases h;rw[RK];exact sJ e
theorem ql:∀{js:List (Option Nat)} {i j:Nat},j4 js j=none->js[i]? ≠ some (some j)
 | [],_,_,_=>by simp
 |o::r,i,j,h=>by
  unfold j4 at h;split at h
  ·cases h
  ·rename_i ne;cases e:j4 r j with
   |some k=>rw[e] at h;cases h
   |none=>
    cases i with
    |zero=>intro z;exact ne (Q0 z)
    |succ i=>rw[RK];exact ql e
noncomputable def wb (G:Gm)(js:List (Option Nat))(ρi ρ:Ev):Ev:=ρ.mapIdx λj x=>if (G.is j&&x.isSome)=true then (match j4 js j with
 |some i=>(ρi[i]?).getD none
 |none=>x) else x
theorem xj {u:U}(h:(wb G js ρi ρ)[j]? = some (some u)):∃u0,ρ[j]? = some (some u0)/\((G.is j=true/\∃i,j4 js j=some i/\ρi[i]? = some (some u))\/(u0=u/\(G.is j=false\/j4 js j=none))):=by
 unfold wb at h;rw[List.getElem?_mapIdx] at h;cases e:ρ[j]? with
 |none=>rw[e] at h;cases h
 |some x=>
  rw[e] at h;have h:=Q0 h;cases x with
  |none=>simp at h
  |some u0=>
   refine⟨u0,rfl,?_⟩;dsimp only at h;by_cases c:G.is j=true
   ·rw[hV (by rw[c];rfl)] at h;split at h
    ·rename_i i hi;refine .inl ⟨c,i,hi,?_⟩;cases e2:ρi[i]? with
     |none=>rw[e2] at h;cases h
     |some y=>rw[e2] at h;simp at h;rw[h]
    ·rename_i hi;exact .inr ⟨Q0 h,.inr hi⟩
   ·have c:G.is j=false:=SO.mpr c;rw[hU (by rw[c];exact QA)] at h;exact .inr ⟨Q0 h,.inl c⟩
theorem cZ.wb {σ4:St}(q:cZ K G Z A ρ σ H)(ok:nB js=true)(q':cZ K (rM G js) (H9 G js A ρ σ H) A ρi σ4 H')(ho:∀i,(rM G js).is i=true->σ4[i]? = (sE js σ)[i]?):cZ K G Z A (L2.wb G js ρi ρ) σ H'/\eD A H H':=by
 have LB:∀a,EL G js ρ σ a->A a/\Z.B a=none:=λa h00=>by
  obtain⟨i,j,u,h1,h2,h3,h4⟩:=h00;obtain⟨b,e1,e2,e3,_⟩:=q.own h2 h3;rw[h4] at e1;cases e1;exact⟨e2,e3⟩
 have ex:eD A H H':=λb o nb z=>q'.bas b o (by rw[ma λc=>nb (LB b c).1];exact z);refine⟨{
  slot:=λj u h=>?_
  dis:=λi k u w a ci ck ne hi hk si sk=>by
   obtain⟨u1,h1,_⟩:=xj hi;obtain⟨u2,h2,_⟩:=xj hk;exact q.dis i k u1 u2 a ci ck ne h1 h2 si sk
  mu:=q'.mu
  sup:=q.sup
  out:=q.out
  bas:=λa o h=>q'.bas a o (by
   rw[ma λc=>by rw[(LB a c).2] at h;cases h];exact q.bas a o h)
  io0:=q.io0
  len:=by unfold L2.wb;rw[List.length_mapIdx];exact q.len},ex⟩
 obtain⟨u0,h0,hh⟩:=xj h;rcases hh with⟨c,i,hi,hu⟩|⟨rfl,hc⟩
 ·have hj:=sJ hi;obtain⟨a,e1,e2,e3,e4,_⟩:=q.own c h0;have ci:(rM G js).is i=true:=by rw[qj hj];exact c
  obtain⟨a',k1,k2,_,_,k5⟩:=q'.own ci hu;rw[ho i ci,l_ hj e1] at k1;cases k1;refine⟨.ref a,e1,?_⟩;rw[hV c];exact⟨a,rfl,e2,e3,e4,k5⟩
 ·obtain⟨v,h1,h2⟩:=q.slot j u0 h0;refine⟨v,h1,?_⟩;by_cases c:G.is j=true
  ·rw[hV c] at h2 ⊢;obtain⟨a,rfl,e2,e3,e4,e5⟩:=h2;have hc:j4 js j=none:=by
    rcases hc with hc|hc
    ·rw[c] at hc;cases hc
    ·exact hc
   have nc:¬EL G js ρ σ a:=λh00=>by
    obtain⟨i,j',u,z1,z2,z3,z4⟩:=h00;have ne:j≠j':=λz=>by subst z;exact ql hc z1
    exact q.dis j j' u0 u a c z2 ne h0 z3 h1 z4
   exact⟨a,rfl,e2,e3,e4,e5.re q.mu ex (λb z=>.inl z) λo z=>q'.bas a o (by rw[ma nc];exact z)⟩
  ·rw[hU c] at h2 ⊢;exact h2.re q.mu ex λb z=>.inl z
end
noncomputable def md (f:U->R (Option U)):List U->R (List U)
 | []=>.ok []
 |u::us=>(f u).bind λo=>(md f us).bind λr=>.ok (match o with
  |some y=>y::r
  |none=>r)
noncomputable def zO (js:List (Option Nat))(sg:U->Ev->R Ev)(gt:Ev->R (Bool×Ev))(ge:Ev->R (U×Ev))(ρ:Ev)(u:U):R (Option U):=
 (sg u (jj js ρ)).bind λρi=>(gt ρi).bind λc=>if c.1=true then (ge ρi).bind λy=>.ok (some y.1) else .ok none
noncomputable def jk (gi:Ev->R (List U×Ev))(js:List (Option Nat))(sg:U->Ev->R Ev)(gt:Ev->R (Bool×Ev))(ge:Ev->R (U×Ev)):Ev->R (U×Ev):=λρ=>
 (gi ρ).bind λx=>(md (zO js sg gt ge x.2) x.1).bind λys=>.ok (.lst ys,x.2)
noncomputable def o6 (G:Gm)(js:List (Option Nat))(sg:U->Ev->R Ev)(gt:Ev->R (Bool×Ev))(ge:Ev->R (U×Ev)):List U->Ev->R (List U×Ev)
 | [],ρ=>.ok ([],ρ)
 |u::us,ρ=>(sg u (jj js ρ)).bind λρi=>(gt ρi).bind λc=>if c.1=true then (ge c.2).bind λy=>(o6 G js sg gt ge us (wb G js y.2 ρ)).bind λr=>.ok (y.1::r.1,r.2) else o6 G js sg gt ge us (wb G js c.2 ρ)
noncomputable def EM (G:Gm)(gi:Ev->R (List U×Ev))(js:List (Option Nat))(sg:U->Ev->R Ev)(gt:Ev->R (Bool×Ev))(ge:Ev->R (U×Ev)):Ev->R (U×Ev):=λρ=>
 (gi ρ).bind λx=>(o6 G js sg gt ge x.1 x.2).bind λy=>.ok (.lst y.1,y.2)
theorem R.bind_ok {α β:Type}{x:R α}{k:α->R β}{b:β}(h:x.bind k=.ok b):∃a,x=.ok a/\k a=.ok b:=by
 cases x with
 |ok a=>exact⟨a,rfl,h⟩
 |exc=>cases h
 |stk=>cases h
section
variable {e:RP}{b1 b2 b3 p:Bool}{m me:Md}{gi:Ev->R (List U×Ev)}{gt:Ev->R (Bool×Ev)}{ge:Ev->R (U×Ev)}
theorem vk (ok:nB js=true)(hn:me≠.P){Q:VK}(h:tD X.K G b1 .O (jk gi js sg gt ge) σ H Q) :
  LX (MW X.K G b1 p gi) js (λ_=>MS X.K (rM G js) sg) (λ_=>AL X.K (rM G js) false gt) (λ_=>tD X.K (rM G js) false me ge) σ H Q:=by
 obtain⟨Z,A,ρ,q,f⟩:=h;obtain⟨⟨us,ρ1⟩,e1,f⟩:=f.bind;obtain⟨all,e2,f⟩:=f.bind;refine⟨Z,A,ρ,q,?_⟩;rw[e1];intro J H1 q1 x1 s1 ⟨hz,wk⟩ Y;dsimp only at e2 f;refine⟨λi k ys H2=>i+k=us.length/\aI H1 H2/\∃done rest,md (zO js sg gt ge ρ1) (us.drop i)=.ok rest/\done++rest=all/\aR X.K H2 A done ys/\done.length<=i,
  ⟨us.length,(by lia),aI.refl _,[],all,by rw[Sn];exact e2,rfl,aR.nil,QJ _⟩,?_⟩
 rintro i k ys H2 ⟨hk,sm,done,rest,e3,e4,rs,hd⟩;have q2:=q1.same sm;obtain⟨w1,w2⟩:=wk H2 A (by split;exact sm;exact eD.same sm) λb z=>.inl z;by_cases uX:i<us.length
 ·have eu:us[i]? = some us[i]:=Qy uX;obtain⟨go,yl⟩:=w1 i _ eu;rw[R9 uX] at e3;unfold md at e3;obtain⟨o,e5,e3⟩:=R.bind_ok e3;obtain⟨r,e6,e3⟩:=R.bind_ok e3;unfold zO at e5;obtain⟨ρi,e7,e5⟩:=R.bind_ok e5;obtain⟨⟨c,ρc⟩,e8,e5⟩:=R.bind_ok e5;refine .inr ⟨go,by rw[←rs.length];lia,λG3 H'=>aI H1 H'/\∃done,done++r=all/\aR X.K H' A done G3/\done.length<=i+1,λG3 H' ⟨z1,dn,z2,z3,z4⟩=>⟨k-1,(by lia),(by lia),z1,dn,r,e6,z2,z3,z4⟩,λx H3 y=>?_⟩;obtain⟨sm3,rp⟩:=yl x H3 y;refine⟨_,A,jj js ρ1,us[i],(yj (q2.same sm3) ok),rp,?_⟩;rw[e7];intro σ4 q4 _;refine⟨_,A,ρi,q4,?_⟩;rw[e8];intro H5 q5 x5 s5;obtain⟨rfl,G2⟩:=s5 rfl;cases c with
  |false=>
   rw[hU QA] at e5 ⊢;cases e5;cases e3;exact⟨(sm.trans sm3).trans G2,done,e4,(rs.same sm3).same G2,(by lia)⟩
  |true=>
   rw[hV rfl] at e5 ⊢;obtain⟨⟨y1,ρy⟩,e9,e5⟩:=R.bind_ok e5;cases e5;cases e3;refine⟨_,A,ρc,q5,?_⟩;rw[e9];intro v H6 q6 x6 s6 vm;obtain⟨rfl,sm6⟩:=s6 rfl;have Ov:=sm3.trans (G2.trans sm6);exact⟨sm.trans Ov,done++[y1],by rw[Rj];exact e4,(rs.same Ov).append (aR.cons (vm.rp hn) aR.nil),by rw[QE];simp;lia⟩
 ·have e:i=us.length:=(by lia)
  subst e;rw[S0] at e3;cases e3;rw[Q1] at e4;subst e4;refine .inl ⟨w2,λa na=>?_⟩;have sn:=ee na (.lst ys);exact f _ _ (q2.same sn) ((x1.trans (eD.same sm)).trans (eD.same sn)) (lZ (lZ s1 sm) sn) (zJ.e q2 sn ⟨a,rfl,na,cL q2.mu rs na (by lia)⟩)
theorem BN (ok:nB js=true)(hn:me≠.P){Q:VK}(h:tD X.K G true .O (EM G gi js sg gt ge) σ H Q) :
  LX (MW X.K G b1 false gi) js (λ_=>MS X.K (rM G js) sg) (λ_=>AL X.K (rM G js) b2 gt) (λ_=>tD X.K (rM G js) b3 me ge) σ H Q:=by
 obtain⟨Z,A,ρ,q,f⟩:=h;obtain⟨⟨us,ρ1⟩,e1,f⟩:=f.bind;obtain⟨⟨all,ρe⟩,e2,f⟩:=f.bind;refine⟨Z,A,ρ,q,?_⟩;rw[e1];intro J H1 q1 x1 s1 ⟨hz,wk⟩ Y;dsimp only at e2 f;refine⟨λi k ys H2=>i+k=us.length/\eD A H1 H2/\∃ρ2 done rest,cZ X.K G Z A ρ2 σ H2/\o6 G js sg gt ge (us.drop i) ρ2=.ok (rest,ρe)/\done++rest=all/\aR X.K H2 A done ys/\done.length<=i,
  ⟨us.length,(by lia),eD.refl,ρ1,[],all,q1,by rw[Sn];exact e2,rfl,aR.nil,QJ _⟩,?_⟩
 rintro i k ys H2 ⟨hk,ex,ρ2,done,rest,q2,e3,e4,rs,hd⟩;obtain⟨w1,w2⟩:=wk H2 A (by rw[hU QA];exact ex) λb z=>.inl z;by_cases uX:i<us.length
 ·have eu:us[i]? = some us[i]:=Qy uX;obtain⟨go,yl⟩:=w1 i _ eu;rw[R9 uX] at e3;unfold o6 at e3;obtain⟨ρi,e7,e3⟩:=R.bind_ok e3;obtain⟨⟨c,ρc⟩,e8,e3⟩:=R.bind_ok e3;refine .inr ⟨go,by rw[←rs.length];lia,λG3 H'=>eD A H1 H'/\∃ρ2 done rest,cZ X.K G Z A ρ2 σ H'/\o6 G js sg gt ge (us.drop (i+1)) ρ2=.ok (rest,ρe)/\done++rest=all/\aR X.K H' A done G3/\done.length<=i+1,λG3 H' z=>⟨k-1,(by lia),(by lia),z⟩,λx H3 y=>?_⟩;obtain⟨sm3,rp⟩:=yl x H3 y;have q3:=q2.same sm3;refine⟨H9 G js A ρ2 σ H3,A,jj js ρ2,us[i],H_ q3 ok,rp,?_⟩;rw[e7];intro σ4 q4 o4;refine⟨_,A,ρi,q4,?_⟩;rw[e8];intro H5 q5 x5 s5;dsimp only at e3;cases c with
  |false=>
   rw[hU QA] at e3 ⊢;obtain⟨q6,x6⟩:=q3.wb ok q5 o4;exact⟨ex.trans ((eD.same sm3).trans x6),_,done,rest,q6,e3,e4,(rs.same sm3).re q3.mu x6 (λb z=>.inl z),(by lia)⟩
  |true=>
   rw[hV rfl] at e3 ⊢;obtain⟨⟨y1,ρy⟩,e9,e3⟩:=R.bind_ok e3;obtain⟨⟨r,ρr⟩,e10,e3⟩:=R.bind_ok e3;cases e3;refine⟨_,A,ρc,q5,?_⟩;rw[e9];intro v H6 q6 x6 s6 vm;obtain⟨q7,x7⟩:=q3.wb ok q6 o4;exact⟨ex.trans ((eD.same sm3).trans x7),_,done++[y1],r,q7,e10,by rw[Rj];exact e4,((rs.same sm3).re q3.mu x7 (λb z=>.inl z)).append (aR.cons (vm.rp hn) aR.nil),by rw[QE];simp;lia⟩
 ·have e:i=us.length:=(by lia)
  subst e;rw[S0] at e3;cases e3;rw[Q1] at e4;subst e4;refine .inl ⟨w2,λa na=>?_⟩;have sn:=ee na (.lst ys);exact f _ _ (q2.same sn) ((x1.trans ex).trans (eD.same sn)) (λz=>nomatch z) (zJ.e q2 sn ⟨a,rfl,na,cL q2.mu rs na (by lia)⟩)
structure BO (X:Cx)(G:Gm)(rF:List RP)(b:Bool)(h:Ev->R (Bool×Ev)):Prop where
 un:zF X rF (AL X.K G b h)
noncomputable def jU:Ev->R (Bool×Ev):=λρ=>.ok (true,ρ)
theorem eE:BO X G [] false jU:=⟨λpins s σ H Q I ⟨Z,A,ρ,q,f⟩=>Bq pins s σ H Q I (f H q eD.refl λ_=>⟨rfl,aI.refl _⟩)⟩
theorem mf {h:Ev->R (Bool×Ev)}(hc:DT X G e b1 h):BO X G [e] b1 h:=⟨Br hc.un⟩
theorem iU (kS:Ud)(NX N:List Str)(js:List (Option Nat))(hc:X.calm=true)(hi:DI X G tg dH b1 p gi)(uO:∀Y:pA,DG (eB X scope N Y) (rM G js) tg sg/\BO (eB X scope N Y) (rM G js) rF false gt/\DE (eB X scope N Y) (rM G js) elt false me ge)(hn:me≠.P:=by decide)(ok:nB js=true:=by rfl)(kZ:X.env.scope=kS:=by rfl)(Fv:X.N=NX:=by rfl)(hS:rO kS NX scope N js=true:=by decide+kernel)(hs:∀x,RN dH X.env x=pure x:=by intro _;rfl):DE X G (.ListComp elt [⟨tg,dH,rF,0⟩] scope pos) b1 .O (jk gi js sg gt ge):=⟨(FE kS NX N js hc hi.un (λY=>⟨(uO Y).1.un,(uO Y).2.1.un,(uO Y).2.2.un⟩) kZ Fv hS hs).to λ_ _ _=>vk ok hn⟩
theorem Ia (kS:Ud)(NX N:List Str)(js:List (Option Nat))(hc:X.calm=true)(hi:DI X G tg dH b1 false gi)(uO:∀Y:pA,DG (eB X scope N Y) (rM G js) tg sg/\BO (eB X scope N Y) (rM G js) rF b2 gt/\DE (eB X scope N Y) (rM G js) elt b3 me ge)(hn:me≠.P:=by decide)(ok:nB js=true:=by rfl)(kZ:X.env.scope=kS:=by rfl)(Fv:X.N=NX:=by rfl)(hS:rO kS NX scope N js=true:=by decide+kernel)(hs:∀x,RN dH X.env x=pure x:=by intro _;rfl):DE X G (.ListComp elt [⟨tg,dH,rF,0⟩] scope pos) true .O (EM G gi js sg gt ge):=⟨(FE kS NX N js hc hi.un (λY=>⟨(uO Y).1.un,(uO Y).2.1.un,(uO Y).2.2.un⟩) kZ Fv hS hs).to λ_ _ _=>BN ok hn⟩
variable {lN AG:Pos}
theorem nC (kS:Ud)(NX N:List Str)(js:List (Option Nat))(hN:X.N.Nodup)(hc:X.calm=true)(hi:DI X G tg dH b1 p gi)(uO:∀Y:pA,DG (eB X scope N Y) (rM G js) tg sg/\BO (eB X scope N Y) (rM G js) rF false gt/\DE (eB X scope N Y) (rM G js) elt false me ge)(hx:X.N[i]? = some x:=by rfl)(hl:AQ X.env.scope x:=by first|exact Or.inl rfl|exact Or.inr rfl)(c:G.is i=false:=by rfl)(hn:me≠.P:=by decide)(ok:nB js=true:=by rfl)(kZ:X.env.scope=kS:=by rfl)(Fv:X.N=NX:=by rfl)(hS:rO kS NX scope N js=true:=by decide+kernel)(hw:TM (.ListComp elt [⟨tg,dH,rF,0⟩] scope AG) (some (.Name x lN)) pos.line X.env=pure true:=by rfl)(hf:X.fn x=true\/X.env.scope.names.lookup x=some .local:=by first|exact .inl rfl|exact .inr rfl|assumption)(hs:∀x,RN dH X.env x=pure x:=by intro _;rfl):DS X G m (.Assign [.Name x lN] (.ListComp elt [⟨tg,dH,rF,0⟩] scope AG) pos) (a_ i (jk gi js sg gt ge)):=⟨(Bs kS NX N js hN hx hl hc hi.un (λY=>⟨(uO Y).1.un,(uO Y).2.1.un,(uO Y).2.2.un⟩) kZ Fv hS hw hf hs).to λ_ _ _=>vj (b1:=b1) c (by decide) λ_ _ _=>vk ok hn⟩
end
end L2
namespace L2
noncomputable def bu (n:Nat)(us:List U):Ev:=us.map some++List.replicate (n-us.length) none
noncomputable def bE (m:Md)(n:Nat)(s:Ev->SR):List U->R U:=λus=>match s (bu n us) with
 | .rt u _=>.ok u
 | .nx _=>if m=.S then .ok .non else .stk
 | .exc c u=>.exc c u
 |_=>.stk
noncomputable def qm (n:Nat)(s:Ev->SR):List U->R (U×U):=λus=>match s (bu n us) with
 | .rt u ρ=>match ρ[0]? with
  |some (some w)=>.ok (u,w)
  |_=>.stk
 | .nx ρ=>match ρ[0]? with
  |some (some w)=>.ok (.non,w)
  |_=>.stk
 | .exc c u=>.exc c u
 |_=>.stk
theorem jm {u:U}(h:(bu n us)[i]? = some (some u)):us[i]? = some u:=by
 unfold bu at h;by_cases c:i<(us.map some).length
 ·rw[R7 c,QV] at h;cases e:us[i]? with
  |none=>rw[e] at h;cases h
  |some w=>rw[e] at h;simp at h;rw[h]
 ·rw[RA (by lia),Tb] at h;split at h
  ·cases h
  ·cases h
theorem i5 (h:vs[i]? = some v):(dJ N vs)[i]? = some (some v):=by
 unfold dJ;have c:i<(vs.map some).length:=by rw[QI];exact (QH.mp h).1
 rw[R7 c,QV,h];rfl
theorem tW (h:us.length=vs.length):(bu N.length us).length=(dJ N vs).length:=by
 unfold bu dJ;rw[QE,QE,QI,QI,SD,SD,h]
section
variable {w:Rx}
theorem qo {st:Si}(G:Gm)(m:Md)(s:Ev->SR)(zd:G.io=false)(ku:∀i,i<ps.length->G.is i=false)(fE:∀(f:QX) (bh:QG) (A:Rk) (outer:List Env) (s0:QP) (H:Hp) (E:XK),et k (A.deeper (RQ x (ao st) s0.heap.objs.size f bh))->
   vi (iF tM P w K mg base N x (ao st) f bh A outer s0 H E).nox G m (bV st) s) :
  (∀vs H Q E,dI K ps.length (bE m N.length s) m vs H Q E->vs.length=ps.length)/\∀(f:QX) (bh:QG) (A:Rk) (outer:List Env) (s0:QP) (H:Hp) (vs:List V) (Q:VK) (E:XK),et k (A.deeper (RQ x (ao st) s0.heap.objs.size f bh))->dI K ps.length (bE m N.length s) m vs H Q E->
   ∃t,pj (iF tM P w K mg base N x (ao st) f bh A outer s0 H E).nox (bV st) t/\t {nx:=λ_ H'=>Q .non H',rt:=Q} (dJ N vs) H:=by
 have hl:∀(us:List U) (A:QX->Prop) (H:Hp) (Q:VK),EJ K m A H (uW ps.length (bE m N.length s) us) Q->us.length=ps.length:=λus A H Q h=>by
  unfold uW at h;split at h
  ·assumption
  ·exact h.elim
 refine⟨λvs H Q E ⟨us,A,r,_,h⟩=>by rw[←r.length];exact hl us A H Q h,λf bh A outer s0 H vs Q E hr ⟨us,A0,r,mu,h⟩=>⟨_,(fE f bh A outer s0 H E hr).un,?_⟩⟩;have l:=hl us A0 H Q h;unfold uW at h;rw[hV l] at h;refine⟨⟨A0,H,0⟩,A0,bu N.length us,?_,?_⟩
 ·exact {
   slot:=λi u hu=>by
    have hu:=jm hu;obtain⟨v,h1,h2⟩:=r.get hu;refine⟨v,i5 h1,?_⟩;rw[hU (by rw[ku i (by rw[←l];exact (QH.mp hu).1)];exact QA)];exact h2
   dis:=λi j u w a ci cj ne hi hj si sj=>by
    rw[ku i (by rw[←l];exact (QH.mp (jm hi)).1)] at ci;cases ci
   mu:=mu
   sup:=λa h=>h
   out:=λa h=>.inl h
   bas:=λa o h=>h
   io0:=λh=>by rw[zd] at h;cases h
   len:=tW r.length}
 ·unfold bE at h;cases e:s (bu N.length us) with
  |nx ρ'=>
   rw[e] at h;dsimp only at h;intro A' σ' H' q;split at h
   ·rename_i hm;subst hm;exact h _ H' q.bas (show Rp K H' A0 .non .non from qd)
   ·exact h.elim
  |rt u ρ'=>
   rw[e] at h;intro A' σ' H' v q vm;refine h v H' q.bas ?_;cases m with
   |S=>exact vm
   |P=>exact vm.elim
   |O=>
    obtain⟨a,e1,e2,e3,e4⟩:=vm;exact⟨a,e1,e2,e4⟩
  |bk=>rw[e] at h;exact h.elim
  |ct=>rw[e] at h;exact h.elim
  |exc=>rw[e] at h;exact h.elim
  |stk=>rw[e] at h;exact h.elim
theorem Df.fnD {st:Si}(G:Gm)(m:Md)(s:Ev->SR)(d:Df K mg x st)(S:aE N ps (ao st))(hb:∀(kV kq pm:QG) (an:Option QX) (bh ct:QG) (us:List QG),us.length=ps.length->bindArgs (Rt x x (eK st) (bV st) (ao st) .none kV kq pm an bh ct) ⟨us,[]⟩=pure (ps.zip us))(zd:G.io=false)(ku:∀i,i<ps.length->G.is i=false)(fE:∀(f:QX) (bh:QG) (A:Rk) (outer:List Env) (s0:QP) (H:Hp) (E:XK),et k (A.deeper (RQ x (ao st) s0.heap.objs.size f bh))->
   vi (iF tM P w K mg base N x (ao st) f bh A outer s0 H E).nox G m (bV st) s):Fn P w K mg base x (k+1) ps (dI K ps.length (bE m N.length s) m):=
 d.fn S hb (qo G m s zd ku fE).1 (qo G m s zd ku fE).2
theorem D1.okD {st:Si}(G:Gm)(m:Md)(s:Ev->SR)(F:D1 K x x st f fd)(S:aE N ps (ao st))(zd:G.io=false)(ku:∀i,i<ps.length->G.is i=false)(fE:∀(f:QX) (bh:QG) (A:Rk) (outer:List Env) (s0:QP) (H:Hp) (E:XK),et k (A.deeper (RQ x (ao st) s0.heap.objs.size f bh))->
   vi (iF tM P w K mg base N x (ao st) f bh A outer s0 H E).nox G m (bV st) s):iZ P w K mg base tM (k+1) f fd ps (dI K ps.length (bE m N.length s) m):=
 F.ok S (qo G m s zd ku fE).1 ((qo G m s zd ku fE).2 f)
def vn (K:QB):Sp:=λvs H Q _=>∃(a:QX) (ns:List Int),vs=[.ref a]/\EC K H a (ns.map V.int)/\ns.length<=63/\∀H',Q (.bl true) H'
theorem Ib (hO:Es H)(h:fi K H a xs):EC K H a xs:=by
 rcases h with (h|h)|h
 ·rcases hO a with z|⟨o,ys,z⟩
  ·rw[h] at z;cases z
  ·rw[h] at z;cases z
 ·exact .inl h
 ·exact .inr h
theorem vo {H:Hp}{A:QX->Prop}:∀(ns:List Int),aR K H A (ns.map .int) (ns.map V.int)
 | []=>aR.nil
 |n::ns=>aR.cons cy (vo ns)
theorem Ic {f:List U->R U}{fa:QX}(F:iZ P w K mg base tM k fa fd ["script"] (dI K 1 f .S))(h:∀ns:List Int,ns.length<=63->f [.scr (ns.map .int)]=.ok (.bl true)):iZ P w K mg base tM k fa fd ["script"] (vn K):=by
 refine F.imp λvs H Q E ⟨a,ns,e,sc,l,q⟩=>?_;subst e;have hl:(ns.map U.int).length<=QC:=by rw[QI];have:QC=16777216:=rfl;lia
 refine⟨[.scr (ns.map .int)],λ_=>False,aR.cons ?_ aR.nil,λ_ h=>h.elim,?_⟩
 ·unfold Rp;exact⟨a,_,rfl,sc,hl,vo ns⟩
 ·have e:uW 1 f [.scr (ns.map .int)]=.ok (.bl true):=(hV rfl).trans (h ns l);rw[e];intro v H' sm vm;have vm:Rp K H' (λ_=>False) (.bl true) v:=vm;unfold Rp at vm;subst vm;exact q H'
theorem Df.fnI {st:Si}(G:Gm)(s:Ev->SR)(d:Df K mg x st)(S:aE N ps (ao st))(hb:∀(kV kq pm:QG) (an:Option QX) (bh ct:QG) (us:List QG),us.length=ps.length->bindArgs (Rt x x (eK st) (bV st) (ao st) .none kV kq pm an bh ct) ⟨us,[]⟩=pure (ps.zip us))(zd:G.io=true)(h0:G.is 0=true)(ku:∀i,i<ps.length->i≠0->G.is i=false)(fE:∀(f:QX) (bh:QG) (A:Rk) (outer:List Env) (s0:QP) (H:Hp) (E:XK),et k (A.deeper (RQ x (ao st) s0.heap.objs.size f bh))->
   vi (iF tM P w K mg base N x (ao st) f bh A outer s0 H E).nox G .S (bV st) s):Fn P w K mg base x (k+1) ps (yf K ps.length (qm N.length s)):=by
 refine d.fn S hb ?_ ?_
 ·rintro vs H Q E ⟨u0,us,a0,vs',A,rfl,_,_,r,_,h⟩;unfold uW at h;split at h
  ·rename_i e;split at e
   ·rename_i l;rw[QL,←r.length,←l];rfl
   ·cases e
  ·exact h.elim
 ·rintro f bh A outer s0 H vs Q E hr ⟨u0,us,a0,vs',A0,rfl,ha,t0,r,mu,h⟩;refine⟨_,(fE f bh A outer s0 H E hr).un,?_⟩;have l:(u0::us).length=ps.length:=by
   unfold uW at h;by_cases c:(u0::us).length=ps.length
   ·exact c
   ·rw[hU c] at h;exact h.elim
  unfold uW at h;rw[hV l] at h
  let Z:Pkg:=⟨A0,λb=>if b=a0 then none else H b,a0⟩
  have zb:∀b o,b≠a0->H b=some o->Z.B b=some o:=λb o nb z=>by
   show (if b=a0 then none else H b)=some o;rw[hU nb];exact z
  have rel:cZ K G Z A0 (bu N.length (u0::us)) (dJ N (.ref a0::vs')) H:={
   slot:=λi u hu=>by
    have hu:=jm hu;cases i with
    |zero=>
     simp at hu;subst hu;refine⟨.ref a0,i5 (by simp),?_⟩;rw[hV h0];exact⟨a0,rfl,ha,by show (if a0=a0 then none else H a0)=none;rw[hV rfl],.inr ⟨zd,rfl⟩,t0⟩
    |succ i=>
     have hl:=(QH.mp hu).1;rw[RK] at hu;obtain⟨v,h1,h2⟩:=r.get hu;refine⟨v,i5 (by rw[RK];exact h1),?_⟩;rw[hU (by rw[ku (i+1) (by rw[←l];exact hl) (by lia)];exact QA)];exact h2
   dis:=λi j u w a ci cj ne hi hj si sj=>by
    have hi:=(QH.mp (jm hi)).1;have hj:=(QH.mp (jm hj)).1;by_cases e:i=0
    ·rw[ku j (by rw[←l];exact hj) (by lia)] at cj;cases cj
    ·rw[ku i (by rw[←l];exact hi) e] at ci;cases ci
   mu:=mu
   sup:=λa h=>h
   out:=λa h=>.inl h
   bas:=λa o h=>by
    by_cases c:a=a0
    ·have h:(if a=a0 then none else H a)=some o:=h;rw[hV c] at h;cases h
    ·have h:(if a=a0 then none else H a)=some o:=h;rw[hU c] at h;exact h
   io0:=λ_=>⟨i5 (vs:=.ref a0::vs') (i:=0) (v:=.ref a0) rfl,h0⟩
   len:=tW (by rw[QL,QL,r.length])}
  have ko:∀(A':QX->Prop) (ρ':Ev) (σ':St) (H':Hp) (w:U),cZ K G Z A' ρ' σ' H'->ρ'[0]? = some (some w)->(∀b o,b≠a0->H b=some o->H' b=some o)/\kW K H' A0 w a0:=λA' ρ' σ' H' w q hw=>by
   obtain⟨a,e1,e2,e3,e4,e5⟩:=q.own h0 hw;rw[(q.io0 zd).1] at e1;cases e1;exact⟨λb o nb z=>q.bas b o (zb b o nb z),e5.mono q.sup⟩
  refine⟨Z,A0,_,rel,?_⟩;unfold qm at h;cases e:s (bu N.length (u0::us)) with
  |nx ρ'=>
   rw[e] at h;dsimp only at h;intro A' σ' H' q;split at h
   ·rename_i hm;split at hm
    ·rename_i w hw;cases hm;obtain⟨z1,z2⟩:=ko A' ρ' σ' H' _ q hw;exact h _ H' z1 z2 qd
    ·cases hm
   ·exact h.elim
  |rt u ρ'=>
   rw[e] at h;dsimp only at h;intro A' σ' H' v q vm;split at h
   ·rename_i hm;split at hm
    ·rename_i w hw;cases hm;obtain⟨z1,z2⟩:=ko A' ρ' σ' H' _ q hw;exact h _ H' z1 z2 vm
    ·cases hm
   ·exact h.elim
  |bk=>rw[e] at h;exact h.elim
  |ct=>rw[e] at h;exact h.elim
  |exc=>rw[e] at h;exact h.elim
  |stk=>rw[e] at h;exact h.elim
end
section
variable {e e2:RP}{p1 p2:Pos}{y:Str}{b1 b2:Bool}{m m1 m2:Md}{g1 g2:Ev->R (U×Ev)}
noncomputable def qp (i:Nat)(gv gk:Ev->R (U×Ev)):Ev->SR:=λρ=>SR.of (gv ρ) λx=>if zL x.2 i=true then SR.of (gk x.2) λy=>match y.1 with
 | .int k=>match y.2[i]? with
  |some (some (.lst us))=>match tG us.length k with
   |some j=>.nx (y.2.set i (some (.lst (us.set j x.1))))
   |none=>.stk
  |_=>.stk
 |_=>.stk
 else .stk
theorem tX (he:DE X G e b1 m1 g1)(hk:DE X G e2 b2 m2 g2)(hn:m1≠.P:=by decide)(hN:X.N[i]? = some y:=by rfl)(hv:zk X.env.scope y:=by first|exact Or.inl rfl|exact Or.inr (Or.inl rfl)|exact Or.inr (Or.inr rfl))(c:G.is i=true:=by rfl)(hd:(y==("__debug__":Str))=false:=by decide)(kn:(y==("__classdict__":Str))=false:=by decide)(ha:∀v,assign (.Subscript (.Name y p1) e2 p2) X.env v=(do
   let ov ←holding [v] (Sv (.Name y p1) X.env)
   let iv ←holding [v,ov] (Sv e2 X.env)
   standAt p2
   holding [v,ov,iv] (setItem ov iv v)
   release [v,ov,iv] []):=by intro _;rfl)(hs:swapsWithSole [.Subscript (.Name y p1) e2 p2] e pos.line X.env=pure false:=by rfl)(hw:swappedStores [.Subscript (.Name y p1) e2 p2] e X.env=pure none:=by rfl)(h1:(Sl [.Subscript (.Name y p1) e2 p2] X.env).map (·.2)=[assign (.Subscript (.Name y p1) e2 p2) X.env]:=by rfl):DS X G m (.Assign [.Subscript (.Name y p1) e2 p2] e pos) (qp i g1 g2):=⟨(Hl he.un (Hk (iR hN hv hd kn) hk.un Bf ha) hs hw h1).to λD σ H h00=>by
 obtain⟨Z,A,ρ,q,f⟩:=h00;obtain⟨⟨u,ρ1⟩,e1,f⟩:=f.of;refine⟨Z,A,ρ,q,?_⟩;rw[e1];intro v H1 q1 x1 s1 vm;dsimp only at f;split at f
 ·rename_i hl;obtain⟨u00,hu0⟩:=tU hl;obtain⟨a0,h0,_⟩:=q1.own c hu0;obtain⟨⟨k,ρ2⟩,e2,f⟩:=f.of;refine⟨.ref a0,h0,Z,A,ρ1,q1,?_⟩;rw[e2];intro v2 H2 q2 x2 s2 s_;dsimp only at f;cases k with
  |int kk=>
   dsimp only at f;split at f
   ·rename_i us hu;split at f
    ·rename_i j hj;obtain⟨a0',k1,k2,_,_,k5⟩:=q2.own c hu;rw[h0] at k1;cases k1;obtain⟨xs,t1,t2,t3⟩:=k5;refine⟨a0,xs,kk,j,rfl,s_.pk.int,t1,by rw[←t3.length];exact hj,?_⟩;have em:∀b o,b≠a0->H2 b=some o->cE H2 a0 (.lst (xs.set j v)) b=some o:=λb o nb z=>by rw[aL nb];exact z
     have ex:eD A H2 (cE H2 a0 (.lst (xs.set j v))):=λb o nb z=>em b o (λy=>nb (y▸k2)) z;refine f A σ _ (q2.put c hu h0 em ⟨xs.set j v,aT,by rw[RJ];exact t2,?_⟩);exact (t3.re q2.mu ex λb z=>.inl z).set j (((vm.rp hn).re q1.mu x2 λb z=>.inl z).re q2.mu ex λb z=>.inl z)
    ·exact f.elim
   ·exact f.elim
  |_=>exact f.elim
 ·exact f.elim⟩
noncomputable def BP (i:Nat)(p:U->U->R U)(g:Ev->R (U×Ev)):Ev->SR:=λρ=>match ρ[i]? with
 |some (some u)=>SR.of (g ρ) λy=>SR.of (p u y.1) λz=>.nx (y.2.set i (some z))
 |_=>.stk
noncomputable def Kw (f:Int->Int->Int):U->U->R U:=λu w=>match u,w with
 | .int i,.int j=>.ok (.int (f i j))
 |_,_=>.stk
theorem Ie {op:Operator}{f:Int->Int->Int}(ho:Mr X op (NQ f))(hN:X.N.Nodup)(he:DE X G e b1 m1 g1)(hi:X.N[i]? = some x:=by rfl)(hx:AQ X.env.scope x:=by first|exact Or.inl rfl|exact Or.inr rfl)(c:G.is i=false:=by rfl)(hf:X.fn x=true\/X.env.scope.names.lookup x=some .local:=by first|exact .inl rfl|exact .inr rfl|assumption):DS X G m (.AugAssign (.Name x p1) op e pos) (BP i (Kw f) g1):=⟨(Hm hN hi hx he.un ho hf).to λD σ H h00=>by
 obtain⟨Z,A,ρ,q,f⟩:=h00;unfold BP at f;split at f
 ·rename_i u hu;obtain⟨v,h1,h2⟩:=q.val c hu;obtain⟨⟨w,ρ1⟩,e1,f⟩:=f.of;obtain⟨z,e2,f⟩:=f.of;dsimp only at e2 f;refine⟨v,h1,Z,A,ρ,q,?_⟩;rw[e1];intro v2 H1 q1 x1 s1 vm;unfold Kw at e2;split at e2
  ·cases e2;unfold Rp at h2;subst h2;exact⟨_,_,rfl,vm.pk.int,f A _ H1 (q1.set c cy)⟩
  ·cases e2
 ·exact f.elim⟩
end
end L2
namespace L2
def BQ:R2:=λx y H Q=>∃l b xs zs,x=.ref l/\y=.ref b/\H l=some (.lst xs)/\H b=some (.lst zs)/\xs.length+zs.length<=QC/\∀p,H p=none->Q (.ref p) (cE H p (.lst (xs++zs)))
theorem tY:iY X (Sr .Add) BQ:=by
 intro pins s σ H x y v u Q I rx ry h;obtain⟨l,b,xs,zs,rfl,rfl,hH,hB,hz,q⟩:=h;cases rx;cases ry;obtain⟨z,ay,n,r,hl,e⟩:=I.lstM hH;obtain⟨z2,its2,n2,r2,Jm,e2⟩:=I.lstM hB;refine PySem.P.add_list e e2 ?_ (by rw[QD,QD];lia);have ea:ay.toArray++its2.toArray=(ay++its2).toArray:=by simp
 rw[ea];exact⟨.ref _,_,I.lnew (t':=s.toks) (r.append r2) (by rw[QE];lia),rfl,q _ I.fresh⟩
noncomputable def cF:U->U->R U:=λu w=>match u,w with
 | .int i,.int j=>.ok (.int (i+j))
 | .tup a,.tup b=>if a.length+b.length<=QC then .ok (.tup (a++b)) else .stk
 | .lst a,.lst b=>if a.length+b.length<=QC then .ok (.lst (a++b)) else .stk
 |_,_=>.stk
noncomputable def zP:U->U->R U:=λu w=>match u,w with
 | .lst a,.lst b=>if a.length+b.length<=QC then .ok (.lst (a++b)) else .stk
 |_,_=>.stk
def FH:R2:=λx y H Q=>(wM λi j=>.int (i+j)) x y H Q\/BA x y H Q\/BQ x y H Q
theorem aW:iY X (Sr .Add) FH:=Ht.or (BB.or tY)
theorem tZ:fg K BQ .O zP:=λA H x y u w z Q hx hy mu e q=>by
 unfold zP at e;split at e
 ·split at e
  ·rename_i hl;cases e;unfold Pk at hx hy;obtain⟨a,xs,rfl,h1,l1,r1⟩:=hx;obtain⟨b,ys,rfl,h2,l2,r2⟩:=hy;exact⟨a,b,xs,ys,rfl,rfl,h1,h2,by rw[←r1.length,←r2.length];exact hl,λp hp=>q _ _ (ee hp _) ⟨p,rfl,hp,cL mu (r1.append r2) hp (by rw[QE];exact hl)⟩⟩
  ·cases e
 ·cases e
theorem aX:fg K FH .S cF:=λA H x y u w z Q hx hy mu e q=>by
 unfold cF at e;split at e
 ·cases e;exact .inl ⟨_,_,hx.int,hy.int,q _ H (aI.refl _) (show Rp K H A _ _ from cy)⟩
 ·split at e
  ·rename_i hl;cases e;unfold Pk at hx hy;obtain⟨a,xs,rfl,h1,l1,r1⟩:=hx;obtain⟨b,ys,rfl,h2,l2,r2⟩:=hy;refine .inr (.inl ⟨a,b,xs,ys,rfl,rfl,h1,h2,by rw[←r1.length,←r2.length];exact hl,λr H' sm hr=>q _ H' sm (show Rp K H' A _ _ from ?_)⟩);unfold Rp;exact⟨r,_,rfl,hr,by rw[QE];exact hl,(r1.append r2).same sm⟩
  ·cases e
 ·refine .inr (.inr (tZ A H x y _ _ z Q hx hy mu (show zP (.lst _) (.lst _)=_ from e) λv H' sm vm=>q v H' sm ?_));obtain⟨a,rfl,na,t⟩:=vm;exact t.rp (λb h=>.inl h) λh=>by have:=mu a h;rw[na] at this;exact this
 ·cases e
noncomputable def pI (c:Int->Int->Bool)(f:Int->Int->Int):U->U->R U:=λu w=>match u,w with
 | .int i,.int j=>if c i j=true then .ok (.int (f i j)) else .stk
 |_,_=>.stk
theorem yk {C:Int->Int->Prop}{c:Int->Int->Bool}{f:Int->Int->Int}(h:∀i j,c i j=true->C i j):fg K (rI C λi j=>.int (f i j)) .S (pI c f):=λA H x y u w z Q hx hy mu e q=>by
 unfold pI at e;split at e
 ·rename_i i j;split at e
  ·rename_i hc;cases e;exact⟨i,j,hx.int,hy.int,h i j hc,q _ H (aI.refl _) (show Rp K H A _ _ from cy)⟩
  ·cases e
 ·cases e
noncomputable def vp:U->U->R U:=λu w=>match u,w with
 | .int i,.int j=>.ok (.int (i-j))
 |_,_=>.stk
theorem pF:fg K (wM λi j=>.int (i-j)) .S vp:=λA H x y u w z Q hx hy mu e q=>by
 unfold vp at e;split at e
 ·cases e;exact⟨_,_,hx.int,hy.int,q _ H (aI.refl _) (show Rp K H A _ _ from cy)⟩
 ·cases e
noncomputable def nD (i j:Int):Bool:=(decide (-(2 ^ 64)<i)&&decide (i<2 ^ 64))||(decide (-(2 ^ 64)<j)&&decide (j<2 ^ 64))
noncomputable def k9:U->U->R U:=pI nD (·*·)
theorem iJ:fg K (rI Ef λi j=>.int (i*j)) .S k9:=yk λi j h=>by
 unfold nD at h;simp only[SG,QU,decide_eq_true_eq] at h;exact h
noncomputable def zQ (_ j:Int):Bool:=decide (0<j)&&decide (j<18446744073709551616)
noncomputable def ym:U->U->R U:=pI zQ (· / ·)
theorem vq:fg K (rI Bv λi j=>.int (i / j)) .S ym:=yk λi j h=>by
 unfold zQ at h;simp only[QU,decide_eq_true_eq] at h;exact h
noncomputable def t7:U->U->R U:=pI (λ_ j=>decide (0<j)) (· % ·)
theorem jn:fg K (rI (λ_ j=>0<j) λi j=>.int (i % j)) .S t7:=yk λi j h=>of_decide_eq_true h
noncomputable def EN (i j:Int):Bool:=decide (0<=j)&&decide (j<=1000000)&&decide (i.natAbs<2 ^ 64)
noncomputable def EO:U->U->R U:=pI EN λi j=>i ^ j.toNat
theorem yn:fg K (rI J2 λi j=>.int (i ^ j.toNat)) .S EO:=yk λi j h=>by
 unfold EN at h;simp only[QU,decide_eq_true_eq] at h;exact⟨h.1.1,h.1.2,h.2⟩
noncomputable def nE:U->R U:=λu=>match u with
 | .int i=>.ok (.int (-i))
 |_=>.stk
theorem jo:HV K (rU λi=>.int (-i)) .S nE:=λA H x u z Q hx mu e q=>by
 unfold nE at e;split at e
 ·cases e;exact⟨_,hx.int,q _ H (aI.refl _) (show Rp K H A _ _ from cy)⟩
 ·cases e
noncomputable def pC (f:Int->Int->Bool):U->U->R U:=λu w=>match u,w with
 | .int i,.int j=>.ok (.bl (f i j))
 |_,_=>.stk
theorem yo {f:Int->Int->Bool}:fg K (wM λi j=>.bl (f i j)) .S (pC f):=λA H x y u w z Q hx hy mu e q=>by
 unfold pC at e;split at e
 ·cases e;exact⟨_,_,hx.int,hy.int,q _ H (aI.refl _) (show Rp K H A _ _ from gr)⟩
 ·cases e
noncomputable def JD:U->U->R U:=pC λi j=>decide (i<j)
noncomputable def Kx:U->U->R U:=pC λi j=>decide (i<=j)
noncomputable def D3:U->U->R U:=pC λi j=>decide (j<i)
noncomputable def MX:U->U->R U:=pC λi j=>decide (j<=i)
mutual
noncomputable def dG:U->Option D
 | .non=>some .non
 | .bl b=>some (.bl b)
 | .int i=>some (.int i)
 | .str x=>some (.str x)
 | .tup us=>(d5 us).map .tup
 | .lst us=>(d5 us).map .lst
 | .dct _ _=>none
 | .scr _=>none
noncomputable def d5:List U->Option (List D)
 | []=>some []
 |u::us=>(dG u).bind λd=>(d5 us).map λds=>d::ds
end
mutual
theorem xk {H:Hp}{A:QX->Prop}:∀{u:U} {v:V} {d:D},Rp K H A u v->dG u=some d->aU K H d v
 | .non,v,d,h,e=>by unfold dG at e;cases e;unfold Rp at h;unfold aU;exact h
 | .bl b,v,d,h,e=>by unfold dG at e;cases e;unfold Rp at h;unfold aU;exact h
 | .int b,v,d,h,e=>by unfold dG at e;cases e;unfold Rp at h;unfold aU;exact h
 | .str b,v,d,h,e=>by unfold dG at e;cases e;unfold Rp at h;unfold aU;exact h
 | .tup us,v,d,h,e=>by
  unfold dG at e;cases e2:d5 us with
  |none=>rw[e2] at e;cases e
  |some ds=>
   rw[e2] at e;cases e;unfold Rp at h;unfold aU;obtain⟨a,xs,r,q,l,z⟩:=h;exact⟨a,xs,r,gL.of q,kI z e2⟩
 | .lst us,v,d,h,e=>by
  unfold dG at e;cases e2:d5 us with
  |none=>rw[e2] at e;cases e
  |some ds=>
   rw[e2] at e;cases e;unfold Rp at h;unfold aU;obtain⟨a,xs,r,_,q,l,z⟩:=h;exact⟨a,xs,r,fi.of q,kI z e2⟩
 | .dct _ _,v,d,h,e=>by unfold dG at e;cases e
 | .scr _,v,d,h,e=>by unfold dG at e;cases e
theorem kI {H:Hp}{A:QX->Prop}:∀{us:List U} {vs:List V} {ds:List D},aR K H A us vs->d5 us=some ds->fK K H ds vs
 | [],vs,ds,h,e=>by unfold d5 at e;cases e;unfold aR at h;unfold fK;exact h
 |u::us,vs,ds,h,e=>by
  unfold d5 at e;cases e1:dG u with
  |none=>rw[e1] at e;cases e
  |some d=>
   cases e2:d5 us with
   |none=>rw[e1,e2] at e;cases e
   |some ds'=>
    rw[e1,e2] at e;cases e;unfold aR at h;unfold fK;obtain⟨x,r,q,p,z⟩:=h;exact⟨x,r,q,xk p e1,kI z e2⟩
end
theorem t9 {u:U}{d:D}(h:Pk K H A u v)(e:dG u=some d):aU K H d v:=by
 cases u with
 |lst us=>
  unfold dG at e;cases e2:d5 us with
  |none=>rw[e2] at e;cases e
  |some ds=>
   rw[e2] at e;cases e;unfold Pk at h;unfold aU;obtain⟨a,xs,r,q,l,z⟩:=h;exact⟨a,xs,r,fi.of q,kI z e2⟩
 |dct=>unfold dG at e;cases e
 |scr=>unfold dG at e;cases e
 |tup us=>exact xk (A:=A) (by unfold Pk at h;unfold Rp;exact h) e
 |_=>exact xk (A:=A) (by unfold Pk at h;unfold Rp;exact h) e
noncomputable def jV (u w:U):R Bool:=match dG u,dG w with
 |some d,some d'=>if bP d<=30 then .ok (fk d d') else .stk
 |_,_=>.stk
noncomputable def mX (f:Bool->Bool):U->U->R U:=λu w=>(jV u w).bind λb=>.ok (.bl (f b))
theorem cM {f:Bool->Bool}:fg K (HL K f) .S (mX f):=λA H x y u w z Q hx hy mu e q=>by
 unfold mX jV at e;obtain⟨b,e1,e2⟩:=R.bind_ok e;split at e1
 ·rename_i d d' h1 h2;split at e1
  ·rename_i hd;cases e1;cases e2;exact⟨d,d',t9 hx h1,t9 hy h2,hd,q _ H (aI.refl _) (show Rp K H A _ _ from gr)⟩
  ·cases e1
 ·cases e1
noncomputable def i6:U->Bool
 | .non=>true
 |_=>false
theorem vt {u:U}(h:Pk K H A u v):decide (v=.non)=i6 u:=by
 cases u<;>unfold Pk at h
 case non=>subst h;rfl
 case tup=>obtain⟨a,xs,rfl,_⟩:=h;rfl
 case lst=>obtain⟨a,xs,rfl,_⟩:=h;rfl
 case dct=>obtain⟨a,xs,rfl,_⟩:=h;rfl
 case scr=>obtain⟨a,xs,rfl,_⟩:=h;rfl
 all_goals (subst h;rfl)
noncomputable def xl (f:Bool->Bool):U->U->R U:=λu w=>match w with
 | .non=>.ok (.bl (f (i6 u)))
 |_=>.stk
theorem ER:fg K (λx y H Q=>y=.non/\Q (.bl (decide (x=.non))) H) .S (xl id):=λA H x y u w z Q hx hy mu e q=>by
 unfold xl at e;split at e
 ·cases e;refine⟨by unfold Pk at hy;exact hy,q _ H (aI.refl _) ?_⟩;rw[vt hx];exact (show Rp K H A _ _ from gr)
 ·cases e
theorem BR:fg K (λx y H Q=>y=.non/\Q (.bl (!decide (x=.non))) H) .S (xl not):=λA H x y u w z Q hx hy mu e q=>by
 unfold xl at e;split at e
 ·cases e;refine⟨by unfold Pk at hy;exact hy,q _ H (aI.refl _) ?_⟩;rw[vt hx];exact (show Rp K H A _ _ from gr)
 ·cases e
noncomputable def MY (f:Bool->Bool):U->U->R U:=λu w=>match u,w with
 | .bl a,.bl b=>.ok (.bl (f (decide (a=b))))
 |_,_=>.stk
theorem xm {i:Int}{z:U}(r:aR K H A us xs)(e:jI us i=some z):∃v,jI xs i=some v/\Rp K H A z v:=by
 unfold jI at e ⊢;rw[←r.length];cases h:tG us.length i with
 |none=>rw[h] at e;cases e
 |some j=>
  rw[h] at e;obtain⟨v,h1,h2⟩:=r.get (show us[j]? = some z from e);exact⟨v,h1,h2⟩
noncomputable def cq:U->U->R U:=λu w=>match u,w with
 | .lst us,.int i=>match jI us i with
  |some z=>.ok z
  |none=>.stk
 | .tup us,.int i=>match jI us i with
  |some z=>.ok z
  |none=>.stk
 | .scr us,.int i=>match jI us i with
  |some z=>.ok z
  |none=>.stk
 | .str x,.int i=>match jI x.cps.toList i with
  |some c=>if x.length<=QC then .ok (.str ⟨(List.toArray [c])⟩) else .stk
  |none=>.stk
 |_,_=>.stk
theorem aw:fg K (NW K) .S cq:=λA H x y u w z Q hx hy mu e q=>by
 unfold cq at e;split at e
 ·split at e
  ·rename_i z' hz;cases e;unfold Pk at hx;obtain⟨a,xs,rfl,h1,l1,r1⟩:=hx;obtain⟨v,h2,h3⟩:=xm r1 hz;exact .inl ⟨a,xs,_,v,rfl,hy.int,fi.of h1,h2,q _ H (aI.refl _) h3⟩
  ·cases e
 ·split at e
  ·rename_i z' hz;cases e;unfold Pk at hx;obtain⟨a,xs,rfl,h1,l1,r1⟩:=hx;obtain⟨v,h2,h3⟩:=xm r1 hz;exact .inr (.inl ⟨a,xs,_,v,rfl,hy.int,gL.of h1,h2,q _ H (aI.refl _) h3⟩)
  ·cases e
 ·split at e
  ·rename_i z' hz;cases e;unfold Pk at hx;obtain⟨a,xs,rfl,h1,l1,r1⟩:=hx;obtain⟨v,h2,h3⟩:=xm r1 hz;exact .inl ⟨a,xs,_,v,rfl,hy.int,h1.sq,h2,q _ H (aI.refl _) h3⟩
  ·cases e
 ·split at e
  ·rename_i z' hz;split at e
   ·rename_i hl;cases e;exact .inr (.inr ⟨_,_,z',hx.str,hy.int,hl,hz,q _ H (aI.refl _) (show Rp K H A _ _ from tR)⟩)
   ·cases e
  ·cases e
 ·cases e
noncomputable def gu {α:Type}(xs:List α)(lo hi:Option Int):List α:=(xs.drop (HT.sIx xs.length 0 lo)).take (HT.sIx xs.length xs.length hi-HT.sIx xs.length 0 lo)
theorem j5 {α:Type}(xs:List α)(lo hi:Option Int):(gu xs lo hi).length<=xs.length:=by
 unfold gu;rw[R0,Sj];lia
theorem t_ (r:aR K H A us xs)(lo hi:Option Int):aR K H A (gu us lo hi) (pZ xs lo hi):=by
 unfold gu pZ;rw[←r.length];exact (r.drop _).take _
theorem b_:Bc X (λx lo hi H Q=>Eo X.K x lo hi H Q\/Bz X.K x lo hi H Q):=Ep.or EB
noncomputable def oi:U->Option Int->Option Int->R U:=λu lo hi=>match u with
 | .lst us=>.ok (.lst (gu us lo hi))
 | .scr us=>.ok (.lst (gu us lo hi))
 | .tup us=>.ok (.tup (gu us lo hi))
 |_=>.stk
noncomputable def Ky:U->Option Int->Option Int->R U:=λu lo hi=>match u with
 | .lst us=>.ok (.lst (gu us lo hi))
 | .scr us=>.ok (.lst (gu us lo hi))
 |_=>.stk
theorem yp:BJ K (Eo K) .O Ky:=λA H x u lo hi z Q hx mu e q=>by
 unfold Ky at e;split at e
 ·cases e;unfold Pk at hx;obtain⟨a,xs,rfl,h1,l1,r1⟩:=hx;exact⟨a,xs,rfl,fi.of h1,λp hp=>q _ _ (ee hp _) ⟨p,rfl,hp,cL mu (t_ r1 lo hi) hp (Rn (j5 _ _ _) l1)⟩⟩
 ·cases e;unfold Pk at hx;obtain⟨a,xs,rfl,h1,l1,r1⟩:=hx;exact⟨a,xs,rfl,h1.sq,λp hp=>q _ _ (ee hp _) ⟨p,rfl,hp,cL mu (t_ r1 lo hi) hp (Rn (j5 _ _ _) l1)⟩⟩
 ·cases e
theorem FI {u:U}(mu:∀a,A a->Mu (H a))(vm:zJ K .O A H H' u v):Rp K H' A u v:=by
 obtain⟨a,rfl,na,t⟩:=vm;exact t.rp (λb h=>.inl h) λh=>by have:=mu a h;rw[na] at this;exact this
theorem eh:BJ K (λx lo hi H Q=>Eo K x lo hi H Q\/Bz K x lo hi H Q) .S oi:=λA H x u lo hi z Q hx mu e q=>by
 unfold oi at e;split at e
 ·cases e;exact .inl (yp A H x _ lo hi _ Q hx mu rfl λv H' sm vm=>q v H' sm (FI mu vm))
 ·cases e;exact .inl (yp A H x _ lo hi _ Q hx mu rfl λv H' sm vm=>q v H' sm (FI mu vm))
 ·cases e;unfold Pk at hx;obtain⟨a,xs,rfl,h1,l1,r1⟩:=hx;refine .inr ⟨a,xs,rfl,h1,λr H' sm hr=>q _ H' sm (show Rp K H' A _ _ from ?_)⟩;unfold Rp;exact⟨r,_,rfl,hr,Rn (j5 _ _ _) l1,(t_ r1 lo hi).same sm⟩
 ·cases e
end L2
namespace L2
section
theorem w_.one {u:U}(h:w_ K H A [u] vs):∃v,vs=[v]/\Pk K H A u v:=by
 unfold w_ at h;obtain⟨x,r,rfl,p,q⟩:=h;unfold w_ at q;subst q;exact⟨x,rfl,p⟩
theorem w_.two {u w:U}(h:w_ K H A [u,w] vs):∃v v',vs=[v,v']/\Pk K H A u v/\Pk K H A w v':=by
 unfold w_ at h;obtain⟨x,r,rfl,p,q⟩:=h;obtain⟨v,rfl,q'⟩:=w_.one q;exact⟨x,v,rfl,p,q'⟩
noncomputable def dD:List U->R U:=λus=>match us with
 | [.lst xs]=>.ok (.int xs.length)
 | [.tup xs]=>.ok (.int xs.length)
 | [.scr xs]=>.ok (.int xs.length)
 | [.str x]=>if x.length<=QC then .ok (.int x.length) else .stk
 |_=>.stk
theorem bD:l4 K (λxs H Q=>∃x n,xs=[x]/\J7 K x H n/\Q (.int n) H) .S dD:=λA H vs us z Q h mu e q=>by
 unfold dD at e;split at e
 ·rename_i xs;cases e;obtain⟨v,rfl,p⟩:=h.one;unfold Pk at p;obtain⟨a,ys,rfl,h1,l1,r1⟩:=p;exact⟨_,xs.length,rfl,.inl ⟨ys,fi.of h1,r1.length⟩,q _ H (aI.refl _) (show Rp K H A _ _ from cy)⟩
 ·rename_i xs;cases e;obtain⟨v,rfl,p⟩:=h.one;unfold Pk at p;obtain⟨a,ys,rfl,h1,l1,r1⟩:=p;exact⟨_,xs.length,rfl,.inr ⟨ys,gL.of h1,r1.length⟩,q _ H (aI.refl _) (show Rp K H A _ _ from cy)⟩
 ·rename_i xs;cases e;obtain⟨v,rfl,p⟩:=h.one;unfold Pk at p;obtain⟨a,ys,rfl,h1,l1,r1⟩:=p;exact⟨_,xs.length,rfl,.inl ⟨ys,h1.sq,r1.length⟩,q _ H (aI.refl _) (show Rp K H A _ _ from cy)⟩
 ·rename_i x;split at e
  ·rename_i hl;cases e;obtain⟨v,rfl,p⟩:=h.one;have:=p.str;subst this;exact⟨_,x.length,rfl,⟨hl,rfl⟩,q _ H (aI.refl _) (show Rp K H A _ _ from cy)⟩
  ·cases e
 ·cases e
noncomputable def vv:List U->R U:=λus=>match us with
 | [.lst xs]=>.ok (.lst xs)
 | [.tup xs]=>.ok (.lst xs)
 |_=>.stk
theorem BS:l4 K (λxs H Q=>∃p ys,xs=[.ref p]/\(fi K H p ys\/gL K H p ys)/\∀l,H l=none->Q (.ref l) (cE H l (.lst ys))) .O vv:=λA H vs us z Q h mu e q=>by
 unfold vv at e;split at e
 ·rename_i xs;cases e;obtain⟨v,rfl,p⟩:=h.one;unfold Pk at p;obtain⟨a,ys,rfl,h1,l1,r1⟩:=p;exact⟨a,ys,rfl,.inl (fi.of h1),λl hl=>q _ _ (ee hl _) ⟨l,rfl,hl,cL mu r1 hl l1⟩⟩
 ·rename_i xs;cases e;obtain⟨v,rfl,p⟩:=h.one;unfold Pk at p;obtain⟨a,ys,rfl,h1,l1,r1⟩:=p;exact⟨a,ys,rfl,.inr (gL.of h1),λl hl=>q _ _ (ee hl _) ⟨l,rfl,hl,cL mu r1 hl l1⟩⟩
 ·cases e
noncomputable def jq:List U->R U:=λus=>match us with
 | [.lst xs]=>.ok (.tup xs)
 | [.tup xs]=>.ok (.tup xs)
 |_=>.stk
theorem i7:l4 K (λxs H Q=>∃p ys,xs=[.ref p]/\((fi K H p ys/\∀l,H l=none->Q (.ref l) (cE H l (.tup ys)))\/(gL K H p ys/\Q (.ref p) H))) .S jq:=λA H vs us z Q h mu e q=>by
 unfold jq at e;split at e
 ·rename_i xs;cases e;obtain⟨v,rfl,p⟩:=h.one;unfold Pk at p;obtain⟨a,ys,rfl,h1,l1,r1⟩:=p;exact⟨a,ys,rfl,.inl ⟨fi.of h1,λl hl=>q _ _ (ee hl _) (sI r1 hl l1)⟩⟩
 ·rename_i xs;cases e;obtain⟨v,rfl,p⟩:=h.one;have p':=p;unfold Pk at p;obtain⟨a,ys,rfl,h1,l1,r1⟩:=p;refine⟨a,ys,rfl,.inr ⟨gL.of h1,q _ H (aI.refl _) (show Rp K H A _ _ from ?_)⟩⟩;unfold Rp;unfold Pk at p';exact p'
 ·cases e
noncomputable def OS:List U->R U:=λus=>match us with
 | [.int i]=>.ok (.int (if i<0 then -i else i))
 |_=>.stk
noncomputable def yq:List U->R U:=λus=>match us with
 | [.int i,.int j]=>.ok (.int (if j>i then j else i))
 |_=>.stk
theorem BU:l4 K (λxs H Q=>∃i j,xs=[.int i,.int j]/\Q (.int (if j>i then j else i)) H) .S yq:=λA H vs us z Q h mu e q=>by
 unfold yq at e;split at e
 ·cases e;obtain⟨v,w,rfl,p,p'⟩:=h.two;exact⟨_,_,by rw[p.int,p'.int],q _ H (aI.refl _) (show Rp K H A _ _ from cy)⟩
 ·cases e
noncomputable def yr:List U->R U:=λus=>match us with
 | [.int i,.int j]=>.ok (.int (if j<i then j else i))
 |_=>.stk
theorem BV:l4 K (λxs H Q=>∃i j,xs=[.int i,.int j]/\Q (.int (if j<i then j else i)) H) .S yr:=λA H vs us z Q h mu e q=>by
 unfold yr at e;split at e
 ·cases e;obtain⟨v,w,rfl,p,p'⟩:=h.two;exact⟨_,_,by rw[p.int,p'.int],q _ H (aI.refl _) (show Rp K H A _ _ from cy)⟩
 ·cases e
noncomputable def Ig:List U->R U:=λus=>match us with
 | [.int i]=>.ok (.int i)
 | [.bl k]=>.ok (.int (if k then 1 else 0))
 |_=>.stk
theorem ES:l4 K (λxs H Q=>(∃i,xs=[.int i]/\Q (.int i) H)\/∃k,xs=[.bl k]/\Q (.int (if k then 1 else 0)) H) .S Ig:=λA H vs us z Q h mu e q=>by
 unfold Ig at e;split at e
 ·cases e;obtain⟨v,rfl,p⟩:=h.one;exact .inl ⟨_,by rw[p.int],q _ H (aI.refl _) (show Rp K H A _ _ from cy)⟩
 ·cases e;obtain⟨v,rfl,p⟩:=h.one;exact .inr ⟨_,by rw[p.bl],q _ H (aI.refl _) (show Rp K H A _ _ from cy)⟩
 ·cases e
noncomputable def jK:List U->Option (List Int)
 | []=>some []
 | .int i::us=>(jK us).map (i::·)
 |_::_=>none
noncomputable def j6:List U->Option (List Bool)
 | []=>some []
 | .bl i::us=>(j6 us).map (i::·)
 |_::_=>none
theorem kJ:∀{us:List U} {ns:List Int},jK us=some ns->us=ns.map .int
 | [],ns,h=>by unfold jK at h;cases h;rfl
 |u::us,ns,h=>by
  cases u<;>unfold jK at h<;>try cases h
  rename_i i;cases e:jK us with
  |none=>rw[e] at h;cases h
  |some ms=>rw[e] at h;cases h;rw[kJ e];rfl
theorem vx:∀{us:List U} {ns:List Bool},j6 us=some ns->us=ns.map .bl
 | [],ns,h=>by unfold j6 at h;cases h;rfl
 |u::us,ns,h=>by
  cases u<;>unfold j6 at h<;>try cases h
  rename_i i;cases e:j6 us with
  |none=>rw[e] at h;cases h
  |some ms=>rw[e] at h;cases h;rw[vx e];rfl
theorem aR.toI {H:Hp}{A:QX->Prop}:∀{ns:List Int} {vs:List V},aR K H A (ns.map .int) vs->vs=ns.map V.int
 | [],vs,h=>by rw[Sh] at h;unfold aR at h;exact h
 |n::ns,vs,h=>by
  rw[Rb] at h;unfold aR at h;obtain⟨x,r,rfl,p,q⟩:=h;unfold Rp at p;rw[p,aR.toI q];rfl
theorem aR.toB {H:Hp}{A:QX->Prop}:∀{ns:List Bool} {vs:List V},aR K H A (ns.map .bl) vs->vs=ns.map V.bl
 | [],vs,h=>by rw[Sh] at h;unfold aR at h;exact h
 |n::ns,vs,h=>by
  rw[Rb] at h;unfold aR at h;obtain⟨x,r,rfl,p,q⟩:=h;unfold Rp at p;rw[p,aR.toB q];rfl
theorem mj {H:Hp}{A:QX->Prop}:∀(ns:List Int),aR K H A (ns.map .int) (ns.map V.int)
 | []=>aR.nil
 |n::ns=>aR.cons cy (mj ns)
noncomputable def zR:List U->R U:=λus=>match us with
 | [.lst xs]=>match j6 xs with
  |some bs=>.ok (.bl (bs.all id))
  |none=>.stk
 |_=>.stk
theorem ET:l4 K (λxs H Q=>∃(p:QX) (bs:List Bool),xs=[.ref p]/\fi K H p (bs.map V.bl)/\Q (.bl (bs.all id)) H) .S zR:=λA H vs us z Q h mu e q=>by
 unfold zR at e;split at e
 ·rename_i xs;split at e
  ·rename_i bs hb;cases e;obtain⟨v,rfl,p⟩:=h.one;unfold Pk at p;obtain⟨a,ys,rfl,h1,l1,r1⟩:=p;rw[vx hb] at r1;rw[r1.toB] at h1;exact⟨a,bs,rfl,fi.of h1,q _ H (aI.refl _) (show Rp K H A _ _ from gr)⟩
  ·cases e
 ·cases e
noncomputable def zS (x:Int):List Int->List Int
 | []=>[x]
 |y::r=>if y<x then y::zS x r else x::y::r
noncomputable def jL (ns:List Int):List Int:=ns.foldr zS []
theorem nG (x:Int):∀l,(zS x l).Perm (x::l)
 | []=>.refl _
 |y::r=>by
  unfold zS;split
  ·exact ((nG x r).cons y).trans (.swap x y r)
  ·exact .refl _
theorem eP:∀ns:List Int,(jL ns).Perm ns
 | []=>.refl _
 |x::l=>(nG x _).trans ((eP l).cons x)
theorem yt (x:Int):∀{l:List Int},l.Pairwise (·<=·)->(zS x l).Pairwise (·<=·)
 | [],_=>List.pairwise_singleton _ _
 |y::r,h=>by
  obtain⟨h1,h2⟩:=Ub.mp h;unfold zS;split
  ·refine Ub.mpr ⟨λz hz=>?_,yt x h2⟩;rcases QN.mp ((nG x r).mem_iff.mp hz) with rfl|hz
   ·lia
   ·exact h1 z hz
  ·refine Ub.mpr ⟨λz hz=>?_,h⟩;rcases QN.mp hz with rfl|hz
   ·lia
   ·have:=h1 z hz;lia
theorem qq:∀ns:List Int,(jL ns).Pairwise (·<=·)
 | []=>List.Pairwise.nil
 |x::l=>yt x (qq l)
noncomputable def j7:List U->R U:=λus=>match us with
 | [.lst xs]=>match jK xs with
  |some ns=>if ns.length<64 then .ok (.lst ((jL ns).map .int)) else .stk
  |none=>.stk
 | [.tup xs]=>match jK xs with
  |some ns=>if ns.length<64 then .ok (.lst ((jL ns).map .int)) else .stk
  |none=>.stk
 |_=>.stk
theorem nH:l4 K (λxs H Q=>∃(p:QX) (ns:List Int),xs=[.ref p]/\(fi K H p (ns.map V.int)\/gL K H p (ns.map V.int))/\ns.length<64/\
  ∀(l:QX) (wJ:List Int),H l=none->wJ.Perm ns->wJ.Pairwise (·<=·)->Q (.ref l) (cE H l (.lst (wJ.map V.int)))) .O j7:=λA H vs us z Q h mu e q=>by
 have ko:∀(ns:List Int),ns.length<64->z=.lst ((jL ns).map .int)->∀(l:QX) (wJ:List Int),H l=none->wJ.Perm ns->wJ.Pairwise (·<=·)->Q (.ref l) (cE H l (.lst (wJ.map V.int))):=λns hl hz l wJ hn hp hw=>by
  have e:wJ=jL ns:=PySem.W.ksm_same (hp.trans (eP ns).symm) hw (qq ns);subst e hz;refine q _ _ (ee hn _) ⟨l,rfl,hn,cL mu (mj _) hn ?_⟩;have:QC=16777216:=rfl;rw[QI,(eP ns).length_eq];lia
 unfold j7 at e;split at e
 ·rename_i xs;split at e
  ·rename_i ns hb;split at e
   ·rename_i hl;cases e;obtain⟨v,rfl,p⟩:=h.one;unfold Pk at p;obtain⟨a,ys,rfl,h1,l1,r1⟩:=p;rw[kJ hb] at r1;rw[r1.toI] at h1;exact⟨a,ns,rfl,.inl (fi.of h1),hl,ko ns hl rfl⟩
   ·cases e
  ·cases e
 ·rename_i xs;split at e
  ·rename_i ns hb;split at e
   ·rename_i hl;cases e;obtain⟨v,rfl,p⟩:=h.one;unfold Pk at p;obtain⟨a,ys,rfl,h1,l1,r1⟩:=p;rw[kJ hb] at r1;rw[r1.toI] at h1;exact⟨a,ns,rfl,.inr (gL.of h1),hl,ko ns hl rfl⟩
   ·cases e
  ·cases e
 ·cases e
noncomputable def MZ (ks:List U):String:=match ks with
 | .tup _::_=>"script"
 |_=>"dict"
noncomputable def JE:U->String
 | .non=>"NoneType"
 | .bl _=>"bool"
 | .int _=>"int"
 | .str _=>"str"
 | .tup _=>"tuple"
 | .lst _=>"list"
 | .dct ks _=>MZ ks
 | .scr _=>"script"
theorem Kz {u:U}(h:Pk K H A u v)(hs:JE u≠"script"):wG K H v (JE u):=by
 cases u<;>unfold Pk at h
 case scr=>exact absurd rfl hs
 case non=>subst h;exact .non
 case bl=>subst h;exact .bl _
 case int=>subst h;exact .int _
 case str=>subst h;exact .str _
 case tup=>obtain⟨a,xs,rfl,h1,_⟩:=h;exact .tup h1
 case lst=>
  obtain⟨a,xs,rfl,h1,_⟩:=h;exact .lst h1
 case dct=>
  obtain⟨a,xs,rfl,h1,_⟩:=h;rcases h1 with⟨k,h1,e,_⟩|⟨k,n,h1,e,_⟩
  ·have:MZ (k.map λp=>kU p.1)="dict":=by
    cases k with
    |nil=>rfl
    |cons p k=>
     obtain⟨p1,p2⟩:=p;cases p1<;>rfl
   show wG K H _ (MZ _);rw[e,this];exact .dK h1
  ·refine absurd e λe=>?_;cases k with
   |nil=>exact n rfl
   |cons p k=>rw[e] at hs;exact hs rfl
variable {e:RP}{p1 p2:Pos}{b1:Bool}{m1:Md}{g1:Ev->R (U×Ev)}
noncomputable def gw (T:String)(g:Ev->R (U×Ev)):Ev->R (U×Ev):=λρ=>(g ρ).bind λx=>if JE x.1="script" then .stk else .ok (.bl (iD (JE x.1) T),x.2)
theorem d6 (hT:T∈["bool","int","str","list","tuple","dict"])(he:DE X G e b1 m1 g1)(zi:X.mg "isinstance"=none)(zt:X.mg x=none)(bt:Ra x=some (.type T))(hg:Gl X "isinstance":=by rfl)(ht:Gl X x:=by rfl)(hn:x≠"__name__":=by decide)(hd:(x==("__debug__":Str))=false:=by decide)(hs:QK [e,.Name x p2] X.env=(false,Sv e X.env)::QK [.Name x p2] X.env:=by rfl)(cv:QK [.Name x p2] X.env=(false,Sv (.Name x p2) X.env)::QK [] X.env:=by rfl)(mU:(Sd pos (QK [.Name x p2] X.env)).any (·.1)=false:=by rfl) :
  DE X G (.Call (.Name "isinstance" p1) [e,.Name x p2] [] pos) b1 .S (gw T g1):=⟨(lW (vc (m:=T) hT) hg zi iT (aO he.un (aO (xW (v:=.ty T) ht zt bt rfl hn hd) c9 cv) hs) (by decide) (by decide) hs mU).to λσ H Q h=>by
 obtain⟨Z,A,ρ,q,f⟩:=h;obtain⟨⟨u,ρ1⟩,e1,f⟩:=f.bind;refine⟨Z,A,ρ,q,?_⟩;rw[e1];intro v H1 q1 x1 s1 vm;dsimp only at f;split at f
 ·exact f.elim
 ·rename_i hn;exact⟨v,_,rfl,Kz vm.pk hn,f _ H1 q1 x1 s1 (sG.ofS gr)⟩⟩
noncomputable def xn (i j:Int):Bool:=decide (-1000000<=i)&&decide (i<=1000000)&&decide (-1000000<=j)&&decide (j<=1000000)
noncomputable def oj (g:Ev->R (List U×Ev)):Ev->R (U×Ev):=λρ=>(g ρ).bind λx=>match x.1 with
 | [.int j]=>if xn 0 j=true then .ok (.lst (b6 0 (j-0).toNat),x.2) else .stk
 |_=>.stk
noncomputable def KA (g:Ev->R (List U×Ev)):Ev->R (U×Ev):=λρ=>(g ρ).bind λx=>match x.1 with
 | [.int j]=>if xn 0 j=true then .ok (.tup (b6 0 (j-0).toNat),x.2) else .stk
 |_=>.stk
theorem zT (lo:Int)(n:Nat):aR K H A (b6 lo n) ((RL n).map λi=>V.int (lo+(i:Nat))):=by
 unfold b6;have e1:(RL n).map (λi=>U.int (lo+(i:Nat)))=((RL n).map λi=>lo+(i:Nat)).map U.int:=by rw[Uc];rfl
 have e2:(RL n).map (λi=>V.int (lo+(i:Nat)))=((RL n).map λi=>lo+(i:Nat)).map V.int:=by rw[Uc];rfl
 rw[e1,e2];exact mj _
theorem fQ (lo:Int)(n:Nat):(b6 lo n).length=n:=by unfold b6;rw[QI,SQ]
variable {ga:Ev->R (List U×Ev)}{a:RP}{p3 p4:Pos}
theorem ml (hc:X.calm=true)(ha:DA X G [a] b1 false ga)(zl:X.mg "list"=none)(zr:X.mg "range"=none)(hg:Gl X "list":=by rfl)(Pf:Gl X "range":=by rfl)
  (hs:QK [.Call (.Name "range" p3) [a] [] p4] X.env=(false,Sv (.Call (.Name "range" p3) [a] [] p4) X.env)::QK [] X.env:=by rfl) (cv:QK [a] X.env=(false,Sv a X.env)::QK [] X.env:=by rfl)
  (mU:(Sd pos (QK [] X.env)).any (·.1)=false:=by rfl) (NF:(Sd p4 (QK [] X.env)).any (·.1)=false:=by rfl):DE X G (.Call (.Name "list" p1) [.Call (.Name "range" p3) [a] [] p4] [] pos) b1 .O (oj ga):=⟨(ng (rP hc) hg zl yc (aO (ng vd Pf zr Bw ha.un (by decide) (by decide) cv NF) c9 hs) (by decide) (by decide) hs mU).to λσ H Q h=>by
 obtain⟨Z,A,ρ,q,f⟩:=h;obtain⟨⟨us,ρ1⟩,e1,f⟩:=f.bind;refine⟨Z,A,ρ,q,?_⟩;rw[e1];intro vs H1 q1 x1 s1 vm;dsimp only at f;split at f
 ·rename_i j;split at f
  ·rename_i hj;have r:=vm.rps;unfold aR at r;obtain⟨v,vr,rfl,r1,r2⟩:=r;unfold aR at r2;subst r2;unfold Rp at r1;subst r1;unfold xn at hj;simp only[QU,decide_eq_true_eq] at hj;refine⟨j,rfl,λp hp=>⟨p,0,j,rfl,aT,(by lia),(by lia),λl hl=>?_⟩⟩;have sp:=ee hp (.rng 0 j);have sl:=ee hl (.lst ((RL (j-0).toNat).map λi=>V.int (0+(i:Nat))));exact f _ _ ((q1.same sp).same sl) (x1.trans (eD.same (sp.trans sl))) (lZ s1 (sp.trans sl)) (zJ.e (q1.same sp) sl ⟨l,rfl,hl,cL (q1.same sp).mu (zT 0 _) hl (by rw[fQ];have:QC=16777216:=rfl;lia)⟩)
  ·exact f.elim
 ·exact f.elim⟩
noncomputable def kK:U->List U->R (U×U):=λu us=>match u,us with
 | .lst xs,[y]=>if xs.length<QC then .ok (.non,.lst (xs++[y])) else .stk
 |_,_=>.stk
theorem nI {a:QX}(o:HO):∀b u,b≠a->H b=some u->cE H a o b=some u:=λb u nb z=>by rw[aL nb];exact z
theorem pG {a:QX}(mu:∀a,A a->Mu (H a))(ha:A a)(r:aR K H A us xs)(l:us.length<=QC):kW K (cE H a (.lst xs)) A (.lst us) a:=
 ⟨xs,aT,l,r.re mu (λb o nb z=>nI _ b o (λy=>nb (y▸ha)) z) λb z=>.inl z⟩
theorem qr:BH K "list" yb kK:=λA H a u vs us z w Q t ha r mu e q=>by
 unfold kK at e;split at e
 ·rename_i xs y;split at e
  ·rename_i hl;cases e;obtain⟨ys,h1,l1,r1⟩:=t;unfold aR at r;obtain⟨v,vr,rfl,p,r2⟩:=r;unfold aR at r2;subst r2;exact⟨a,ys,v,rfl,rfl,h1,by rw[←r1.length];exact hl,q _ _ (nI _) (pG mu ha (r1.append (aR.cons p aR.nil)) (by rw[QE];exact hl)) qd⟩
  ·cases e
 ·cases e
def vy:V->List V->Hp->VK->Prop:=λx vs H Q=>∃l b xs zs,x=.ref l/\vs=[.ref b]/\H l=some (.lst xs)/\H b=some (.lst zs)/\xs.length+zs.length<=QC/\Q .non (cE H l (.lst (xs++zs)))
theorem xo:AJ X "list.extend" vy:=by
 intro pins s σ H x vs v us Q I rx rv h;obtain⟨l,b,xs,zs,rfl,rfl,hH,hB,hz,q⟩:=h;cases rx;obtain⟨u,rfl,ru⟩:=rv.one;cases ru;obtain⟨z,ay,n,r,hl,e⟩:=I.lstM hH;obtain⟨z2,its2,n2,r2,Jm,e2⟩:=I.lstM hB;have G0:ay.toArray.size+its2.toArray.size<=QC:=by rw[QD,QD];lia
 have wB:¬(!ay.toArray.isEmpty&&RS (ay.toArray.size+its2.toArray.size))=true:=by
  rw[p6 G0,Uh];exact QA
 refine TL T_ ⟨_,e,rfl⟩ TU (TC _ _)
  (PySem.AutoSeq1.list_extend_list_list_0 l ay.toArray n b its2.toArray n2 wB (by rw[QD];lia) (by lia)) ⟨e,e2,?_⟩
 refine⟨.non,_,I.lset (its':=ay++its2) hH e (by simp) (r.append r2) ?_,rfl,q⟩;rw[QE];lia
def FJ:V->List V->Hp->VK->Prop:=λx vs H Q=>vy x vs H Q\/vf x vs H Q
theorem uc:AJ X "list.extend" FJ:=xo.or w6
noncomputable def iK:U->List U->R (U×U):=λu us=>match u,us with
 | .lst xs,[.lst ys]=>if xs.length+ys.length<=QC then .ok (.non,.lst (xs++ys)) else .stk
 | .lst xs,[.tup ys]=>if xs.length+ys.length<=QC then .ok (.non,.lst (xs++ys)) else .stk
 |_,_=>.stk
theorem lD:BH K "list" FJ iK:=λA H a u vs us z w Q t ha r mu e q=>by
 unfold iK at e;split at e
 ·rename_i xs ys;split at e
  ·rename_i hl;cases e;obtain⟨zs,h1,l1,r1⟩:=t;unfold aR at r;obtain⟨v,vr,rfl,p,r2⟩:=r;unfold aR at r2;subst r2;unfold Rp at p;obtain⟨b,ws,rfl,nb,h2,l2,r3⟩:=p;exact .inl ⟨a,b,zs,ws,rfl,rfl,h1,h2,by rw[←r1.length,←r3.length];exact hl,q _ _ (nI _) (pG mu ha (r1.append r3) (by rw[QE];exact hl)) qd⟩
  ·cases e
 ·rename_i xs ys;split at e
  ·rename_i hl;cases e;obtain⟨zs,h1,l1,r1⟩:=t;unfold aR at r;obtain⟨v,vr,rfl,p,r2⟩:=r;unfold aR at r2;subst r2;unfold Rp at p;obtain⟨b,ws,rfl,h2,l2,r3⟩:=p;exact .inr ⟨a,b,zs,ws,rfl,rfl,h1,h2,by rw[←r1.length,←r3.length];exact hl,q _ _ (nI _) (pG mu ha (r1.append r3) (by rw[QE];exact hl)) qd⟩
  ·cases e
 ·cases e
noncomputable def nJ:U->List U->R (U×U):=λu us=>match u,us with
 | .lst xs,[.int i]=>if -9223372036854775808<=i/\i<9223372036854775808 then (match Uo i xs.length with
  |some k=>match xs[k]? with
   |some y=>.ok (y,.lst (xs.eraseIdx k))
   |none=>.stk
  |none=>.stk) else .stk
 |_,_=>.stk
theorem aR.erase {H:Hp}{A:QX->Prop}:∀{us:List U} {vs:List V} (n:Nat),aR K H A us vs->aR K H A (us.eraseIdx n) (vs.eraseIdx n)
 | [],vs,n,h=>by unfold aR at h;subst h;exact aR.nil
 |u::us,vs,0,h=>by
  unfold aR at h;obtain⟨x,r,rfl,p,q⟩:=h;exact q
 |u::us,vs,n+1,h=>by
  unfold aR at h;obtain⟨x,r,rfl,p,q⟩:=h;exact aR.cons p (aR.erase n q)
theorem zU:BH K "list" Bi nJ:=λA H a u vs us z w Q t ha r mu e q=>by
 unfold nJ at e;split at e
 ·rename_i xs i;split at e
  ·rename_i hi;split at e
   ·rename_i k hk;split at e
    ·rename_i y hy;cases e;obtain⟨zs,h1,l1,r1⟩:=t;unfold aR at r;obtain⟨v,vr,rfl,p,r2⟩:=r;unfold aR at r2;subst r2;unfold Rp at p;subst p;obtain⟨v,h2,h3⟩:=r1.get hy;exact⟨a,zs,i,k,v,rfl,rfl,h1,by have:=hi.1;lia,by have:=hi.2;lia,by rw[←r1.length];exact hk,h2,q _ _ (nI _) (pG mu ha (r1.erase k) (Rn (List.length_eraseIdx_le _ _) l1)) (h3.re mu (λb o nb z=>nI _ b o (λy=>nb (y▸ha)) z) λb z=>.inl z)⟩
    ·cases e
   ·cases e
  ·cases e
 ·cases e
end
end L2
namespace L2
section
variable {m:Md}
theorem ud:fg K (wM λi j=>.bl (decide (i<j))) .S JD:=yo
theorem fit_le:fg K (wM λi j=>.bl (decide (i<=j))) .S Kx:=yo
theorem qt:fg K (wM λi j=>.bl (decide (j<i))) .S D3:=yo
theorem Ih:fg K (wM λi j=>.bl (decide (j<=i))) .S MX:=yo
theorem eM {Ja:List Si}:vi X G m Ja (λ_=>.stk):=⟨λpins s σ H D I h=>by
 obtain⟨Z,A,ρ,q,f⟩:=h;exact f.elim⟩
noncomputable def OT:Ev->R (U×Ev):=λρ=>.ok (.dct [] [],ρ)
end
end L2
namespace L2
@[irreducible] noncomputable def Ii (X:Cx)(G:Gm)(es:List RP)(b p:Bool)(g:Ev->R (List U×Ev)):Prop:=DA X G es b p g
section
variable {e:RP}{b1 b2 p:Bool}{m1:Md}{g1:Ev->R (U×Ev)}{ga:Ev->R (List U×Ev)}
theorem D4 (h:Ii X G es b1 p ga):DA X G es b1 p ga:=by unfold Ii at h;exact h
theorem gf:Ii X G [] false p ak:=by unfold Ii;exact af
theorem ax (ha:DE X G e b1 m1 g1)(hr:Ii X G es b2 p ga)(hm:m1=.P->(p=true/\b2=false):=by first|exact λ_=>⟨rfl,rfl⟩|exact λh=>nomatch h)
  (hs:QK (e::es) X.env=(false,Sv e X.env)::QK es X.env:=by rfl):Ii X G (e::es) (b1||b2) p (ae g1 ga):=by
 unfold Ii at hr ⊢;exact aa ha hr hm hs
end
end L2
namespace Hc.Zp
def iH (l:Bool)(h:S2)(a:QX)(xs:Array QG):Prop:=if l=true then h.IsList a xs else h.IsTuple a xs
def fR (l:Bool)(h:S2)(it a:QX)(i:Nat):Prop:=if l=true then h.IsListIter it a i else h.IsTupleIter it a i
noncomputable def zV (l:Bool):String:=if l=true then "list_iterator" else "tuple_iterator"
theorem iH.at {xs:Array QG}(x:iH l h a xs)(e:∀o,h.get? a=some o->h'.get? a=some o):iH l h' a xs:=by
 cases l with
 |true=>exact Heap.IsList.at x e
 |false=>exact Heap.IsTuple.at x e
theorem fR.at (x:fR l h it a i)(e:∀o,h.get? it=some o->h'.get? it=some o):fR l h' it a i:=by
 cases l with
 |true=>exact Heap.IsListIter.at x e
 |false=>exact Heap.IsTupleIter.at x e
theorem fR.obj (x:fR l h it a i):∃o,h.get? it=some o/\o.data=.fields (List.toArray [.ref a,.int i 0])/\o.cls=.type (zV l):=by
 cases l with
 |true=>obtain⟨o,e,c,d⟩:=x;exact⟨o,e,d,c⟩
 |false=>obtain⟨o,e,c,d⟩:=x;exact⟨o,e,d,c⟩
section
variable {prog:RF}{w:Rx}{A:Rk}
theorem xp {xs:Array QG}{x:QG}(hi:s.heap.IsTupleIter it a i)(ha:s.heap.IsTuple a xs)(hx:xs[i]? = some x)(q:∀h',h'.IsTupleIter it a (i+1)->T7 it s.heap h'->Q x {s with heap:=h'}):Q2 (Q7 prog w) A (Q9 (.ref it)) Q E s:=by
 obtain⟨o,ho,hc,hd⟩:=id hi;obtain⟨oa,hoa,_,na,hda⟩:=ha;unfold Q9;refine Qz (RI (name:=QM "__next__") hi.typeIs RZ (R1 RZ hi.typeIs TX ?_ (TJ _)));show Q2 _ _ (field (Value.ref it) 0 >>= _) _ _ s;refine Qz (RH ho hd (x:=.ref a) rfl ?_);show Q2 _ _ (if (Value.ref a==Value.none)=true then _ else _) _ _ s;rw[hU (show ¬((Value.ref a==Value.none)=true) from QA)];show Q2 _ _ (field (Value.ref it) 1 >>= _) _ _ s;refine Qz (RH ho hd (x:=.int i 0) rfl ?_);show Q2 _ _ (seqItems? (Value.ref a) >>= _) _ _ s;refine Qz (R_ hoa hda ?_);simp only[Sf,hx];refine Qz (wpAny_setField ho hd (by simp) (QR ⟨x,rfl,QR (q _ ⟨_,Heap.get?_update_self _ ho (Obj.isFreed_of_fields (Obj.data_mapFields hd _)),(Obj.cls_mapFields ..).trans hc,?_⟩ (Heap.SameBut.update ..))⟩));rw[Obj.data_mapFields hd];simp[rawInt]
theorem zW {xs:Array QG}(hh:A.handled=none)(hi:s.heap.IsTupleIter it a i)(ha:s.heap.IsTuple a xs)(hx:xs[i]? = none)(q:∀h' e,Heap.ExtBut it s.heap h'->(∃o,h'.get? e=some o/\o.cls=.type "StopIteration")->E (.ref e) {s with heap:=h'}):Q2 (Q7 prog w) A (Q9 (.ref it)) Q E s:=by
 obtain⟨o,ho,hc,hd⟩:=id hi;obtain⟨oa,hoa,_,na,hda⟩:=ha;unfold Q9;refine Qz (RI (name:=QM "__next__") hi.typeIs RZ (R1 RZ hi.typeIs TX ?_ (TJ _)));show Q2 _ _ (field (Value.ref it) 0 >>= _) _ _ s;refine Qz (RH ho hd (x:=.ref a) rfl ?_);show Q2 _ _ (if (Value.ref a==Value.none)=true then _ else _) _ _ s;rw[hU (show ¬((Value.ref a==Value.none)=true) from QA)];show Q2 _ _ (field (Value.ref it) 1 >>= _) _ _ s;refine Qz (RH ho hd (x:=.int i 0) rfl ?_);show Q2 _ _ (seqItems? (Value.ref a) >>= _) _ _ s;refine Qz (R_ hoa hda ?_);simp only[Sf,hx];refine Qz (wpAny_rule (Qz (wpAny_setField ho hd (by simp) ?_)));show Q2 _ _ (newExc (Value.type "StopIteration") [] >>= _) _ _ _;refine Qz ?_;simp only[newExc,newTuple];refine Qz (RU ?_ (by size_fits));refine Qz (m:=firstArgMember _ _) (wpAny_of_eq (a:=Value.none) (by first|rfl|(simp only[firstArgMember];rfl)) ?_);refine RU ?_ (by size_fits);simp only[raiseNew];refine Qz (wpAny_handled ?_)
 first|rw[show A.in1.handled=none from hh]|rw[hh]
 exact Qz (QR (wpAny_throw (q _ _ (((Heap.SameBut.update ..).extBut.push _).push _) ⟨_,QS _ rfl,rfl⟩)))
theorem nK {xs:Array QG}{x:QG}(hi:fR l s.heap it a i)(ha:iH l s.heap a xs)(hx:xs[i]? = some x)(q:∀h',fR l h' it a (i+1)->T7 it s.heap h'->Q x {s with heap:=h'}):Q2 (Q7 prog w) A (Q9 (.ref it)) Q E s:=by
 cases l with
 |true=>exact wpAny_nextOf_list_item hi ha hx q
 |false=>exact xp hi ha hx q
theorem vz {xs:Array QG}(hh:A.handled=none)(hi:fR l s.heap it a i)(ha:iH l s.heap a xs)(hx:xs[i]? = none)(q:∀h' e,Heap.ExtBut it s.heap h'->(∃o,h'.get? e=some o/\o.cls=.type "StopIteration")->E (.ref e) {s with heap:=h'}):Q2 (Q7 prog w) A (Q9 (.ref it)) Q E s:=by
 cases l with
 |true=>exact wpAny_nextOf_list_end hh hi ha hx q
 |false=>exact zW hh hi ha hx q
theorem yu {xs:Array QG}(ha:iH l s.heap a xs)(q:Q (.ref s.heap.objs.size) {s with heap:=s.heap.push {cls:=.type (zV l),data:=.fields (List.toArray [.ref a,.int 0 0])}}):Q2 (Q7 prog w) A (pyIter (.ref a)) Q E s:=by
 cases l with
 |true=>exact Uj ha q
 |false=>exact wpAny_pyIter_tuple ha q
theorem zX {TI TO:QX}{xs:Array QG}{x y p:QG}(D:ZipApart z TI TO i1 i2 a1 a2)(hz:IsZip s.heap z TI TO .none)(Jp:SU s.heap TI (.ref i1) (.ref i2))(Jq:SU s.heap TO p q)(h1:fR l1 s.heap i1 a1 k)(h2:fR l2 s.heap i2 a2 k)(g1:iH l1 s.heap a1 xs)(g2:iH l2 s.heap a2 ys)(hx:xs[k]? = some x)(hy:ys[k]? = some y)(hQ:∀h',IsZip h' z TI TO (rawInt s.heap.objs.size)->SU h' TO x y->fR l1 h' i1 a1 (k+1)->fR l2 h' i2 a2 (k+1)->SU h' s.heap.objs.size x y->(∀c o,c≠z->c≠TO->c≠i1->c≠i2->s.heap.get? c=some o->h'.get? c=some o)->Q (.ref s.heap.objs.size) {s with heap:=h'}) :
  Q2 (Q7 prog w) A (Builtin.«zip.__next__» ⟨[.ref z],[]⟩) (λko s'=>∃v,ko=.done (.ret v)/\Q v s') E s:=by
 show Q2 _ _ (field (Value.ref z) 2 >>= _) _ _ _;refine Qz (RH hz rfl (x:=.bool false) rfl ?_);show Q2 _ _ (field (Value.ref z) 3 >>= _) _ _ _;refine Qz (RH hz rfl (x:=.ref TI) rfl (Qz (R_ Jp rfl ?_)));show Q2 _ _ (RC (Value.ref z) >>= _) _ _ _;refine Qz ?_;unfold RC;refine Qz (RH hz rfl (x:=.none) rfl (QR ?_));simp only[if_true];refine Qz (wpAny_rule (Qz (RH hz rfl (x:=.ref TO) rfl (Qz (R4 hz (by simp) λw1 z1 b1=>?_)))))
 replace z1:IsZip w1 z TI TO .ellipsis:=z1
 refine Qz ?_;simp only[List.zipIdx_cons,List.zipIdx_nil,TV,List.forIn_nil];refine Qz (Qz (wpAny_onRaise ?_));show Q2 _ _ (Q9 (Value.ref i1) >>= _) _ _ _;refine Qz (nK (h1.at λo e=>b1.extBut _ _ D.i1z e) (g1.at λo e=>b1.extBut _ _ D.l1z e) hx λw2 n2 b2=>QR ?_);have t2:SU w2 TO p q:=b2.extBut _ _ D.TOi1 (b1.extBut _ _ D.TOz Jq);refine Qz (R_ t2 rfl (Qz (TF t2 λw3 t3 b3=>?_)))
 replace t3:SU w3 TO x q:=t3
 refine Qz (wpAny_letGo (QR ?_));refine Qz (Qz (wpAny_onRaise ?_));show Q2 _ _ (Q9 (Value.ref i2) >>= _) _ _ _;refine Qz (nK (h2.at λo e=>b3.extBut _ _ D.TOi2.symm (b2.extBut _ _ D.i12.symm (b1.extBut _ _ D.i2z e))) (g2.at λo e=>b3.extBut _ _ D.l2TO (b2.extBut _ _ D.l2i1 (b1.extBut _ _ D.l2z e))) hy λw4 n4 b4=>QR ?_);have t4:SU w4 TO x q:=b4.extBut _ _ D.TOi2 t3;refine Qz (R_ t4 rfl (Qz (TF t4 λw5 t5 b5=>?_)))
 replace t5:SU w5 TO x y:=t5
 refine Qz (wpAny_letGo (QR (QR ?_)));refine Qz (R_ t5 rfl (Qz (wpAny_newTuple ?_)));have sz:w5.objs.size=s.heap.objs.size:=by rw[b5.1,b4.1,b3.1,b2.1,b1.1]
 have z5:IsZip w5 z TI TO .ellipsis:=b5.extBut _ _ D.TOz.symm (b4.extBut _ _ D.i2z.symm (b3.extBut _ _ D.TOz.symm (b2.extBut _ _ D.i1z.symm z1)));have kp:∀c o,c≠z->c≠TO->c≠i1->c≠i2->s.heap.get? c=some o->w5.get? c=some o:=λc o c1 c2 c3 c4 e=>b5.extBut _ _ c2 (b4.extBut _ _ c4 (b3.extBut _ _ c2 (b2.extBut _ _ c3 (b1.extBut _ _ c1 e))));have n5:fR l1 w5 i1 a1 (k+1):=n2.at λo e=>b5.extBut _ _ D.TOi1.symm (b4.extBut _ _ D.i12 (b3.extBut _ _ D.TOi1.symm e));have m5:fR l2 w5 i2 a2 (k+1):=n4.at λo e=>b5.extBut _ _ D.TOi2.symm e;have lz:z<w5.objs.size:=QO z5;show Q2 _ _ (SX (Value.ref z) (Value.ref w5.objs.size) >>= _) _ _ _;refine Qz ?_;unfold SX;have z6:IsZip (w5.push {cls:=.type "tuple",data:=.seq (List.toArray [x,y])}) z TI TO .ellipsis:=QF _ z5;refine Qz (R4 z6 (by simp) λw7 z7 b7=>?_)
 replace z7:IsZip w7 z TI TO (rawInt w5.objs.size):=z7
 refine R4 z7 (by simp) λw8 z8 b8=>?_
 replace z8:IsZip w8 z TI TO (rawInt w5.objs.size):=z8
 have up:∀c o,c≠z->w5.get? c=some o->w8.get? c=some o:=λc o c1 e=>b8.extBut _ _ c1 (b7.extBut _ _ c1 (QF _ e));have t8:SU w8 w5.objs.size x y:=b8.extBut _ _ (Nat.ne_of_gt lz) (b7.extBut _ _ (Nat.ne_of_gt lz) (QS _ rfl));rw[sz] at z8 t8;refine QR ⟨_,rfl,?_⟩;show Q (.ref w5.objs.size) _;rw[sz];exact hQ w8 z8 (up _ _ D.TOz t5) (n5.at λo e=>up _ o D.i1z e) (m5.at λo e=>up _ o D.i2z e) t8 λc o c1 c2 c3 c4 e=>up c o c1 (kp c o c1 c2 c3 c4 e)
theorem BW {TI TO:QX}{xs:Array QG}{p:QG}{Q:Fin->QP->Prop}(hh:A.handled=none)(D:ZipApart z TI TO i1 i2 a1 a2)(hz:IsZip s.heap z TI TO .none)(Jp:SU s.heap TI (.ref i1) (.ref i2))(Jq:SU s.heap TO p q)(h1:fR l1 s.heap i1 a1 k)(h2:fR l2 s.heap i2 a2 k)(g1:iH l1 s.heap a1 xs)(g2:iH l2 s.heap a2 ys)(Jr:xs[k]? = none\/ys[k]? = none)(hE:∀h' e,(∀c o,c≠z->c≠TO->c≠i1->c≠i2->s.heap.get? c=some o->h'.get? c=some o)->(∃o,h'.get? e=some o/\o.cls=.type "StopIteration")->E (.ref e) {s with heap:=h'}) :
  Q2 (Q7 prog w) A (Builtin.«zip.__next__» ⟨[.ref z],[]⟩) Q E s:=by
 show Q2 _ _ (field (Value.ref z) 2 >>= _) _ _ _;refine Qz (RH hz rfl (x:=.bool false) rfl ?_);show Q2 _ _ (field (Value.ref z) 3 >>= _) _ _ _;refine Qz (RH hz rfl (x:=.ref TI) rfl (Qz (R_ Jp rfl ?_)));show Q2 _ _ (RC (Value.ref z) >>= _) _ _ _;refine Qz ?_;unfold RC;refine Qz (RH hz rfl (x:=.none) rfl (QR ?_));simp only[if_true];refine Qz (wpAny_rule (Qz (RH hz rfl (x:=.ref TO) rfl (Qz (R4 hz (by simp) λw1 z1 b1=>?_)))))
 replace z1:IsZip w1 z TI TO .ellipsis:=z1
 refine Qz ?_;simp only[List.zipIdx_cons,List.zipIdx_nil,TV,List.forIn_nil];refine Qz (Qz (wpAny_onRaise ?_));show Q2 _ _ (Q9 (Value.ref i1) >>= _) _ _ _;cases hx:xs[k]? with
 |none=>
  refine Qz (vz hh (h1.at λo e=>b1.extBut _ _ D.i1z e) (g1.at λo e=>b1.extBut _ _ D.l1z e) hx λw2 e b2 he=>?_);obtain⟨oe,hoe,hce⟩:=he;have z2:IsZip w2 z TI TO .ellipsis:=b2 _ _ D.i1z.symm z1;have nz:e≠z:=λx=>by subst x;rw[z2] at hoe;cases hoe;simp at hce
  exact R4 z2 (by simp) λw3 _ b3=>hE w3 e (λc o c1 _ c3 _ x=>b3.extBut _ _ c1 (b2 _ _ c3 (b1.extBut _ _ c1 x))) ⟨oe,b3.extBut _ _ nz hoe,hce⟩
 |some x=>
  have hy:ys[k]? = none:=by rcases Jr with h|h;rw[hx] at h;cases h;exact h
  refine Qz (nK (h1.at λo e=>b1.extBut _ _ D.i1z e) (g1.at λo e=>b1.extBut _ _ D.l1z e) hx λw2 n2 b2=>QR ?_);have t2:SU w2 TO p q:=b2.extBut _ _ D.TOi1 (b1.extBut _ _ D.TOz Jq);refine Qz (R_ t2 rfl (Qz (TF t2 λw3 t3 b3=>?_)));refine Qz (wpAny_letGo (QR ?_));refine Qz (Qz (wpAny_onRaise ?_));show Q2 _ _ (Q9 (Value.ref i2) >>= _) _ _ _;refine Qz (vz hh (h2.at λo e=>b3.extBut _ _ D.TOi2.symm (b2.extBut _ _ D.i12.symm (b1.extBut _ _ D.i2z e))) (g2.at λo e=>b3.extBut _ _ D.l2TO (b2.extBut _ _ D.l2i1 (b1.extBut _ _ D.l2z e))) hy λw4 e b4 he=>?_);obtain⟨oe,hoe,hce⟩:=he;have z4:IsZip w4 z TI TO .ellipsis:=b4 _ _ D.i2z.symm (b3.extBut _ _ D.TOz.symm (b2.extBut _ _ D.i1z.symm z1));have nz:e≠z:=λx=>by subst x;rw[z4] at hoe;cases hoe;simp at hce
  exact R4 z4 (by simp) λw5 _ b5=>hE w5 e (λc o c1 c2 c3 c4 x=>b5.extBut _ _ c1 (b4 _ _ c4 (b3.extBut _ _ c2 (b2.extBut _ _ c3 (b1.extBut _ _ c1 x))))) ⟨oe,b5.extBut _ _ nz hoe,hce⟩
theorem zY {TI TO:QX}{xs:Array QG}{x y p:QG}{Q:Option QG->QP->Prop}(D:ZipApart z TI TO i1 i2 a1 a2)(hz:IsZip s.heap z TI TO .none)(Jp:SU s.heap TI (.ref i1) (.ref i2))(Jq:SU s.heap TO p q)(h1:fR l1 s.heap i1 a1 k)(h2:fR l2 s.heap i2 a2 k)(g1:iH l1 s.heap a1 xs)(g2:iH l2 s.heap a2 ys)(hx:xs[k]? = some x)(hy:ys[k]? = some y)(hQ:∀h',IsZip h' z TI TO (rawInt s.heap.objs.size)->SU h' TO x y->fR l1 h' i1 a1 (k+1)->fR l2 h' i2 a2 (k+1)->SU h' s.heap.objs.size x y->(∀c o,c≠z->c≠TO->c≠i1->c≠i2->s.heap.get? c=some o->h'.get? c=some o)->Q (some (.ref s.heap.objs.size)) {s with heap:=h'}) :
  Q2 (Q7 prog w) A (pyNext (.ref z)) Q E s:=by
 have hT:s.TypeIs (.ref z) "zip":=⟨_,hz,rfl⟩;unfold pyNext;exact Qz (wpAny_attempt (RI (name:=QM "__next__") hT TY (R1 TY hT F.entry_zip_next (zX D hz Jp Jq h1 h2 g1 g2 hx hy λh' c1 c2 c3 c4 c5 c6=>QR (hQ h' c1 c2 c3 c4 c5 c6)) (F.args_zip_next_1 _))))
theorem zZ {TI TO:QX}{xs:Array QG}{p:QG}{Q:Option QG->QP->Prop}(hh:A.handled=none)(D:ZipApart z TI TO i1 i2 a1 a2)(hz:IsZip s.heap z TI TO .none)(Jp:SU s.heap TI (.ref i1) (.ref i2))(Jq:SU s.heap TO p q)(h1:fR l1 s.heap i1 a1 k)(h2:fR l2 s.heap i2 a2 k)(g1:iH l1 s.heap a1 xs)(g2:iH l2 s.heap a2 ys)(Jr:xs[k]? = none\/ys[k]? = none)(hQ:∀h',(∀c o,c≠z->c≠TO->c≠i1->c≠i2->s.heap.get? c=some o->h'.get? c=some o)->Q none {s with heap:=h'}):Q2 (Q7 prog w) A (pyNext (.ref z)) Q E s:=by
 have hT:s.TypeIs (.ref z) "zip":=⟨_,hz,rfl⟩;unfold pyNext;refine Qz (wpAny_attempt (RI (name:=QM "__next__") hT TY (R1 TY hT F.entry_zip_next (BW hh D hz Jp Jq h1 h2 g1 g2 Jr λh' e hk ⟨o,ho,hc⟩=>?_) (F.args_zip_next_1 _))));exact Qz (wpAny_isInstance (T:="StopIteration") (b:=true) ⟨o,ho,hc⟩ isSubtype_stop (QR (hQ _ hk)))
end
noncomputable abbrev L3 (l1:Bool)(h:S2)(a1:QX):S2:=h.push {cls:=.type (zV l1),data:=.fields (List.toArray [.ref a1,.int 0 0])}
noncomputable abbrev L4 (l1 l2:Bool)(h:S2)(a1 a2:QX):S2:=(L3 l1 h a1).push {cls:=.type (zV l2),data:=.fields (List.toArray [.ref a2,.int 0 0])}
noncomputable abbrev L5 (l1 l2:Bool)(h:S2)(a1 a2:QX):S2:=(L4 l1 l2 h a1 a2).push {cls:=.type "tuple",data:=.seq (List.toArray [.ref h.objs.size,.ref (L3 l1 h a1).objs.size])}
noncomputable abbrev L6 (l1 l2:Bool)(h:S2)(a1 a2:QX):S2:=(L5 l1 l2 h a1 a2).push {cls:=.type "tuple",data:=.seq (List.toArray [.none,.none])}
noncomputable abbrev JF (l1 l2:Bool)(h:S2)(a1 a2:QX):S2:=(L6 l1 l2 h a1 a2).push {cls:=.type "zip",data:=.fields (List.toArray [.none,.bool false,.bool false,.ref (L4 l1 l2 h a1 a2).objs.size,.ref (L5 l1 l2 h a1 a2).objs.size])}
theorem BX (l1 l2:Bool)(a1 a2:QX)(xs ys:Array QG):Meets (Builtin.«zip.__new__» ⟨[.type "zip",.ref a1,.ref a2],[]⟩) (λ_ R s=>iH l1 s.heap a1 xs/\iH l2 s.heap a2 ys/\R (.ok (.ret (.ref (L6 l1 l2 s.heap a1 a2).objs.size))) {s with heap:=JF l1 l2 s.heap a1 a2}):=
 .of_wp λprog w A R s h=>by
  obtain⟨hp,g,d,tk,os⟩:=s;obtain⟨g1,g2,h⟩:=h;have sb:=sub_zip;have q1:iH l1 (Shared.heap ⟨hp,g,d,tk,os⟩) a1 xs:=g1;have q2:iH l2 (Shared.heap ⟨hp.push {cls:=.type (zV l1),data:=.fields (List.toArray [.ref a1,.int 0 0])},g,d,tk,os⟩) a2 ys:=g2.at λo e=>QF _ e;wp_walk using yu q1,yu q2;exact⟨_,rfl,h⟩
section
variable {prog:RF}{w:Rx}{A:Rk}
theorem z0 {xs:Array QG}(g1:iH l1 s.heap a1 xs)(g2:iH l2 s.heap a2 ys)(h:∀h',IsZip h' (s.heap.objs.size+4) (s.heap.objs.size+2) (s.heap.objs.size+3) .none->SU h' (s.heap.objs.size+2) (.ref s.heap.objs.size) (.ref (s.heap.objs.size+1))->SU h' (s.heap.objs.size+3) .none .none->
   fR l1 h' s.heap.objs.size a1 0->fR l2 h' (s.heap.objs.size+1) a2 0->(∀c o,s.heap.get? c=some o->h'.get? c=some o)->Q (.ref (s.heap.objs.size+4)) {s with heap:=h'}):Q2 (Q7 prog w) A (call (.type "zip") [.ref a1,.ref a2]) Q E s:=by
 refine callType_new F.called_zip (by decide) (F.typeCall_zip_2 _ _) (F.newCall_zip_2 _ _) (λobj=>F.args_object_init_3 obj _ _) F.entry_zip_new (BX l1 l2 a1 a2 xs ys) ⟨g1,g2,?_⟩;have z1:(L3 l1 s.heap a1).objs.size=s.heap.objs.size+1:=SW ..;have z2:(L4 l1 l2 s.heap a1 a2).objs.size=s.heap.objs.size+2:=by rw[SW,z1]
 have z3:(L5 l1 l2 s.heap a1 a2).objs.size=s.heap.objs.size+3:=by rw[SW,z2]
 have z4:(L6 l1 l2 s.heap a1 a2).objs.size=s.heap.objs.size+4:=by rw[SW,z3]
 have e5:(JF l1 l2 s.heap a1 a2).get? (L6 l1 l2 s.heap a1 a2).objs.size=some _:=QS _ rfl;have e4:(JF l1 l2 s.heap a1 a2).get? (L5 l1 l2 s.heap a1 a2).objs.size=some _:=QF _ (QS _ rfl);have e3:(JF l1 l2 s.heap a1 a2).get? (L4 l1 l2 s.heap a1 a2).objs.size=some _:=QF _ (QF _ (QS _ rfl));have e2:(JF l1 l2 s.heap a1 a2).get? (L3 l1 s.heap a1).objs.size=some _:=QF _ (QF _ (QF _ (QS _ rfl)));have e1:(JF l1 l2 s.heap a1 a2).get? s.heap.objs.size=some _:=QF _ (QF _ (QF _ (QF _ (QS _ rfl))));show _/\_;rw[z2,z3,z4] at e5;rw[z1,z2] at e3;rw[z3] at e4;rw[z1] at e2;rw[z4];have mk:∀(l:Bool) (hp:S2) (it a:QX) (_:hp.get? it=some {cls:=.type (zV l),data:=.fields (List.toArray [.ref a,.int 0 0])}),fR l hp it a 0:=λl hp it a e=>by
  cases l with
  |true=>exact⟨_,e,rfl,rfl⟩
  |false=>exact⟨_,e,rfl,rfl⟩
 exact⟨⟨_,e5,rfl⟩,h _ e5 e3 e4 (mk l1 _ _ _ e1) (mk l2 _ _ _ e2) λc o x=>QF _ (QF _ (QF _ (QF _ (QF _ x))))⟩
end
end Hc.Zp
namespace L2
open Hc.Zp
section
variable {T:QX}
theorem aG.turnNew {t':Nat}(I:aG X pins σ H s)(hf:∀b∈fp,oX X pins H b)(k:∀b o,b∉fp->s.heap.get? b=some o->h'.get? b=some o)(hT:s.heap.objs.size<=T)(new:bU X.prog X.w (cE H T o) h' T o) :
  aG X pins σ (cE H T o) {s with heap:=h',toks:=t'}:=by
 have hn:H T=none:=I.hok.fresh hT;have nf:∀b u,H b=some u->b∉fp:=λb u e z=>by rw[(hf b z).1] at e;cases e
 have nT:∀b u,H b=some u->b≠T:=λb u e z=>by rw[z,hn] at e;cases e
 refine I.step (g':=s.gens) (d':=s.drawn) (ch:=fp) (λb hb=>?_) (λb o _ _ hc e _=>k b o hc e) (λb o _ _ hc e _=>⟨o.slots,k b o hc e⟩) (λb o _ e n=>?_) (λb o hc e=>⟨o,k b o hc e⟩)
  (λb xs e=>?_) (λb o u e=>?_) (λb ps e=>⟨(List.toArray []),?_⟩) (λm hm=>?_) (λb u e=>?_) I.bare
 ·obtain⟨f0,f1,f2,f3,f4,f5⟩:=hf b hb;exact⟨f3,f1,f4,f5⟩
 ·rw[aL (Q_ (Q3 (QO e) hT))];exact n
 ·rw[aL (nT b _ e)];exact e
 ·rw[aL (nT b _ e)];exact e
 ·rw[aL (nT b _ e),e];simp
 ·obtain⟨o,es,ep,ho,r⟩:=hm;exact⟨o,es,ep,k _ o (λz=>(hf _ z).2.1 rfl) ho,r⟩
 ·by_cases c:b=T
  ·subst c;rw[aT] at e;cases e;exact new
  ·rw[aL c] at e;refine (I.hok b u e).stay (λc v hc q=>k c v ?_ q) (λc q=>by rw[aL (nT c _ q)];exact q) λc xs q=>by rw[aL (nT c _ q)];exact q
   rcases hc with z|z
   ·rw[z];exact nf b u e
   ·exact nf c _ z
theorem aG.turneds {t':Nat}(I:aG X pins σ H s)(hf:∀b∈fp,oX X pins H b)(k:∀b o,b∉fp->s.heap.get? b=some o->h'.get? b=some o):aG X pins σ H {s with heap:=h',toks:=t'}:=by
 have nf:∀b u,H b=some u->b∉fp:=λb u e z=>by rw[(hf b z).1] at e;cases e
 refine I.step (g':=s.gens) (d':=s.drawn) (ch:=fp) (λb hb=>?_) (λb o _ _ hc e _=>k b o hc e) (λb o _ _ hc e _=>⟨o.slots,k b o hc e⟩) (λb o _ e n=>n) (λb o hc e=>⟨o,k b o hc e⟩)
  (λb xs e=>e) (λb o u e=>e) (λb ps e=>⟨(List.toArray []),by rw[e];simp⟩) (λm hm=>?_) (λb u e=>?_) I.bare
 ·obtain⟨f0,f1,f2,f3,f4,f5⟩:=hf b hb;exact⟨f3,f1,f4,f5⟩
 ·obtain⟨o,es,ep,ho,r⟩:=hm;exact⟨o,es,ep,k _ o (λz=>(hf _ z).2.1 rfl) ho,r⟩
 ·refine (I.hok b u e).stay (λc v hc q=>k c v ?_ q) (λ_ q=>q) λ_ _ q=>q;rcases hc with z|z
  ·rw[z];exact nf b u e
  ·exact nf c _ z
def z_ (l:Bool)(K:QB)(H:Hp)(a:QX)(xs:List V):Prop:=if l=true then fi K H a xs else gL K H a xs
theorem aG.sq (I:aG X pins σ H s)(q:z_ l X.K H a xs):∃ay,a8 xs ay/\iH l s.heap a ay.toArray:=by
 cases l with
 |true=>obtain⟨ay,rv,p,_⟩:=I.list q;exact⟨ay,rv,p.isList⟩
 |false=>obtain⟨ay,rv,p,_⟩:=I.tuple q;exact⟨ay,rv,p⟩
theorem aG.sq_inj {ys:List V}(I:aG X pins σ H s)(q:z_ l X.K H a xs)(q':z_ l X.K H a ys):xs=ys:=by
 cases l with
 |true=>exact I.list_inj q q'
 |false=>exact I.tuple_inj q q'
end
noncomputable def N0 (K:QB)(l1 l2:Bool)(a1 a2:QX):It:=
  ⟨λi H=>∃xs ys x y,z_ l1 K H a1 xs/\z_ l2 K H a2 ys/\xs[i]? = some x/\ys[i]? = some y,
   λi H v H'=>∃T x y,v=.ref T/\H T=none/\H'=cE H T (.tup [x,y])/\(∀xs,z_ l1 K H a1 xs->xs[i]? = some x)/\(∀ys,z_ l2 K H a2 ys->ys[i]? = some y),
   λi H=>∃xs ys,z_ l1 K H a1 xs/\z_ l2 K H a2 ys/\(xs.length<=i\/ys.length<=i)⟩
theorem BY {w:Rx}{DX:List RP}{kt:Nat}{tp:Pos}{TI TO:QX}(D:ZipApart z TI TO i1 i2 a1 a2) :
  zm P w K (.Tuple DX kt tp) (N0 K l1 l2 a1 a2) [z,TI,TO,i1,i2] z (λi h=>IsZip h z TI TO .none/\SU h TI (.ref i1) (.ref i2)/\(∃p q,SU h TO p q)/\fR l1 h i1 a1 i/\fR l2 h i2 a2 i) where
 mem:=by simp
 obj:=λi h ⟨hz,hI,⟨p,q,hO⟩,h1,h2⟩ b hb=>by
  obtain⟨o1,e1,d1,_⟩:=h1.obj;obtain⟨o2,e2,d2,_⟩:=h2.obj;simp only[QN,Sk,or_false] at hb;rcases hb with rfl|rfl|rfl|rfl|rfl
  ·exact⟨_,hz,λv e=>by cases e⟩
  ·exact⟨_,hI,λv e=>by cases e⟩
  ·exact⟨_,hO,λv e=>by cases e⟩
  ·exact⟨o1,e1,λv e=>by rw[d1] at e;cases e⟩
  ·exact⟨o2,e2,λv e=>by rw[d2] at e;cases e⟩
 keep:=λi h h' ⟨hz,hI,⟨p,q,hO⟩,h1,h2⟩ k=>⟨k z (by simp) _ hz,k TI (by simp) _ hI,⟨p,q,k TO (by simp) _ hO⟩,h1.at λo e=>k i1 (by simp) o e,h2.at λo e=>k i2 (by simp) o e⟩
 item:=by
  intro X hP hw hK hc i pins s σ H E I hf st hg;subst hP hw hK;obtain⟨hz,hI,⟨p,q,hO⟩,h1,h2⟩:=st;obtain⟨xs,ys,x,y,q1,q2,hx,hy⟩:=hg;obtain⟨is1,v1,g1⟩:=I.sq q1;obtain⟨is2,v2,g2⟩:=I.sq q2;obtain⟨u1,iE,r1⟩:=v1.get hx;obtain⟨u2,hu2,r2⟩:=v2.get hy;obtain⟨o1,e1,_,_⟩:=h1.obj;obtain⟨o2,e2,_,_⟩:=h2.obj;have lz:=QO hz;have lI:=QO hI;have lO:=QO hO;have Pg:=QO e1;have Ph:=QO e2;refine zY D hz hI hO h1 h2 g1 g2 (x:=u1) (y:=u2) (by simpa using iE) (by simpa using hu2) λh' c1 c2 c3 c4 c5 kp=>⟨_,rfl,?_⟩;refine wpAny_letOwnedTupleGo_zip c1 λJJ z2 sb=>?_;have Ow:SU JJ s.heap.objs.size u1 u2:=sb.extBut _ _ (Nat.ne_of_gt lz) c5;have Pj:∀b o,b∉[z,TI,TO,i1,i2]->s.heap.get? b=some o->JJ.get? b=some o:=λb o hb e=>by
   simp only[QN,Sk,or_false,not_or] at hb;exact sb.extBut _ _ hb.1 (kp b o hb.1 hb.2.2.1 hb.2.2.2.1 hb.2.2.2.2 e)
  have I2:aG X pins σ (cE H s.heap.objs.size (.tup [x,y])) {s with heap:=JJ}:=I.turnNew (t':=s.toks) hf Pj (QJ _) ⟨by rw[S5];simp,[u1,u2],.cons r1 (.cons r2 .nil),⟨_,Ow,rfl,_,rfl⟩,_,Ow⟩;have fr:H s.heap.objs.size=none:=I.hok.fresh (QJ _);refine⟨.ref s.heap.objs.size,_,I2,rfl,⟨_,x,y,rfl,fr,rfl,λzs hq=>by rw[I.sq_inj hq q1];exact hx,λzs hq=>by rw[I.sq_inj hq q2];exact hy⟩,⟨z2,?_,⟨u1,u2,?_⟩,?_,?_⟩,λb hb=>?_⟩
  ·exact sb.extBut _ _ D.TIz (kp _ _ D.TIz D.TITO D.TIi1 D.TIi2 hI)
  ·exact sb.extBut _ _ D.TOz c2
  ·exact c3.at λo e=>sb.extBut _ _ D.i1z e
  ·exact c4.at λo e=>sb.extBut _ _ D.i2z e
  ·have hn:b≠s.heap.objs.size:=by
    simp only[QN,Sk,or_false] at hb;rcases hb with rfl|rfl|rfl|rfl|rfl
    ·exact Q_ lz
    ·exact Q_ lI
    ·exact Q_ lO
    ·exact Q_ Pg
    ·exact Q_ Ph
   rw[aL hn];exact (hf b hb).1
 done:=by
  intro X hP hw hK hc i pins s σ H E I hf st hg;subst hP hw hK;obtain⟨hz,hI,⟨p,q,hO⟩,h1,h2⟩:=st;obtain⟨xs,ys,q1,q2,he⟩:=hg;obtain⟨is1,v1,g1⟩:=I.sq q1;obtain⟨is2,v2,g2⟩:=I.sq q2;have n1:=v1.length;have n2:=v2.length;refine zZ (I.ok.hd hc) D hz hI hO h1 h2 g1 g2 (by
   rcases he with he|he
   ·exact .inl (by simp;lia)
   ·exact .inr (by simp;lia)) λh' kp=>⟨rfl,I.turneds (t':=s.toks) hf λb o hb e=>?_⟩
  simp only[QN,Sk,or_false,not_or] at hb;exact kp b o hb.1 hb.2.2.1 hb.2.2.2.1 hb.2.2.2.2 e
 self:=λ_ _ _ _ _ st h=>wpAny_pyIter_zip st.1 h
section
variable {DX:List RP}{kt:Nat}{tp p:Pos}{a b:RP}
theorem Ij:Ra "zip"=some (.type "zip"):=by decide+kernel
def M3 (K:QB)(ta:TA):TI:=λσ H R=>ta σ H λvs H1=>∃l1 l2 a1 a2 xs ys,vs=[.ref a1,.ref a2]/\z_ l1 K H1 a1 xs/\z_ l2 K H1 a2 ys/\R (N0 K l1 l2 a1 a2) H1
theorem Ik {ta:TA}(hg:Gl X "zip")(hm:X.mg "zip"=none)(ha:PA X [a,b] ta)(hs:QK [a,b] X.env=[(false,Sv a X.env),(false,Sv b X.env)]:=by rfl)(cv:QK [b] X.env=[(false,Sv b X.env)]:=by rfl) :
  PI X (.Tuple DX kt tp) (.Call (.Name "zip" p) [a,b] [] pos) (M3 X.K ta):=by
 intro pins s σ H R I h;refine Call_ (pV I hg hm Ij (Sz (dy (ha pos pins s σ H _ I h) λus s1 ⟨vs,H1,I1,r1,q1⟩=>?_) (by rw[hs,cv]) (by rw[cv];rfl)));obtain⟨l1,l2,a1,a2,xs,ys,rfl,g1,g2,q⟩:=q1;cases r1 with
 |cons r rr=>
  cases rr with
  |cons r' rr=>
   cases rr;cases r;cases r';obtain⟨is1,v1,m1⟩:=I1.sq g1;obtain⟨is2,v2,m2⟩:=I1.sq g2;have lt:∀(l:Bool) (c:QX) (zs:Array QG),iH l s1.heap c zs->c<s1.heap.objs.size:=λl c zs hq=>by
    cases l with
    |true=>obtain⟨_,e,_⟩:=hq;exact QO e
    |false=>obtain⟨_,e,_⟩:=hq;exact QO e
   refine z0 m1 m2 λh' z1 z2 z3 z4 z5 kp=>wpAny_pyIter_zip z1 ?_;refine⟨_,[s1.heap.objs.size+4,s1.heap.objs.size+2,s1.heap.objs.size+3,s1.heap.objs.size,s1.heap.objs.size+1],_,_,H1,rfl,I1.kept (t':=s1.toks) λb o e=>kp b o e,BY (zipApart_new (lt l1 a1 _ m1) (lt l2 a2 _ m2)),⟨z1,z2,⟨_,_,z3⟩,z4,z5⟩,λb hb=>?_,q⟩;have hb:s1.heap.objs.size<=b:=by
    simp only[QN,Sk,or_false] at hb;rcases hb with rfl|rfl|rfl|rfl|rfl
    ·exact Tx _ _
    ·exact Tx _ _
    ·exact Tx _ _
    ·exact QJ _
    ·exact Tx _ _
   exact I1.fpOk hb (I1.hok.fresh hb)
end
noncomputable def Aa:U->Option (List U)
 | .lst us=>some us
 | .tup us=>some us
 |_=>none
noncomputable def Ab (ga:Ev->R (List U×Ev)):Ev->R (List U×Ev):=λρ=>(ga ρ).bind λx=>match x.1 with
 | [u,w]=>match Aa u,Aa w with
  |some us,some ws=>.ok (SH (λa b=>.tup [a,b]) us ws,x.2)
  |_,_=>.stk
 |_=>.stk
section
variable {DX:List RP}{kt:Nat}{tp p1:Pos}{a b:RP}{b1:Bool}{ga:Ev->R (List U×Ev)}
theorem BZ {u:U}(e:Aa u=some us)(h:Rp K H A u v):∃l a xs,v=.ref a/\us.length<=QC/\aR K H A us xs/\z_ l K H a xs/\∀H',eD A H H'->(∀b,A b->Mu (H b))->z_ l K H' a xs:=by
 unfold Aa at e;split at e;rotate_right
 ·cases e
 rotate_left
 ·cases e;unfold Rp at h;obtain⟨a,xs,rfl,q,l,z⟩:=h;exact⟨false,a,xs,rfl,l,z,gL.of q,λH' x mu=>gL.of (x a _ (λy=>by have:=mu a y;rw[q] at this;exact this) q)⟩
 ·cases e;unfold Rp at h;obtain⟨a,xs,rfl,na,q,l,z⟩:=h;exact⟨true,a,xs,rfl,l,z,fi.of q,λH' x mu=>fi.of (x a _ na q)⟩
theorem B0 (ha:DA X G [a,b] b1 false ga)(hm:X.mg "zip"=none)(hg:Gl X "zip":=by rfl)(hs:QK [a,b] X.env=[(false,Sv a X.env),(false,Sv b X.env)]:=by rfl)(cv:QK [b] X.env=[(false,Sv b X.env)]:=by rfl) :
  DI X G (.Tuple DX kt tp) (.Call (.Name "zip" p1) [a,b] [] pos) b1 false (Ab ga):=⟨(Ik hg hm ha.un hs cv).to λσ H RR h00=>by
 obtain⟨Z,A,ρ,q,f⟩:=h00;unfold Ab at f;cases e1:ga ρ with
 |stk=>rw[e1] at f;exact f.elim
 |exc=>rw[e1] at f;exact f.elim
 |ok y=>
  obtain⟨us,ρ1⟩:=y;rw[e1] at f;dsimp only[L2.R.bind] at f;refine⟨Z,A,ρ,q,?_⟩;rw[e1];intro vs H1 q1 x1 s1 vm;split at f
  ·rename_i Pe ρ' e2;split at e2
   ·rename_i u w';split at e2
    ·rename_i as bs ea eb;cases e2;have r:=vm.rps;unfold aR at r;obtain⟨v,vr,rfl,r1,r2⟩:=r;unfold aR at r2;obtain⟨v',vr',rfl,r3,r4⟩:=r2;unfold aR at r4;subst r4;obtain⟨l1,a1,xs,rfl,n1,z1,k1,Ou⟩:=BZ ea r1;obtain⟨l2,a2,ys,rfl,n2,z2,k2,DR⟩:=BZ eb r3;refine⟨l1,l2,a1,a2,xs,ys,rfl,k1,k2,f _ H1 q1 x1 s1 ⟨?_,λH2 A' hx LC=>?_⟩⟩
     ·rw[S7];exact Rn (Nat.min_le_left _ _) n1
     ·rw[hU QA] at hx;have NG:=Ou H2 hx q1.mu;have NH:=DR H2 hx q1.mu;have w1:=z1.re q1.mu hx LC;have w2:=z2.re q1.mu hx LC;refine⟨λi u hu=>?_,⟨xs,ys,NG,NH,?_⟩⟩
      ·rw[R5] at hu;cases hA:as[i]? with
       |none=>rw[hA] at hu;cases hu
       |some ua=>cases hB:bs[i]? with
        |none=>rw[hA,hB] at hu;cases hu
        |some ub=>
         rw[hA,hB] at hu;cases hu;obtain⟨x,G5,px⟩:=w1.get hA;obtain⟨y,hy1,py⟩:=w2.get hB;refine⟨⟨xs,ys,x,y,NG,NH,G5,hy1⟩,λx' H' yl=>?_⟩;obtain⟨T,x2,y2,rfl,hT,rfl,g1,g2⟩:=yl;have ex:x2=x:=by have:=g1 xs NG;rw[G5] at this;cases this;rfl
         have ey:y2=y:=by have:=g2 ys NH;rw[hy1] at this;cases this;rfl
         subst ex ey;have sm:=ee hT (.tup [x2,y2]);refine⟨sm,?_⟩;unfold Rp;exact⟨T,_,rfl,aT,by have:QC=16777216:=rfl;rw[this];simp,aR.cons (px.same sm) (aR.cons (py.same sm) aR.nil)⟩
      ·rw[S7,←z1.length,←z2.length];rcases Nat.le_total as.length bs.length with z|z
       ·exact .inl (by rw[Nat.min_eq_left z];exact QJ _)
       ·exact .inr (by rw[Nat.min_eq_right z];exact QJ _)
    ·cases e2
   ·cases e2
  ·exact f.elim⟩
end
end L2
namespace L2
section
variable {e:RP}{p1 p2 p3 p4:Pos}{b1:Bool}{m1 m:Md}{g1:Ev->R (U×Ev)}{v:Option RP}{w:Option RP}
theorem xq {g:Ev->SR}(h:∀ρ,∃c u,g ρ=.exc c u)(hW:∀H,¬G.W H:=by exact λ_ h=>h):DS X G m (.Raise v w pos) g:=⟨λpins s σ H D I h00=>by
 obtain⟨Z,A,ρ,q,f⟩:=h00;obtain⟨c,u,e⟩:=h ρ;rw[e] at f;exact absurd (f H q.bas) (hW H)⟩
end
end L2
section
set_option maxHeartbeats 400000
namespace L2
open PySem PySem.Spec PyProof.Rows PySem.W
structure rQ (K:Frag)(C:QX):Prop where
 cls:(clsIn K C).isSome=true
 ga:findIn K (.ref C) "__getattribute__"=some (some (.builtin "BaseException.__getattribute__"))
 gn:findIn K (.ref C) "__getattr__"=some none
 cl:findIn K (.ref C) "__class__"=some (some (.builtin "object.__class__"))
 gt:specialIn K (.builtin "object.__class__") "__get__"=some (some (.builtin "getset_descriptor.__get__"))
 tk:takesIn K (.builtin "object.__class__")=some true
 ob:mroIn K C (.type "object")=some true
 be:mroIn K C (.type "BaseException")=some true
def mn (x C:QX)(h:S2):Prop:=∃ox,h.get? x=some ox/\ox.cls=.ref C
theorem mn.ty {x:QX}(I:mn x C h)(M:Model):Looks M h (typeOf (.ref x)) (.ref C):=by
 obtain⟨ox,at1,e⟩:=I;exact e▸(Looks.ld at1).andThen .now
section
variable {prog:RF}{w:Rx}{A:Rk}{K:Frag}{x:QX}
theorem B1 (Z:rQ K C)(X:K.In h):Looks M h (Builtin.ObjectAttr.find (.ref x) (.ref C) "__class__") (.bind (.builtin "getset_descriptor.__get__") (.builtin "object.__class__")):=by
 have m1:=looks_findIn (M:=M) X Z.cl;have m2:Looks M h (Builtin.ObjectAttr.getOf (some (.builtin "object.__class__"))) (some (.builtin "getset_descriptor.__get__")):=looks_specialIn X Z.gt;have m3:Looks M h (Builtin.ObjectAttr.dataDescriptor? (some (.builtin "object.__class__")) (some (.builtin "getset_descriptor.__get__"))) (some (.builtin "getset_descriptor.__get__",.builtin "object.__class__")):=(looks_takesIn (M:=M) X Z.tk).andThen .now;exact m1.andThen (m2.andThen (m3.andThen (Looks.tag .now)))
open Builtin Builtin.ObjectAttr Builtin.Getset_descriptor in
theorem EU {tp:QG}{R:Result->QP->Prop}(Z:rQ K C)(X:K.In s.heap)(I:mn x C s.heap)(h:R (.ok (.ret (.ref C))) s):codeAny (Q7 prog w) A (.call (.builtin "getset_descriptor.__get__") ⟨[.builtin "object.__class__",.ref x,tp],[]⟩) R s:=by
 have m0:=I.ty (Q7 prog w);have m1:=looks_mroIn (M:=Q7 prog w) X Z.ob;obtain⟨hp,gs,dn,tt,oo⟩:=s;have Pl:(⟨hp,gs,dn,tt,oo⟩:QP).TypeIs (.builtin "object.__class__") "getset_descriptor":=KF.type_class;refine codeAny_call_builtin KF.slot_gs.plain KF.entry_gs ?_;refine KF.slot_gs.check _ _ _ _ _ _ _ _ Pl (KF.args_gs _ _ _) ?_;unfold Builtin.«getset_descriptor.__get__» descrGet;rw[dga_obj];refine Qz ?_;refine QR ?_;unfold descrGetter descrCheckInstance;unfold descrNameAndClass isInstance;simp only[KF.owner_class]
 repeat lk
 refine⟨Code.quiet_builtin _ (by decide+kernel),?_⟩;refine codeAny_builtin KF.entry_class ?_;unfold Builtin.«object.__class__»;unfold shownTypeOf
 repeat lk
 exact h
theorem Ac {tk:Tok}{Q:Fin->QP->Prop}(Z:rQ K C)(X:K.In s.heap)(I:mn x C s.heap)(h:Q (.done (.ret (.ref C))) s) :
  Q2 (Q7 prog w) A (Builtin.«object.__getattribute__» ⟨[.ref x,.str "__class__" tk],[]⟩) Q E s:=by
 have CG:=EU (prog:=prog) (w:=w) (A:=A) (tp:=.ref C) (R:=λr s'=>r=.ok (.ret (.ref C))/\s'=s) Z X I ⟨rfl,rfl⟩;have L0:=I.ty (Q7 prog w);obtain⟨hh,g,d,t,os⟩:=s;have L1:=B1 (M:=Q7 prog w) (x:=x) Z X;unfold Builtin.«object.__getattribute__»;refine Qz (m:=slotArgs "__getattribute__" 1 ⟨[.ref x,.str "__class__" tk],[]⟩) (wpAny_of_eq (a:=(.ref x,[.str "__class__" tk])) rfl ?_);refine Qz (wpAny_of_eq (a:=("__class__":Str)) rfl ?_);refine Qz (L0.at (Qz (L1.at ?_)));show Q2 _ _ (do ret (←holding [Value.builtin "object.__class__"] (call (.builtin "getset_descriptor.__get__") [.builtin "object.__class__",.ref x,.ref C]))) _ _ _;refine Qz (R3 (wpAny_call (Tt CG λr s' hr=>?_)));obtain⟨rfl,rfl⟩:=hr;exact QR h
theorem Ad {G4:QG}{Q:Unit->QP->Prop}(Z:rQ K C)(X:K.In s.heap)(I:mn x C s.heap)(hq:Q () s):Q2 M A (checkBuiltinCall "BaseException.__getattribute__" ⟨[.ref x,G4],[]⟩) Q E s:=by
 have hk:builtinKind "BaseException.__getattribute__"=some .slot:=by decide+kernel
 have Js:splitId "BaseException.__getattribute__"=some ("BaseException","__getattribute__"):=by decide+kernel
 have ha:=F.args_bexc_ga (.ref x) G4;have LI:Looks M s.heap (isInstance (.ref x) (.type "BaseException")) true:=(I.ty M).andThen (looks_mroIn (M:=M) X Z.be);obtain⟨hh,g,d,t,os⟩:=s;simp only[checkBuiltinCall,hk,Js];refine Qz (LI.at ?_)
 repeat (first|assumption|wp_step)
theorem Ae {Q:Option QG->QP->Prop}(Z:rQ K C)(X:K.In s.heap)(I:mn x C s.heap)(h:Q (some (.ref C)) {s with toks:=s.toks+1}):Q2 (Q7 prog w) A (getAttr? (.ref x) "__class__") Q E s:=by
 obtain⟨hh,g,d,t,os⟩:=s;have L0:=I.ty (Q7 prog w);have L1:=looks_findIn (M:=Q7 prog w) X Z.ga;have L2:=looks_findIn (M:=Q7 prog w) X Z.gn;unfold getAttr? getAttrBy? getAttrBy;refine Qz (wpAny_mkText (Qz (wpAny_attempt (R3 (Qz (L0.at (Qz (L1.at ?_))))))));have G5:(onTheHeap (Value.ref C)&&Value.builtin "BaseException.__getattribute__"==Value.builtin "object.__getattribute__")=false:=by
  have Pm:(Value.builtin "BaseException.__getattribute__"==Value.builtin "object.__getattribute__")=false:=by decide+kernel
  rw[Pm];rfl
 dsimp only;rw[hU (by rw[G5];exact QA)];unfold getAttrByItsOwn hookBefore;refine Qz (L2.at ?_);refine Qz (wpAny_attempt (R3 ?_));show Q2 _ _ (boundAndCalled (.builtin "BaseException.__getattribute__") (.ref x) (.str "__class__" t)) _ _ _;unfold boundAndCalled;have FX:=F.attr_ValueError;refine Qz (wpAny_of_eq (FX.ga.bind (.ref x)) ?_);refine wpAny_call (codeAny_call_builtin FX.ga.plain F.entry_bexc_ga (Ad Z X I (Ac (s:=⟨hh,g,d,t+1,os⟩) Z X I ?_)));exact handed_on rfl (QR h)
theorem B2 (Z:rQ K C):KitX K (.ref x) (.ref C) (mn x C) where
 ty:=λM h X I=>I.ty M
 it:=λM h X _=>by
  obtain⟨cdD,hcD⟩:=RE.mp Z.cls;unfold clsIn at hcD;split at hcD
  ·rename_i c' d' Pn LD ho;intro A' Q' E' s' k q;unfold isType loadHead;exact Qz (wpAny_loadPart (k _ _ (X _ _ ho)) (QR q))
  ·cases hcD
 ne:=λh tp dd ay n sl X Po=>by
  obtain⟨cdD,hcD⟩:=RE.mp Z.cls;refine SO.mpr λq=>?_;have e:C=tp:=Value.ref.inj (beq_iff_eq.mp q);subst e;unfold clsIn at hcD;split at hcD
  ·rename_i c' d' Pn LD ho;have z:=(X _ _ ho).symm.trans Po;cases z
  ·cases hcD
 ca:=λX I k=>Ae Z X I k
end
end L2
end
section
set_option maxHeartbeats 400000
namespace L2
open PySem PySem.Spec PyProof.Rows PySem.W
structure L7 (P:RF)(w:Rx)(outer:List Env)(H:Hp)(s:QP)(B:S2)(H1:Hp)(r:S2)(L:QX):Prop where
 un:Un (pT outer) [] H H1 s.heap r
 hok:jR P w H1 r
 kB:∀b o,r.get? b=some o->b∉pT outer->b≠L->B.get? b=some o
 nL:s.heap.get? L=none
 hL:H1 L=none
 fr:∀b∈pT outer,H b=none/\∃o,s.heap.get? b=some o/\∀vs,o.data≠.fields vs
def yv (P:RF)(w:Rx)(C:QX):CXT:=λouter H s E e s'=>∃(ea t L:QX) (B r:S2) (H1:Hp),e=.ref ea/\s'.os=s.os/\Ue s'.gens/\L7 P w outer H s B H1 r L/\Heap.FlyingW B outer ea (.ref C) (.ref t) s'.heap/\r.UpToSlots s'.heap/\r.get? ea=none/\E (.ref C) none H1
theorem jR.keptT {w:Rx}(x:jR P w H h)(k:∀b u o,H b=some o->h.get? b=some u->h'.get? b=some u):jR P w H h':=λa o e=>
 (x a o e).stay (λb u hb q=>by
  rcases hb with rfl|hb
  ·exact k _ _ _ e q
  ·exact k _ _ _ hb q) (λ_ q=>q) λ_ _ q=>q
section
variable {w:Rx}{outer:List Env}{B r:S2}{L:QX}
theorem L7.there (F:L7 P w outer H s B H1 r L)(k:B.StaysIn h)(u:r.UpToSlots h):Un (pT outer) [] H H1 s.heap h/\jR P w H1 h:=by
 have Fp:∀b o,s.heap.get? b=some o->b≠L:=λb o e z=>by rw[z,F.nL] at e;cases e
 have Ox:∀b o,s.heap.get? b=some o->b∈pT outer->∃sl,h.get? b=some {o with slots:=sl}:=λb o e hb=>by
  obtain⟨hn,o',e',nf⟩:=F.fr b hb;rw[e] at e';cases e';obtain⟨sl,q⟩:=F.un.slot b o e hn hb (by simp);obtain⟨LD,q'⟩:=u b _ q (λvs z=>nf vs z);exact⟨LD,q'⟩
 refine⟨⟨λb o e n hb hx=>k b o (F.kB b o (F.un.keep b o e n hb hx) hb (Fp b o e)),λb o e n hb hx=>Ox b o e hb,F.un.free,λb o e hx=>?_,F.un.tups,F.un.frzs,F.un.tbls⟩,F.hok.keptT λb v o e q=>?_⟩
 ·by_cases hb:b∈pT outer
  ·obtain⟨sl,q⟩:=Ox b o e hb;exact⟨_,q⟩
  ·obtain⟨o',q⟩:=F.un.there b o e hx;exact⟨o',k b o' (F.kB b o' q hb (Fp b o e))⟩
 ·refine k b v (F.kB b v q (λhb=>?_) λz=>by rw[z,F.hL] at e;cases e);obtain⟨hn,o',e',_⟩:=F.fr b hb;rw[F.un.free b o' e' hn (by simp)] at e;cases e
end
section
variable {B r:S2}{L:QX}
theorem aG.fly {t':Nat}{d':Drawn}(I:aG X pins σ H s)(F:L7 X.prog X.w X.stack H s B H1 r L)(k:B.StaysIn h)(u:r.UpToSlots h)(hg:Ue g'):aG X pins σ H1 {s with heap:=h,gens:=g',drawn:=d',toks:=t'}:=by
 obtain⟨a,b⟩:=F.there k u;exact I.call (h':=h) (g':=g') (d':=d') (t':=t') (ch:=[]) a b hg λ_ z=>absurd z (by simp)
end
end L2
end
section
set_option maxHeartbeats 400000
namespace L2
open PySem PySem.Spec PyProof.Rows PySem.W
abbrev yw:List QG:=[.type "ValueError",.type "Exception",.type "BaseException",.type "object"]
theorem EV {K:Frag}{Oy:List QG}{G6:String}(X:K.In h)(q:excIn K C Oy G6=true) :
  ∃bm N nm qn bs hdct sn sub ab col dd k0 k1 k2 k3 k5 mN,h.get? C=some (excClassObj nm qn C N bs bm hdct sn sub ab col dd k0 k1 k2 k3 k5 G6)/\h.Ns N mN/\mN "__init__"=none/\OwnTail h Oy bm:=by
 unfold excIn at q;split at q
 ·rename_i d1 cd sl ho;split at q
  ·rename_i C' bm k0 k1 k2 k3 n k5 hm hs;simp only[QU,beq_iff_eq,Bool.not_eq_true'] at q;obtain⟨⟨⟨⟨⟨e1,e2⟩,hdel⟩,ht⟩,hok⟩,hni⟩:=q;subst e1;subst e2;obtain⟨nm,bs,mro,ns,qn,hd,sn,sub,ab,col,del⟩:=cd;dsimp only at hm hdel hok hni;subst hm;subst hdel;have Pp:sl=(List.toArray [k0,k1,k2,k3,some (.builtin n),k5]):=by
    obtain⟨l⟩:=sl;simp only at hs;rw[hs]
   subst Pp;exact⟨bm,ns,nm,qn,bs,hd,sn,sub,ab,col,d1,k0,k1,k2,k3,k5,_,X _ _ ho,.of_isNs (isNs_of_in X hok),nsMap_none_of_in X hok hni,tail_of_in X ht⟩
  ·cases q
 ·cases q
section
variable {w:Rx}{K:Frag}{bh:QG}{A:Rk}{outer:List Env}{s0:QP}{H0:Hp}{E:XK}
theorem Af {e:QX}{vs:List QG}(I:aG (iF (yv P w C) P w K mg base N qual scope f bh A outer s0 H0 E) pins σ H s)(hm:Heap.MadeExcOf s.heap h' e (.ref C) vs)(hE:E (.ref C) none H)(nL:s0.heap.get? s0.heap.objs.size=none:=by exact Heap.get?_none_of_le (QJ _)):(iF (yv P w C) P w K mg base N qual scope f bh A outer s0 H0 E).xe (.ref e) {s with heap:=h'}:=by
 let env:=RQ qual scope s0.heap.objs.size f bh
 have GX:s.heap.FunFrames base (env::outer):=I.stack;have uO:∀en∈(env::outer),∀a,en.frame=some a->a∈pT (env::outer):=λen he a ha=>T8.mpr ⟨en,he,ha⟩;refine wpAny_leaves_madeW (base:=hideAll s.heap (pT (env::outer))) (h:=s.heap) (L:=s0.heap.objs.size) (outer:=outer) I.ok.frames rfl (λb o q=>of_hideAll _ q) (funFrames_hide GX uO) hm λh2 t fl tp nt up=>?_;refine⟨e,t,s0.heap.objs.size,_,s.heap,H,rfl,I.os,I.bare,⟨I.base,I.hok,λb o q nb nl=>hideAll_get _ q λz=>?_,nL,I.free,λb hb=>⟨I.ok.frf b hb,?_⟩⟩,fl,(Heap.UpToSlots.of_keeps hm.keeps).trans up,hm.new,hE⟩
 ·unfold pT at z;rw[S3] at z;rcases QN.mp z with z|z
  ·exact nl z
  ·exact nb z
 ·exact (I.ok.funs.mem hb).2
variable {np cpos:Pos}{e0:RP}{t:TA}
def Il (C:QX)(E:XK)(t:TA):TS:=λ_ σ H=>t σ H λxs H1=>xs.length<=QC/\E (.ref C) none H1
theorem B3 (hx:mg x=some (.ref C))(hq:excIn K C yw "ValueError.__new__"=true)(hh:A.handled=none)
  (ha:PA (iF (yv P w C) P w K mg base N qual scope f bh A outer s0 H0 E) [e0] t) (hg:Gl (iF (yv P w C) P w K mg base N qual scope f bh A outer s0 H0 E) x:=by rfl) (hd:(x==("__debug__":Str))=false:=by decide)
  (he:QK [e0] (RQ qual scope s0.heap.objs.size f bh)=(false,Sv e0 (RQ qual scope s0.heap.objs.size f bh))::QK [] (RQ qual scope s0.heap.objs.size f bh):=by rfl) :
  PS (iF (yv P w C) P w K mg base N qual scope f bh A outer s0 H0 E) (.Raise (some (.Call (.Name x np) [e0] [] cpos)) none pos) (Il C E t):=by
 intro pins s σ H D I h;obtain⟨tl,NN,nm,q,bs,hdct,sn,sub,ab,col,dd,k0,k1,k2,k3,k5,mN,hC,hN,hni,T⟩:=EV I.ok.mod.kin hq;have FB:=F.excBase_ValueError;refine wpAny_Raise_call_subU (C:=C) (nm:=nm) (q:=q) (N:=NN) (bs:=bs) (bm:=tl) (hdct:=hdct) (sn:=sn) (sub:=sub) (ab:=ab) (col:=col) (dd:=dd) (k0:=k0) (k1:=k1) (k2:=k2) (k3:=k3) (k5:=k5) FB FB.hasB FB (mN:=mN) (T.hasType FB.hasBase) hh ?_ hni (kE I hg hx ⟨rfl,?_⟩ hd)
 ·show (Sd cpos (QK [e0] (RQ qual scope s0.heap.objs.size f bh))).any (·.1)=false;rw[he];rfl
 ·show Q2 _ _ (evalArgs (.ref C) true (Sd cpos (QK [e0] (RQ qual scope s0.heap.objs.size f bh))) []) _ _ _;have h1:=ha cpos pins s σ H _ I h;have Pq:QK [e0] (iF (yv P w C) P w K mg base N qual scope f bh A outer s0 H0 E).env=(false,Sv e0 (RQ qual scope s0.heap.objs.size f bh))::QK [] (RQ qual scope s0.heap.objs.size f bh):=he;rw[Pq] at h1;rw[he];refine Calls.evalArgs_plain (dy h1 λus s2 ⟨xs,H2,I2,r2,l2,hE⟩=>?_);have kk:∀b o,base.get? b=some o->s2.heap.get? b=some o:=λb o z=>(I2.bs b o z).1;exact⟨rfl,by rw[←r2.length];exact l2,kk _ _ hC,hN.keeps kk,T.keeps kk,λh' e hm=>Af I2 hm hE⟩
end
end L2
end
section
set_option maxHeartbeats 400000
namespace L2
open PySem PySem.Spec PyProof.Rows
structure gx (k:Nat)(A:Rk):Prop where
 dp:A.depth+3*k+5<Ug
 un:A.units+16*k+200<Tj
theorem gx.deeper {A:Rk}(r:gx (k+1) A)(env:Env):gx k (A.deeper env):=
 ⟨by have:=r.dp;show A.depth+1+3*k+5<_;lia,by have:=r.un;show A.units+3+16*k+200<_;lia⟩
theorem gx.depth {A:Rk}(r:gx k A):A.depth<Ug:=by have:=r.dp;lia
structure B4 (P:RF)(w:Rx)(K:QB)(mg:Str->Option QG)(base:S2)(CX:CXT)(k:Nat)(f:QX)(fd:Sq)(ps:List Str)(sp:Sp):Prop where
 len:∀vs H Q E,sp vs H Q E->vs.length=ps.length
 run:∀(A:Rk) (outer:List Env) (s:QP) (H:Hp) (args:Args) (us:List QG) (vs:List V) (Q:VK) (E:XK),gx k A->zA P w K mg base A outer s H->BindsTo s fd args (ps.zip us)->a8 vs us->sp vs H Q E->
  codeAny (Q7 P w) A (.call (.ref f) args) (CR CX outer P w H s Q E) s
noncomputable def vA (CX:CXT)(P:RF)(w:Rx)(K:QB)(mg:Str->Option QG)(base:S2)(N:List Str)(qual:Str)(scope:Ud)(f:QX)(cd:QG)(A:Rk)(outer:List Env)(s:QP)(H:Hp)(E:XK):Cx where
 prog:=P
 w:=w
 K:=K
 mg:=mg
 base:=base
 A:=A.deeper (RQ qual scope s.heap.objs.size f cd)
 N:=N
 s₀:=s
 H₀:=H
 env:=RQ qual scope s.heap.objs.size f cd
 outer:=outer
 stack:=RQ qual scope s.heap.objs.size f cd::outer
 ex:=[]
 calm:=false
 fn:=λ_=>true
 pn:=[]
 xe:=λe s'=>Q2 (Q7 P w) (A.deeper (RQ qual scope s.heap.objs.size f cd)) (leaving (RQ qual scope s.heap.objs.size f cd) e) (λ_ DK=>CX outer H s E e DK) (λe' DK=>CX outer H s E e' DK) s'
theorem xr {w:Rx}{cd:QG}{A:Rk}{outer:List Env}{s1:QP}{E:XK}{us:List QG}(S:aE N ps scope)(e0:zA P w K mg base A outer s H)(hl:vs.length=ps.length)(r:a8 vs us)(x:InCallC s s.heap.objs.size (bindL (RQ qual scope s.heap.objs.size f cd).kindOf (ps.zip us) λ_=>none) (cellsFrom (s.heap.objs.size+1) scope.names []) (bindC (RQ qual scope s.heap.objs.size f cd).kindOf (ps.zip us) λ_=>none) s1) :
  aG (vA CX P w K mg base N qual scope f cd A outer s H E) [] (dJ N vs) H s1:=by
 have mU:ps.length<=N.length:=by have:=congrArg List.length S.pre;rw[R0] at this;lia
 obtain⟨h1,tk,rfl,hk⟩:=x.done;have Fq:∀b:QX,b∉(vA CX P w K mg base N qual scope f cd A outer s H E).ex:=λb z=>absurd (show b∈([]:List QX) from z) (by simp);refine⟨⟨e0.mod,S.kind,rfl,rfl,QJ _,λy z c h1 h2=>?_,λy hy=>?_,λy c _ h=>?_,λz=>absurd z QA,Around.frames_deeper e0.frames,.inr ⟨rfl,rfl⟩,λb z=>absurd z (Fq b),e0.bs,e0.bsz,λb _ _=>Fq b,λb z=>absurd z (Fq b),e0.funs,e0.frf⟩,
  rfl,e0.bare,Un.kept hk,⟨_,x.toInCall.ns,λi y v h1 h2 h3=>?_⟩,λy c h=>⟨_,x.cell y c h⟩,e0.hok.fresh (QJ _),λy c h=>?_,λp hp=>absurd (show p∈([]:List (QX×Obj)) from hp) (by simp),e0.hok.kept hk,?_⟩
 ·exact name_of_addr x.apart (Q5 h1) (Q5 h2)
 ·have hy:scope.names.lookup y=some .cell\/scope.names.lookup y=some .free:=hy;rcases hy with hy|hy
  ·exact lV hy
  ·exact absurd rfl (S.nofree _ (Q5 hy))
 ·exact T6 (x.above y c (Q5 h))
 ·have hi:i<vs.length:=by
   unfold dJ at h2;by_cases hi:i<vs.length
   ·exact hi
   ·rw[RA (by simpa using hi)] at h2;rw[Tb] at h2;split at h2<;>cases h2
  have ha:vs[i]? = some v:=by
   unfold dJ at h2;rw[R7 (by simpa using hi),QV] at h2;cases e:vs[i]? with
   |none=>rw[e] at h2;cases h2
   |some a=>rw[e] at h2;cases h2;rfl
  obtain⟨u,hu,rv⟩:=r.get ha;have hp:ps[i]? = some y:=by
   rw[←S.pre,Um (by lia)];exact h1
  have Ln:ps.Nodup:=by rw[←S.pre];exact S.nd.sublist (List.take_sublist _ _)
  refine⟨u,rv,?_⟩;rcases S.par y (Rf hp) with k|k
  ·exact .inl ⟨k,m9 Ln hp hu k⟩
  ·obtain⟨c,e⟩:=lV (n:=s.heap.objs.size+1) k;refine .inr ⟨.inl k,c,e,?_⟩;have q:=x.cell y c e;rw[m_ Ln hp hu (by show scope.names.lookup y≠_;rw[k];decide)] at q;exact q
 ·exact e0.hok.fresh (T6 (x.above y c (Q5 h)))
 ·unfold dJ;show _=N.length;rw[QE,QI,SD];lia
theorem Im {w:Rx}{name:Str}{params:Arguments}{dV kV kq pm bh ct oc:QG}(lk:K.lookup f=some ⟨oc,od,.func (Rt name qual params body scope dV kV kq pm an bh ct),osl⟩)(kn:Tr K bh qual=true)(S:aE N ps scope)(len:∀vs H Q E,sp vs H Q E->vs.length=ps.length)(fE:∀(A:Rk) (outer:List Env) (s:QP) (H:Hp) (vs:List V) (Q:VK) (E:XK),gx k (A.deeper (RQ qual scope s.heap.objs.size f bh))->sp vs H Q E->
   ∃t,pj (vA CX P w K mg base N qual scope f bh A outer s H E) body t/\t {nx:=λ_ H'=>Q .non H',rt:=Q} (dJ N vs) H) :
  B4 P w K mg base CX (k+1) f (Rt name qual params body scope dV kV kq pm an bh ct) ps sp:=by
 refine⟨len,λA outer s H args us vs Q E hr e0 hb r DL=>?_⟩;have hl:=len _ _ _ _ DL;have KX:K.In s.heap:=e0.mod.kin.keeps λb o e=>(e0.bs b o e).1;have Nl:s.heap.NoLimit:=e0.mod.nolimit.keeps λb o e=>(e0.bs b o e).1;have DM:∀y∈ps.zip us,scope.names.lookup y.1=some .local\/(scope.names.lookup y.1=some .cell/\((cellsFrom (s.heap.objs.size+1) scope.names []).lookup y.1).isSome=true):=fun⟨n,v⟩ hy=>by
  rcases S.par n (SA hy).1 with q|q
  ·exact .inl q
  ·exact .inr ⟨q,Tn _ _ _ (.inl q)⟩
 refine codeAny_call_function hr.depth (KX _ _ lk) rfl S.co S.gen rfl (PySem.W.codeRec_of KX kn) (hb _ _ _ _ ?_);refine wpAny_newFunctionEnv_cells S.kind DM λenv he s1 x=>?_;subst he;refine⟨Nl.keeps x.toInCall.keep,codeAny_func ?_⟩;obtain⟨t,ht,hq⟩:=fE A outer s H vs Q E (hr.deeper _) DL;have I:aG (vA CX P w K mg base N qual scope f bh A outer s H E) [] (dJ N vs) H s1:=xr S e0 hl r x;refine Rh (ht [] s1 (dJ N vs) H _ I hq) (λfl s' hs=>?_) λe s' hs=>hs;have ko:∀{σ':St} {H':Hp} {v:V} {u:QG},aG (vA CX P w K mg base N qual scope f bh A outer s H E) [] σ' H' s'->bc v u->Q v H'->CE outer P w H s Q u s' :=
  λ{σ' H' v u} J rv q=>⟨v,H',J.os,J.bare,J.base,J.hok,rv,q⟩
 cases fl with
 |ret u=>
  obtain⟨v,σ',H',J,rv,q⟩:=hs;exact ko J rv q
 |next=>
  obtain⟨σ',H',J,q⟩:=hs;exact ko (v:=V.non) (u:=Value.none) J rfl q
 |brk=>
  obtain⟨_,_,_,q⟩:=hs;exact Ry q
 |cont=>
  obtain⟨_,_,_,q⟩:=hs;exact Ry q
def EW:V->List V->Hp->VK->Prop:=λx vs H Q=>∃a xs y,x=.ref a/\vs=[y]/\H a=some (.lst xs)/\j0 y=true/\xs.all j0=true/\Q (.int (xs.countP λz=>AK z y:Nat)) H
def EX:V->List V->Hp->VK->Prop:=λx vs H Q=>∃a xs y j,x=.ref a/\vs=[y]/\H a=some (.lst xs)/\j0 y=true/\xs.all j0=true/\j<1000/\xs[j]?.map (λz=>AK z y)=some true/\
 (∀m,m<j->xs[m]?.map (λz=>AK z y)=some false)/\Q (.int (j:Nat)) H
theorem sL:∀{xs:List V} {ay:List QG} {y:V},a8 xs ay->xs.all j0=true->ay.countP (HC y)=xs.countP λz=>AK z y
 |_,_,_,.nil,_=>rfl
 |x::xs,u::us,y,.cons r t,f=>by
  rw[Td,QU] at f;rw[List.countP_cons,List.countP_cons,sL t f.2,wV r f.1]
theorem Ag:AJ X "list.count" EW:=by
 intro pins s σ H x vs v us Q I rx rv h;obtain⟨a,xs,y,rfl,rfl,hs,fy,fx,q⟩:=h;cases rx;obtain⟨u,rfl,ru⟩:=rv.one;obtain⟨ay,n,r,ho,hz⟩:=I.lst hs;refine TL F.slot_list_count ⟨_,ho,rfl⟩ F.entry_list_count (F.args_list_count_2 _ _) (PySem.SeqAt.list_countAt a ay.toArray n none (List.toArray []) u (HC y)) ⟨ho,λw' hw=>p5 ru fy r fx w' (by simpa using hw),?_⟩;have e:ay.toArray.toList.countP (HC y)=xs.countP λz=>AK z y:=by rw[List.toList_toArray];exact sL r fx
 rw[e];exact⟨.int _,H,I.tok _,⟨_,rfl⟩,q⟩
theorem Ah:AJ X "list.index" EX:=by
 intro pins s σ H x vs v us Q I rx rv h;obtain⟨a,xs,y,j,rfl,rfl,hs,fy,fx,jl,hj,Nn,q⟩:=h;cases rx;obtain⟨u,rfl,ru⟩:=rv.one;obtain⟨ay,n,r,ho,hz⟩:=I.lst hs;have get:∀{m:Nat} {b:Bool},xs[m]?.map (λz=>AK z y)=some b->∃hm:m<ay.toArray.size,HC y ay.toArray[m]=b:=λ{m b} e=>by
  cases hx:xs[m]? with
  |none=>rw[hx] at e;cases e
  |some z=>
   rw[hx] at e;obtain⟨w',e1,e2⟩:=r.get hx;obtain⟨hm,e3⟩:=QH.mp e1;refine⟨by simpa using hm,?_⟩;have fz:j0 z=true:=Ri.mp fx z (Rf hx);have:ay.toArray[m]=w':=by simpa using e3
   rw[this,wV e2 fz];exact Q0 e
 obtain⟨hm,hit⟩:=get hj;refine TL F.slot_list_index ⟨_,ho,rfl⟩ F.entry_list_index (F.args_list_index_2 _ _) (PySem.SeqAt.list_indexAt a ay.toArray n none (List.toArray []) u (HC y) j hm (by lia) hit λm Qv uX=>(get (Nn m uX)).2) ⟨ho,λw' hw=>p5 ru fy r fx w' (by simpa using hw),?_⟩;exact⟨.int j,H,I.tok _,⟨_,rfl⟩,q⟩
noncomputable def Ai (ea C:QX):HO:=.ext (mn ea C)
theorem EY {w:Rx}{ea:QX}(x:mn ea C h):bU P w H h ea (Ai ea C):=by
 obtain⟨ox,e,c⟩:=id x;exact⟨x,⟨ox,e⟩,λh1 h2 ⟨o,e1,c1⟩ k=>⟨o,k o e1,c1⟩⟩
section
variable {ea:QX}
def Io (ea C:QX)(D:V)(b:Bool):List V->Hp->VK->Prop:=λxs H Q=>xs=[.ref ea,D]/\H ea=some (Ai ea C)/\Q (.bl b) H
theorem qu {D:V}{d:QG}{b:Bool}(h:rQ X.K C)(rd:∀u,bc D u->u=d)(e:RG X.K (.ref C) d=some b):fj X (.builtin "isinstance") (Io ea C D b):=by
 intro pins s σ H xs us Q I r q;obtain⟨rfl,hx,q⟩:=q;obtain⟨u,w',rfl,rx,rt⟩:=xZ r;cases rx;rw[rd _ rt];obtain⟨at1,_⟩:=(show bU X.prog X.w H s.heap ea (Ai ea C) from I.hok ea _ hx);exact Rr (B2 h) I.kIn at1 e (λz=>nomatch z) λtk=>⟨.bl b,H,I.tok tk,rfl,q⟩
end
end L2
end
section
set_option maxHeartbeats 400000
namespace L2
open PySem PySem.Spec PyProof.Rows PySem.W
theorem B5 {w:Rx}(x:bU P w H h a o):∃ob,h.get? a=some ob:=by
 cases o with
 |lst xs=>obtain⟨_,_,_,_,e⟩:=x;exact⟨_,e⟩
 |tup xs=>obtain⟨_,_,_,_,_,e⟩:=x;exact⟨_,e⟩
 |dK bA=>obtain⟨_,_,_,_,o,_,_,e,_⟩:=x;exact⟨_,e⟩
 |dT bA=>obtain⟨_,_,_,_,o,_,_,e,_⟩:=x;exact⟨_,e⟩
 |set S n=>obtain⟨o,_,_,_,e,_⟩:=x;exact⟨_,e⟩
 |ins C dx fs=>obtain⟨_,_,_,e,_⟩:=x;exact⟨_,e⟩
 |own y=>exact x
 |xd fs=>obtain⟨_,⟨_,_,_,e,_⟩,_⟩:=x;exact⟨_,e⟩
 |rng lo hi=>obtain⟨_,_,_,e⟩:=x;exact⟨_,e⟩
 |frz ob u=>obtain⟨e,_⟩:=x;exact⟨_,e⟩
 |tbl ps=>exact⟨_,(show h.get? a=some _ from x)⟩
 |met f y=>exact⟨_,(show h.get? a=some _ from x)⟩
 |ext φ=>obtain⟨_,e,_⟩:=x;exact e
section
variable {s1:QP}{ea:QX}
theorem aG.track (I0:aG X pins σ H s)(n0:s.heap.get? ea=none)(I:aG X pins σ H1 s1)(n1:H1 ea=none)(x:bU X.prog X.w (cE H1 ea o) s1.heap ea o):aG X pins σ (cE H1 ea o) s1:=by
 have ne:∀b ob,s.heap.get? b=some ob->b≠ea:=λb ob e z=>by rw[z,n0] at e;cases e
 have Pt:∀b ob,X.s₀.heap.get? b=some ob->b∉X.ex->b≠ea:=λb ob e hx=>by
  obtain⟨o',e'⟩:=I0.base.there b ob e hx;exact ne b o' e'
 have LF:∀{b u},H1 b=some u->b≠ea:=λ{b u} e z=>by rw[z,n1] at e;cases e
 refine⟨I.ok,I.os,I.bare,⟨I.base.keep,I.base.slot,λb ob e n hx=>?_,I.base.there,λb xs e=>?_,λb ob u e=>?_,λb ps e=>?_⟩,I.loc,I.cell,?_,λy c e=>?_,λp hp=>?_,λb u e=>?_,I.len⟩
 ·rw[aL (Pt b ob e hx)];exact I.base.free b ob e n hx
 ·have q:=I.base.tups b xs e;rw[aL (LF q)];exact q
 ·have q:=I.base.frzs b ob u e;rw[aL (LF q)];exact q
 ·obtain⟨m,q⟩:=I.base.tbls b ps e;exact⟨m,by rw[aL (LF q)];exact q⟩
 ·obtain⟨m,⟨oL,_,_,hL,_⟩,_⟩:=I0.loc;rw[aL (ne _ _ hL)];exact I.free
 ·obtain⟨v,oc,hc,_⟩:=I0.cell y c e;rw[aL (ne _ _ hc)];exact I.freeC y c e
 ·obtain⟨e,n,r⟩:=I.pin p hp;have e0:=(I0.pin p hp).1;exact⟨e,by rw[aL (ne _ _ e0)];exact n,r⟩
 ·by_cases hb:b=ea
  ·subst hb;rw[aT] at e;cases e;exact x
  ·rw[aL hb] at e;exact (I.hok b u e).stay (λc v _ q=>q) (λc q=>by rw[aL (LF q)];exact q) λc xs q=>by rw[aL (LF q)];exact q
theorem pH {A:Rk}{Q:Unit->QP->Prop}(I:aG X pins σ H s)(hN:X.N.Nodup)(hi:X.N[i]? = some x)(hk:X.env.kindOf x=some .local)(h:∀s',aG X pins (σ.set i none) H s'->Q () s'):Q2 M A (do bindName X.env x .none;unbindBehindTheSuite X.env x pos) Q E s:=by
 obtain⟨m,hn,hl⟩:=id I.loc;have I_:(X.env.scope.kind==.class||(X.env.scope.kind==.module&&X.env.locals != X.env.globals))=false:=by rw[I.ok.kind];rfl
 have Mb:i<σ.length:=by rw[I.len];exact (QH.mp hi).1
 obtain⟨oL,_,_,Mg,_⟩:=id hn;refine wpAny_nameGoes_keeps hk hn I_ λh' v Ni hs=>h _ ?_;have Fp:∀b ob,X.s₀.heap.get? b=some ob->b≠X.env.locals:=λb ob e=>Q_ (Q3 (QO e) I.ok.above);refine⟨I.ok,I.os,I.bare,⟨λb ob e n hb hx=>(hs.2 b (Fp b ob e)).trans (I.base.keep b ob e n hb hx),λb ob e n hb hx=>?_,I.base.free,λb ob e hx=>?_,I.base.tups,I.base.frzs,I.base.tbls⟩,⟨_,Ni,λj y w e1 e2 e3=>?_⟩,λy c e=>?_,I.free,I.freeC,λp hp=>?_,?_,by simpa using I.len⟩
 ·obtain⟨sl,q⟩:=I.base.slot b ob e n hb hx;exact⟨sl,(hs.2 b (Fp b ob e)).trans q⟩
 ·obtain⟨o',q⟩:=I.base.there b ob e hx;exact⟨o',(hs.2 b (Fp b ob e)).trans q⟩
 ·have hj:j≠i:=λz=>by
   subst z;rw[RY Mb] at e2;cases e2
  rw[QY (Ne.symm hj)] at e2;obtain⟨u,r,q⟩:=hl j y w e1 e2 e3;refine⟨u,r,?_⟩;rcases q with⟨k,e⟩|⟨k,c,e,z⟩
  ·have ny:y≠x:=λe=>hj (pU hN e1 (e▸hi));exact .inl ⟨k,by simp[ny,e]⟩
  ·exact .inr ⟨k,c,e,z.sameBut hs (I.cne y c e)⟩
 ·obtain⟨v',z⟩:=I.cell y c e;exact⟨v',z.sameBut hs (I.cne y c e)⟩
 ·obtain⟨e,n,ne,nf,d⟩:=I.pin p hp;exact⟨(hs.2 p.1 ne).trans e,n,ne,nf,d⟩
 ·exact I.hok.keptT λb u ob e q=>(hs.2 b λz=>by rw[z,I.free] at e;cases e).trans q
noncomputable abbrev Cx.hand (X:Cx)(e:QG):Cx:={X with A:=X.A.mark (some e),calm:=false,xe:=λ_ _=>False}
theorem aG.hand (I:aG X pins σ H s)(e:QG):aG (X.hand e) pins σ H s:=
 ⟨⟨I.ok.mod,I.ok.kind,I.ok.glob,I.ok.blt,I.ok.above,I.ok.inj,I.ok.has,I.ok.cab,λz=>absurd z QA,I.ok.frames,I.ok.stk,I.ok.exf,I.ok.bs,I.ok.bsz,I.ok.noex,I.ok.exfs,I.ok.funs,I.ok.frf⟩,I.os,I.bare,I.base,I.loc,I.cell,I.free,I.freeC,I.pin,I.hok,I.len⟩
theorem aG.unhand {e:QG}(I0:X.Ok)(I:aG (X.hand e) pins σ H s):aG X pins σ H s:=⟨I0,I.os,I.bare,I.base,I.loc,I.cell,I.free,I.freeC,I.pin,I.hok,I.len⟩
theorem vB {p:Pos}{a:RP}{t:TA}{e:QG}(F:B4 X.prog X.w X.K X.mg X.base tM k f fd ps sp)(hr:gx k (X.A.mark (some e)))(hm:X.mg x=some (.ref f))(hk:Rv X.K (.ref f)=true)(hb:jH X.K fd ps [])(ha:PA (X.hand e) [a] t)(hg:Gl (X.hand e) x:=by rfl)(uN:(x==("__debug__":Str))=false:=by decide)(he:QK [a] X.env=(false,Sv a X.env)::QK [] X.env:=by rfl)(mU:(Sd pos (QK [] X.env)).any (·.1)=false:=by rfl) :
  PE (X.hand e) (.Call (.Name x p) [a] [] pos) (Ba sp [] E0 t):=by
 intro pins s σ H Q I h;refine Ss (kE I hg hm ?_ uN);refine T9 (h₀:=X.base) I.ok.mod.kin hk (dy (ha pos pins s σ H _ I h) λus s1 ⟨vs,H1,I1,r,q⟩=>⟨I1.kIn,?_⟩) he mU;have q:sp (vs++[]) H1 Q E0:=q;rw[Q1] at q;have hl:us.length=ps.length:=by rw[←r.length];exact F.len _ _ _ _ q
 have NI:BindsTo s1 fd ⟨us,[]⟩ (ps.zip us):=by
  have z:=hb s1 us I1.kIn (by rw[Q1];exact hl);rw[Q1] at z;exact z
 refine wpAny_call (Tt (F.run (X.A.mark (some e)) X.stack s1 H1 ⟨us,[]⟩ us vs Q E0 hr I1.env0 NI r q) λr s' hq=>?_);cases r with
 |error e=>exact Ry hq
 |ok fl=>
  cases fl with
  |ret u=>exact I1.after hq
  |next=>exact Ry hq
  |brk=>exact Ry hq
  |cont=>exact Ry hq
end
noncomputable def KC (D:lu)(i:Nat):lu:={nx:=λσ H=>D.nx (σ.set i none) H,rt:=D.rt,bk:=λσ H=>D.bk (σ.set i none) H,ct:=λσ H=>D.ct (σ.set i none) H}
def XE (C:QX)(i:Nat)(th:TS)(D:lu)(σ:St):XK:=λ_ _ H2=>∀ea,H2 ea=none->th (KC D i) (σ.set i (some (.ref ea))) (cE H2 ea (Ai ea C))
section
variable {cc:QX}{g cn n:Str}{p cp rp np hpos:Pos}{a:RP}{as:List RP}{b0:Si}{suite:List Si}{ta:TA}{th:TS}
theorem EZ {h0:ExceptHandler}{hs:List ExceptHandler}(hb:pj X.nox body tb):PS X (.Try body (h0::hs) [] [] pos) tb:=by
 intro pins s σ H D I h;refine wpAny_Try_except (Rh (hb pins s σ H D (I.wish _) h) (λfl s1 q=>?_) λ_ _ z=>z.elim);cases fl with
 |next=>exact Ta q.unwish
 |brk=>exact q.unwish
 |cont=>exact q.unwish
 |ret u=>exact q.unwish
end
end L2
end
section
set_option maxHeartbeats 400000
namespace L2
open PySem PySem.Spec PyProof.Rows PySem.W
theorem Iq {K:Frag}{b:QG}{r:Bool}(h:mroIn K C b=some r):(clsIn K C).isSome=true:=by
 unfold mroIn at h;cases e:clsIn K C with
 |none=>rw[e] at h;cases h
 |some cd=>rfl
structure Aj (K:Frag)(mg:Str->Option QG)(C:QX)(x:Str)(ms:List (Str×Bool)):Prop where
 cls:mg x=some (.ref C)
 exc:excIn K C yw "ValueError.__new__"=true
 ec:rQ K C
 card:∃c,mg "CardError"=some (.ref c)/\exmOne K (.ref C) (.ref c)=some true
 ve:kitOne K (.ref C) (.type "ValueError")=some true
 zve:mg "ValueError"=none
 marks:∀p∈ms,∃c,mg p.1=some (.ref c)/\kitOne K (.ref C) (.ref c)=some p.2
def M4 (K:Frag)(n:Nat)(C:QX)(p:List U->Prop):Sp:=λvs H _ E=>∃us A,aR K H A us vs/\(∀a,A a->Mu (H a))/\us.length=n/\p us/\∀H',aI H H'->E (.ref C) none H'
def Ir (C:QX)(word:Str):Sp:=λvs H Q _=>∃ea,vs=[.ref ea]/\H ea=some (Ai ea C)/\∀H',aI H H'->Q (.str word) H'
theorem Ak {K:Frag}{A0:QX->Prop}(r:aR K H A0 us vs)(mu:∀a,A0 a->Mu (H a))(zd:G.io=false)(ku:∀i,i<us.length->G.is i=false):cZ K G ⟨A0,H,0⟩ A0 (bu N.length us) (dJ N vs) H where
 slot:=λi u hu=>by
  have hu:=jm hu;obtain⟨v,h1,h2⟩:=r.get hu;refine⟨v,i5 h1,?_⟩;rw[hU (by rw[ku i (QH.mp hu).1];exact QA)];exact h2
 dis:=λi j u w a ci cj ne hi hj si sj=>by
  rw[ku i (QH.mp (jm hi)).1] at ci;cases ci
 mu:=mu
 sup:=λa h=>h
 out:=λa h=>.inl h
 bas:=λa o h=>h
 io0:=λh=>by rw[zd] at h;cases h
 len:=tW r.length
theorem aI.updN (h:aI H H')(n:H' a=none):aI H (cE H' a o):=λb ob e=>by
 have q:=h b ob e;rw[aL (bz q n)];exact q
section
variable {ea:QX}{y:Str}{b:Bool}{p1 p2 p3:Pos}
def B6 (i:Nat)(C:QX)(b:Bool):TE:=λσ H Q=>∃ea,σ[i]? = some (some (.ref ea))/\H ea=some (Ai ea C)/\Q (.bl b) H
theorem g9 (h:rQ X.K C)(zi:X.mg "isinstance"=none)(hc:∃c,X.mg y=some (.ref c)/\kitOne X.K (.ref C) (.ref c)=some b)(hN:X.N[i]? = some x:=by rfl)(hv:zk X.env.scope x:=by first|exact Or.inl rfl|exact Or.inr (Or.inl rfl)|exact Or.inr (Or.inr rfl))(hg:Gl X "isinstance":=by rfl)(hy:Gl X y:=by rfl)
  (hd:(x==("__debug__":Str))=false:=by decide) (kn:(x==("__classdict__":Str))=false:=by decide) (Jt:(y==("__debug__":Str))=false:=by decide)
  (hs:QK [.Name x p2,.Name y p3] X.env=(false,Sv (.Name x p2) X.env)::QK [.Name y p3] X.env:=by rfl) (cv:QK [.Name y p3] X.env=(false,Sv (.Name y p3) X.env)::QK [] X.env:=by rfl)
  (mU:(Sd pos (QK [.Name y p3] X.env)).any (·.1)=false:=by rfl):PE X (.Call (.Name "isinstance" p1) [.Name x p2,.Name y p3] [] pos) (B6 i C b):=by
 obtain⟨c,hm,hk⟩:=hc;intro pins s σ H Q I hq;obtain⟨ea,e1,e2,q⟩:=hq;exact lW (qu (ea:=ea) (D:=.ref c) h (λu hu=>hu) hk) hg zi iT (aO (iR hN hv hd kn) (aO (xV (v:=.ref c) hy hm rfl Jt) c9 cv) hs) (by decide) (by decide) hs mU pins s σ H Q I ⟨_,e1,rfl,e2,q⟩
theorem B7 (h:rQ X.K C)(zi:X.mg "isinstance"=none)(zv:X.mg "ValueError"=none)(hk:kitOne X.K (.ref C) (.type "ValueError")=some b)(hN:X.N[i]? = some x:=by rfl)(hv:zk X.env.scope x:=by first|exact Or.inl rfl|exact Or.inr (Or.inl rfl)|exact Or.inr (Or.inr rfl))(hg:Gl X "isinstance":=by rfl)(hy:Gl X "ValueError":=by rfl)
  (hd:(x==("__debug__":Str))=false:=by decide) (kn:(x==("__classdict__":Str))=false:=by decide)
  (hs:QK [.Name x p2,.Name "ValueError" p3] X.env=(false,Sv (.Name x p2) X.env)::QK [.Name "ValueError" p3] X.env:=by rfl) (cv:QK [.Name "ValueError" p3] X.env=(false,Sv (.Name "ValueError" p3) X.env)::QK [] X.env:=by rfl)
  (mU:(Sd pos (QK [.Name "ValueError" p3] X.env)).any (·.1)=false:=by rfl):PE X (.Call (.Name "isinstance" p1) [.Name x p2,.Name "ValueError" p3] [] pos) (B6 i C b):=by
 intro pins s σ H Q I hq;obtain⟨ea,e1,e2,q⟩:=hq;have bt:Ra "ValueError"=some (.type "ValueError"):=by decide+kernel
 exact lW (qu (ea:=ea) (D:=.ty "ValueError") h (λu hu=>hu) hk) hg zi iT (aO (iR hN hv hd kn) (aO (xW (v:=.ty "ValueError") hy zv bt rfl (by decide) (by decide)) c9 cv) hs) (by decide) (by decide) hs mU pins s σ H Q I ⟨_,e1,rfl,e2,q⟩
end
theorem E1 {m:Md}{h0:ExceptHandler}{hs:List ExceptHandler}{g:Ev->SR}(h:vi X.nox G m body g):DS X G m (.Try body (h0::hs) [] [] pos) g:=⟨EZ h.un⟩
end L2
end
namespace L2
theorem nr {α:Sort _}{a b:α}(h:a=b):a=b:=h
noncomputable def look (o:Option (Option U))(ρ:Ev):R (U×Ev):=match o with
 |some (some u)=>.ok (u,ρ)
 |_=>.stk
noncomputable def N1 (u:U)(ρ:Ev):R (Bool×Ev):=match u with
 | .bl c=>.ok (c,ρ)
 |_=>.stk
noncomputable def L8 (o:Option U):R U:=match o with
 |some u=>.ok u
 |none=>.stk
noncomputable def SR.seq (r:SR)(g:Ev->SR):SR:=match r with
 | .nx ρ=>g ρ
 |r=>r
noncomputable def SR.turn (r:SR)(g:Ev->SR):SR:=match r with
 | .nx ρ=>g ρ
 | .ct ρ=>g ρ
 | .bk ρ=>.nx ρ
 |r=>r
noncomputable def KD (m:Md)(r:SR):R U:=match r with
 | .rt u _=>.ok u
 | .nx _=>if m=.S then .ok .non else .stk
 | .exc c u=>.exc c u
 |_=>.stk
noncomputable def io0 (u:U)(o:Option (Option U)):R (U×U):=match o with
 |some (some w)=>.ok (u,w)
 |_=>.stk
noncomputable def Iu (r:SR):R (U×U):=match r with
 | .rt u ρ=>io0 u ρ[0]?
 | .nx ρ=>io0 .non ρ[0]?
 | .exc c u=>.exc c u
 |_=>.stk
section
variable {u w:U}{α β:Type}{g g1 g2 g3:Ev->R (U×Ev)}{h h1 h2:Ev->R (Bool×Ev)}{s s1 s2:Ev->SR}{ga:Ev->R (List U×Ev)}{m:Md}
theorem FK:ag i ρ=look ρ[i]? ρ:=nr rfl
theorem B8:look (some (some u)) ρ=.ok (u,ρ):=nr rfl
theorem N2:gC u ρ=.ok (u,ρ):=nr rfl
theorem xt {a:α}{f:α->R β}:(R.ok a).bind f=f a:=nr rfl
theorem FN {f:α->R β}:(R.stk:R α).bind f=.stk:=nr rfl
theorem B9 {a:α}{f:α->SR}:SR.of (R.ok a) f=f a:=nr rfl
theorem KG {p:U->U->R U}:aF p g1 g2 ρ=(g1 ρ).bind λx=>(g2 x.2).bind λy=>(p x.1 y.1).bind λz=>.ok (z,y.2):=nr rfl
theorem N3:gB g ρ=(g ρ).bind λx=>N1 x.1 x.2:=nr rfl
theorem FO {c:Bool}:N1 (.bl c) ρ=.ok (c,ρ):=nr rfl
theorem B_:zK h1 h2 ρ=(h1 ρ).bind λx=>if x.1=true then h2 x.2 else .ok (false,x.2):=nr rfl
theorem FP:yd h1 h2 ρ=(h1 ρ).bind λx=>if x.1=true then .ok (true,x.2) else h2 x.2:=nr rfl
theorem Ca:jT h ρ=(h ρ).bind λx=>.ok (!x.1,x.2):=nr rfl
theorem FQ:qe g1 g2 ρ=(gB g1 ρ).bind λx=>if x.1=true then g2 x.2 else .ok (.bl false,x.2):=nr rfl
theorem KI:OP g1 g2 ρ=(gB g1 ρ).bind λx=>if x.1=true then .ok (.bl true,x.2) else g2 x.2:=nr rfl
theorem FR:BF g ρ=(gB g ρ).bind λx=>.ok (.bl (!x.1),x.2):=nr rfl
theorem KJ:FG h g1 g2 ρ=(h ρ).bind λx=>if x.1=true then g1 x.2 else g2 x.2:=nr rfl
noncomputable def N4 (p':U->U->R U)(g3:Ev->R (U×Ev))(y:U×Ev)(z:U):R (U×Ev):=match z with
 | .bl k=>if k=true then (g3 y.2).bind λw=>(p' y.1 w.1).bind λz'=>.ok (z',w.2) else .ok (.bl false,y.2)
 |_=>.stk
theorem yx {p p':U->U->R U}:tT p p' g1 g2 g3 ρ=(g1 ρ).bind λx=>(g2 x.2).bind λy=>(p x.1 y.1).bind λz=>N4 p' g3 y z:=nr rfl
theorem FT {p':U->U->R U}{y:U×Ev}{k:Bool}:N4 p' g3 y (.bl k)=if k=true then (g3 y.2).bind λw=>(p' y.1 w.1).bind λz'=>.ok (z',w.2) else .ok (.bl false,y.2):=nr rfl
theorem KL {p:U->R U}:xh p g ρ=(g ρ).bind λx=>(p x.1).bind λz=>.ok (z,x.2):=nr rfl
theorem Cb:ak ρ=.ok ([],ρ):=nr rfl
theorem yy:ae g ga ρ=(g ρ).bind λx=>(ga x.2).bind λy=>.ok (x.1::y.1,y.2):=nr rfl
theorem Cc:a4 ga ρ=(ga ρ).bind λx=>if x.1.length<=QC then .ok (.tup x.1,x.2) else .stk:=nr rfl
theorem Cd:bF ga ρ=(ga ρ).bind λx=>if x.1.length<=QC then .ok (.lst x.1,x.2) else .stk:=nr rfl
theorem KN {p:List U->R U}:gb p ga ρ=(ga ρ).bind λx=>(p x.1).bind λz=>.ok (z,x.2):=nr rfl
theorem KO {f:List U->R U}:dz n f ga ρ=(ga ρ).bind λx=>(uW n f x.1).bind λz=>.ok (z,x.2):=nr rfl
theorem FU {f:List U->R α}(h:us.length=n):uW n f us=f us:=hV h
noncomputable def N5 (n:Nat)(f:List U->R (U×U))(us:List U)(i:Nat)(ρ:Ev)(o:Option (Option U)):R (U×Ev):=match o with
 |some (some u0)=>(uW n f (u0::us)).bind λz=>.ok (z.1,ρ.set i (some z.2))
 |_=>.stk
theorem FV {f:List U->R (U×U)}:N5 n f us i ρ (some (some u))=(uW n f (u::us)).bind λz=>.ok (z.1,ρ.set i (some z.2)):=nr rfl
noncomputable def yz (o:Option (Option U)):Bool:=match o with
 |some (some _)=>true
 |_=>false
theorem yA:yz (some (some u))=true:=nr rfl
theorem KP {f:List U->R (U×U)}:nq n i f ga ρ=if yz ρ[i]? = true then (ga ρ).bind λx=>N5 n f x.1 i x.2 x.2[i]? else .stk:=nr rfl
noncomputable def M5 (i:Nat)(p:U->List U->R (U×U))(us:List U)(ρ:Ev)(o:Option (Option U)):R (U×Ev):=match o with
 |some (some u0)=>(p u0 us).bind λz=>.ok (z.1,ρ.set i (some z.2))
 |_=>.stk
theorem FW {p:U->List U->R (U×U)}:M5 i p us ρ (some (some u))=(p u us).bind λz=>.ok (z.1,ρ.set i (some z.2)):=nr rfl
noncomputable def N6 (T:String)(i:Nat)(p:U->List U->R (U×U))(ga:Ev->R (List U×Ev))(ρ:Ev)(o:Option (Option U)):R (U×Ev):=match o with
 |some (some u1)=>if zM u1 T=true then (ga ρ).bind λx=>M5 i p x.1 x.2 x.2[i]? else .stk
 |_=>.stk
theorem FY {T:String}{p:U->List U->R (U×U)}:N6 T i p ga ρ (some (some u))=if zM u T=true then (ga ρ).bind λx=>M5 i p x.1 x.2 x.2[i]? else .stk:=nr rfl
theorem N7 {T:String}{p:U->List U->R (U×U)}:gM T i p ga ρ=N6 T i p ga ρ ρ[i]? := nr rfl
theorem Ce:zM (.lst us) "list"=true:=nr rfl
theorem yB:dN ρ=.ok (none,ρ):=nr rfl
noncomputable def N8 (u:U)(ρ:Ev):R (Option Int×Ev):=match u with
 | .int i=>.ok (some i,ρ)
 |_=>.stk
theorem FZ {k:Int}:N8 (.int k) ρ=.ok (some k,ρ):=nr rfl
theorem yC:dE g ρ=(g ρ).bind λx=>N8 x.1 x.2:=nr rfl
theorem KQ {p:U->Option Int->Option Int->R U}{lo hi:Ev->R (Option Int×Ev)}:qg p g lo hi ρ=(g ρ).bind λx=>(lo x.2).bind λl=>(hi l.2).bind λh=>(p x.1 l.1 h.1).bind λz=>.ok (z,h.2):=nr rfl
noncomputable def iL (T:String)(u:U)(ρ:Ev):R (U×Ev):=if JE u="script" then .stk else .ok (.bl (iD (JE u) T),ρ)
theorem Cf {T:String}:gw T g ρ=(g ρ).bind λx=>iL T x.1 x.2:=nr rfl
theorem Cg:bf ρ=.nx ρ:=nr rfl
theorem yD:HX ρ=.bk ρ:=nr rfl
theorem Ci:Kt ρ=.ct ρ:=nr rfl
theorem F0:az s1 s2 ρ=(s1 ρ).seq s2:=nr rfl
theorem Cj:(SR.nx ρ).seq s=s ρ:=nr rfl
theorem Ck:(SR.rt u ρ).seq s=.rt u ρ:=nr rfl
theorem Cm:(SR.bk ρ).seq s=.bk ρ:=nr rfl
theorem Co:(SR.ct ρ).seq s=.ct ρ:=nr rfl
theorem Cp:k8 g ρ=SR.of (g ρ) λx=>.nx x.2:=nr rfl
theorem F4:a6 g ρ=SR.of (g ρ) λx=>.rt x.1 x.2:=nr rfl
theorem F5:a_ i g ρ=SR.of (g ρ) λx=>.nx (x.2.set i (some x.1)):=nr rfl
theorem F6 {sg:U->Ev->R Ev}:MU sg g ρ=SR.of (g ρ) λx=>SR.of (sg x.1 x.2) .nx:=nr rfl
theorem F7:gH h s1 s2 ρ=SR.of (h ρ) λx=>if x.1=true then s1 x.2 else s2 x.2:=nr rfl
noncomputable def N9 (i j:Nat)(ρ:Ev)(o:Option (Option U)):SR:=match o with
 |some (some u)=>.nx ((ρ.set j none).set i (some u))
 |_=>.stk
theorem Cq:Ku i j ρ=N9 i j ρ ρ[j]? := nr rfl
theorem F8:N9 i j ρ (some (some u))=.nx ((ρ.set j none).set i (some u)):=nr rfl
noncomputable def KR (i j:Nat)(us:List U)(ρ:Ev):SR:=match us with
 | [u,w]=>.nx ((ρ.set i (some u)).set j (some w))
 |_=>.stk
theorem F9:MV i j ga ρ=SR.of (ga ρ) λx=>KR i j x.1 x.2:=nr rfl
theorem Cr:KR i j [u,w] ρ=.nx ((ρ.set i (some u)).set j (some w)):=nr rfl
noncomputable def KS (i:Nat)(v k:U)(ρ:Ev)(o:Option (Option U)):SR:=match k with
 | .int k=>match o with
  |some (some (.lst us))=>match tG us.length k with
   |some j=>.nx (ρ.set i (some (.lst (us.set j v))))
   |none=>.stk
  |_=>.stk
 |_=>.stk
theorem Cs:qp i g1 g2 ρ=SR.of (g1 ρ) λx=>if yz x.2[i]? = true then SR.of (g2 x.2) λy=>KS i x.1 y.1 y.2 y.2[i]? else .stk:=nr rfl
theorem F_ {k:Int}(h:tG us.length k=some j):KS i w (.int k) ρ (some (some (.lst us)))=.nx (ρ.set i (some (.lst (us.set j w)))):=by
 unfold KS;dsimp only;rw[h]
noncomputable def KU (i:Nat)(p:U->U->R U)(g:Ev->R (U×Ev))(ρ:Ev)(o:Option (Option U)):SR:=match o with
 |some (some u)=>SR.of (g ρ) λy=>SR.of (p u y.1) λz=>.nx (y.2.set i (some z))
 |_=>.stk
theorem Ga {p:U->U->R U}:BP i p g ρ=KU i p g ρ ρ[i]? := nr rfl
theorem Ct {p:U->U->R U}:KU i p g ρ (some (some u))=SR.of (g ρ) λy=>SR.of (p u y.1) λz=>.nx (y.2.set i (some z)):=nr rfl
theorem Gb {gi:Ev->R (List U×Ev)}{sg:U->Ev->R Ev}:kX gi sg s ρ=SR.of (gi ρ) λx=>fq sg s x.1 x.2:=nr rfl
theorem yE {sg:U->Ev->R Ev}:fq sg s [] ρ=.nx ρ:=nr rfl
theorem mq:fq sg s (u::us) ρ=SR.of (sg u ρ) λρ1=>(s ρ1).turn (fq sg s us):=nr rfl
theorem yF:(SR.nx ρ).turn s=s ρ:=nr rfl
theorem yG:(SR.ct ρ).turn s=s ρ:=nr rfl
theorem yH:(SR.bk ρ).turn s=.nx ρ:=nr rfl
theorem yI:(SR.rt u ρ).turn s=.rt u ρ:=nr rfl
theorem yJ:gI h s (n+1) ρ=SR.of (h ρ) λx=>if x.1=true then (s x.2).turn (gI h s n) else .nx x.2:=nr rfl
noncomputable def E2 (u:U)(ρ:Ev):R (List U×Ev):=match u with
 | .lst us=>.ok (us,ρ)
 | .tup us=>.ok (us,ρ)
 | .scr us=>.ok (us,ρ)
 |_=>.stk
theorem Cu:gO g ρ=(g ρ).bind λx=>E2 x.1 x.2:=nr rfl
theorem Cv:E2 (.lst us) ρ=.ok (us,ρ):=nr rfl
theorem Cw:E2 (.tup us) ρ=.ok (us,ρ):=nr rfl
theorem Cy:E2 (.scr us) ρ=.ok (us,ρ):=nr rfl
noncomputable def Iv (us:List U)(ρ:Ev):R (List U×Ev):=match us with
 | [.int j]=>if -1000000<=j/\j<=1000000 then .ok (b6 0 j.toNat,ρ) else .stk
 |_=>.stk
theorem Cz:l7 ga ρ=(ga ρ).bind λx=>Iv x.1 x.2:=nr rfl
theorem Iw {k:Int}:Iv [.int k] ρ=if -1000000<=k/\k<=1000000 then .ok (b6 0 k.toNat,ρ) else .stk:=nr rfl
noncomputable def yK (us:List U)(ρ:Ev):R (U×Ev):=match us with
 | [.int j]=>if xn 0 j=true then .ok (.lst (b6 0 (j-0).toNat),ρ) else .stk
 |_=>.stk
noncomputable def KW (us:List U)(ρ:Ev):R (U×Ev):=match us with
 | [.int j]=>if xn 0 j=true then .ok (.tup (b6 0 (j-0).toNat),ρ) else .stk
 |_=>.stk
theorem CA:oj ga ρ=(ga ρ).bind λx=>yK x.1 x.2:=nr rfl
theorem CB:KA ga ρ=(ga ρ).bind λx=>KW x.1 x.2:=nr rfl
theorem KY {k:Int}(h0:0<=k)(h1:k<=1000000):xn 0 k=true:=by
 unfold xn;simp only[QU,decide_eq_true_eq];lia
theorem mw (n:Nat)(h:n<=1000000):yK [.int n] ρ=.ok (.lst (b6 0 n),ρ):=by
 unfold yK;dsimp only;rw[hV (KY (by lia) (by lia)),show ((n:Int)-0).toNat=n by lia]
theorem ue (n:Nat)(h:n<=1000000):Iv [.int n] ρ=.ok (b6 0 n,ρ):=by
 rw[Iw,hV (by lia)];rfl
theorem Gd {gi:Ev->R (List U×Ev)}{js:List (Option Nat)}{sg:U->Ev->R Ev}:jk gi js sg h g ρ=(gi ρ).bind λx=>(md (zO js sg h g x.2) x.1).bind λys=>.ok (.lst ys,x.2):=nr rfl
theorem Ge {G:Gm}{gi:Ev->R (List U×Ev)}{js:List (Option Nat)}{sg:U->Ev->R Ev}:EM G gi js sg h g ρ=(gi ρ).bind λx=>(o6 G js sg h g x.1 x.2).bind λy=>.ok (.lst y.1,y.2):=nr rfl
theorem Gf {js:List (Option Nat)}{sg:U->Ev->R Ev}:zO js sg h g ρ u=(sg u (jj js ρ)).bind λρi=>(h ρi).bind λc=>if c.1=true then (g ρi).bind λy=>.ok (some y.1) else .ok none:=nr rfl
theorem CC {G:Gm}{js:List (Option Nat)}{sg:U->Ev->R Ev}:o6 G js sg h g [] ρ=.ok ([],ρ):=nr rfl
theorem Iy:o6 G js sg h g (u::us) ρ=(sg u (jj js ρ)).bind λρi=>(h ρi).bind λc=>if c.1=true then (g c.2).bind λy=>(o6 G js sg h g us (wb G js y.2 ρ)).bind λr=>.ok (y.1::r.1,r.2) else o6 G js sg h g us (wb G js c.2 ρ):=nr rfl
theorem CD:jU ρ=.ok (true,ρ):=nr rfl
theorem Gg:fh i u ρ=.ok (ρ.set i (some u)):=nr rfl
theorem KZ:OT ρ=.ok (.dct [] [],ρ):=nr rfl
theorem CF:bE m n s us=KD m (s (bu n us)):=nr rfl
theorem yL:KD m (.rt u ρ)=.ok u:=nr rfl
theorem CH:qm n s us=Iu (s (bu n us)):=nr rfl
theorem yM:Iu (.rt u ρ)=io0 u ρ[0]? := nr rfl
theorem Gh:io0 u (some (some w))=.ok (u,w):=nr rfl
theorem vC {ρ:Ev}:jj [] ρ=[]:=nr rfl
theorem sM {js:List (Option Nat)}:jj (none::js) ρ=none::jj js ρ:=nr rfl
theorem sN {js:List (Option Nat)}:jj (some j::js) ρ=(ρ[j]?).getD none::jj js ρ:=by
 unfold jj;rw[Rb];congr 1;dsimp only;cases ρ[j]? <;> rfl
end
section
variable {i j k:Int}{u w:U}
theorem CI:cF (.int i) (.int j)=.ok (.int (i+j)):=nr rfl
theorem CJ:cF (.tup us) (.tup ws)=if us.length+ws.length<=QC then .ok (.tup (us++ws)) else .stk:=nr rfl
theorem CK:cF (.lst us) (.lst ws)=if us.length+ws.length<=QC then .ok (.lst (us++ws)) else .stk:=nr rfl
theorem Gi:vp (.int i) (.int j)=.ok (.int (i-j)):=nr rfl
theorem Gj:k9 (.int i) (.int j)=if nD i j=true then .ok (.int (i*j)) else .stk:=nr rfl
theorem CL:ym (.int i) (.int j)=if zQ i j=true then .ok (.int (i / j)) else .stk:=nr rfl
theorem Gk:t7 (.int i) (.int j)=if decide (0<j)=true then .ok (.int (i % j)) else .stk:=nr rfl
theorem Gn:EO (.int i) (.int j)=if EN i j=true then .ok (.int (i ^ j.toNat)) else .stk:=nr rfl
theorem Gp:nE (.int i)=.ok (.int (-i)):=nr rfl
theorem K0:JD (.int i) (.int j)=.ok (.bl (decide (i<j))):=nr rfl
theorem K1:Kx (.int i) (.int j)=.ok (.bl (decide (i<=j))):=nr rfl
theorem fS:D3 (.int i) (.int j)=.ok (.bl (decide (j<i))):=nr rfl
theorem K2:MX (.int i) (.int j)=.ok (.bl (decide (j<=i))):=nr rfl
theorem Gq:cq (.lst us) (.int i)=L8 (jI us i):=by show (match jI us i with|some z=>R.ok z|none=>.stk)=_;cases jI us i<;>rfl
theorem Gs:cq (.tup us) (.int i)=L8 (jI us i):=by show (match jI us i with|some z=>R.ok z|none=>.stk)=_;cases jI us i<;>rfl
theorem Gu:cq (.scr us) (.int i)=L8 (jI us i):=by show (match jI us i with|some z=>R.ok z|none=>.stk)=_;cases jI us i<;>rfl
theorem Gv:L8 (some u)=.ok u:=nr rfl
theorem Gw:oi (.lst us) lo hi=.ok (.lst (gu us lo hi)):=nr rfl
theorem Gx:oi (.tup us) lo hi=.ok (.tup (gu us lo hi)):=nr rfl
theorem Gy:oi (.scr us) lo hi=.ok (.lst (gu us lo hi)):=nr rfl
theorem CM:dD [.lst us]=.ok (.int us.length):=nr rfl
theorem CN:dD [.tup us]=.ok (.int us.length):=nr rfl
theorem CO:dD [.scr us]=.ok (.int us.length):=nr rfl
theorem CP:jq [.lst us]=.ok (.tup us):=nr rfl
theorem CQ:jq [.tup us]=.ok (.tup us):=nr rfl
theorem CS:vv [.lst us]=.ok (.lst us):=nr rfl
theorem CT:vv [.tup us]=.ok (.lst us):=nr rfl
theorem Gz {a b:Bool}{f:Bool->Bool}:MY f (.bl a) (.bl b)=.ok (.bl (f (decide (a=b)))):=nr rfl
theorem GA {f:Bool->Bool}:xl f u .non=.ok (.bl (f (i6 u))):=nr rfl
theorem CU:yr [.int i,.int j]=.ok (.int (if j<i then j else i)):=nr rfl
theorem CV:yq [.int i,.int j]=.ok (.int (if j>i then j else i)):=nr rfl
theorem K3 {f:Bool->Bool}:mX f u w=(jV u w).bind λb=>.ok (.bl (f b)):=nr rfl
theorem sO (n:Nat):jI us (n:Int)=us[n]? := by
 unfold jI tG;by_cases h:n<us.length
 ·rw[hV (by lia),hV (by lia)];rfl
 ·rw[hV (by lia),hU (by lia)];rw[Sa.mpr (by lia)];rfl
theorem GB:jI us 0=us[0]? := sO 0
theorem GC:jI us 1=us[1]? := sO 1
theorem GD:jI us 2=us[2]? := sO 2
theorem K4 (h:0<us.length):tG us.length 0=some 0:=by unfold tG;rw[hV (by lia),hV (by lia)];rfl
theorem yN (h0:0<j)(h1:j<18446744073709551616):zQ i j=true:=by unfold zQ;simp[h0,h1]
theorem uf (h0:0<=i)(h1:i<18446744073709551616):nD i j=true:=by
 unfold nD;simp only[SG,QU,decide_eq_true_eq];exact .inl ⟨(by lia),(by lia)⟩
theorem Iz (h0:0<=j)(h1:j<18446744073709551616):nD i j=true:=by
 unfold nD;simp only[SG,QU,decide_eq_true_eq];exact .inr ⟨(by lia),(by lia)⟩
end
end L2
namespace L2
theorem yO {i:Nat}{w u:U}{us:List U}{ρ:Ev}:KS i w (.int 0) ρ (some (some (.lst (u::us))))=.nx (ρ.set i (some (.lst (w::us)))):=by
 rw[F_ (j:=0) (K4 (by rw[QL];lia))];rfl
theorem yP {ρ:Ev}:Iu (.nx ρ)=io0 .non ρ[0]? := rfl
theorem vD {G:Gm}{js:List (Option Nat)}{sg:U->Ev->R Ev}{ge:Ev->R (U×Ev)}{σ:Type}(ev:σ->Ev)(N:Nat)(I:List U->σ->Prop)
  (step:∀done u s,done.length<N->I done s->∃ρi y ρi' s',sg u (jj js (ev s))=.ok ρi/\ge ρi=.ok (y,ρi')/\wb G js ρi' (ev s)=ev s'/\I (done++[y]) s') :
  ∀(us done:List U) (s:σ),done.length+us.length<=N->I done s->∃ys s',o6 G js sg jU ge us (ev s)=.ok (ys,ev s')/\ys.length=us.length/\I (done++ys) s'
 | [],done,s,_,h=>⟨[],s,rfl,rfl,by rw[Q1];exact h⟩
 |u::us,done,s,hl,h=>by
  rw[QL] at hl;obtain⟨ρi,y,ρi',s',e1,e2,e3,h'⟩:=step done u s (by lia) h;obtain⟨ys,DK,e4,e5,h''⟩:=vD ev N I step us (done++[y]) s' (by rw[QE,SE];lia) h';refine⟨y::ys,DK,?_,by rw[QL,QL,e5],by rw[Rj] at h'';exact h''⟩;rw[Iy,e1,xt,CD,xt,hV rfl,e2,xt,e3,e4,xt]
theorem gT {s:Ev->SR}(I:Nat->Ev->Prop)(step:∀(i:Nat) (u:U) (ρ:Ev),us[i]? = some u->I i ρ->∃ρ1 ρ2,sg u ρ=.ok ρ1/\(s ρ1=.nx ρ2\/s ρ1=.ct ρ2)/\I (i+1) ρ2)(h:I 0 ρ) :
  ∃ρ',fq sg s us ρ=.nx ρ'/\I us.length ρ':=by
 have gen:∀(n i:Nat) (ρ:Ev),i+n=us.length->I i ρ->∃ρ',fq sg s (us.drop i) ρ=.nx ρ'/\I us.length ρ':=by
  intro n
  induction n with
  |zero=>
   intro i ρ hi h;have:i=us.length:=(by lia)
   subst this;rw[S0];exact⟨ρ,rfl,h⟩
  |succ n ih=>
   intro i ρ hi h;have uX:i<us.length:=(by lia)
   obtain⟨ρ1,ρ2,e1,e2,h2⟩:=step i us[i] ρ (Qy uX) h;obtain⟨ρ',e3,h3⟩:=ih (i+1) ρ2 (by lia) h2;refine⟨ρ',?_,h3⟩;rw[R9 uX,mq,e1,B9];rcases e2 with e2|e2<;>(rw[e2];exact e3)
 have:=gen us.length 0 ρ (by lia) h
 rwa [Sn] at this
theorem yQ {f:U->R (Option U)}{g:U->U}:∀{us:List U},(∀u∈us,f u=.ok (some (g u)))->md f us=.ok (us.map g)
 | [],_=>rfl
 |u::us,h=>by
  unfold md;rw[h u QZ,xt,yQ λw hw=>h w (QW _ hw)];rfl
def N_ (u:U):Prop:=∃d,dG u=some d/\bP d<=20
theorem vE:∀{us:List U},(∀u∈us,N_ u)->∃ds,d5 us=some ds/\fL ds<=20/\ds.length=us.length
 | [],_=>⟨[],by unfold d5;rfl,by unfold fL;lia,rfl⟩
 |u::us,h=>by
  obtain⟨d,e,l⟩:=h u QZ;obtain⟨ds,e',l',n⟩:=vE λw hw=>h w (QW _ hw);refine⟨d::ds,by unfold d5;rw[e,e'];rfl,?_,by rw[QL,QL,n]⟩;unfold fL;exact Nat.max_le.mpr ⟨l,l'⟩
theorem IA (h:∀u∈us,N_ u):jV (.lst us) (.lst [])=.ok us.isEmpty:=by
 obtain⟨ds,e,l,n⟩:=vE h;unfold jV;have e1:dG (.lst us)=some (.lst ds):=by unfold dG;rw[e];rfl
 have e2:dG (.lst [])=some (.lst []):=by unfold dG d5;rfl
 rw[e1,e2];dsimp only;rw[hV (by unfold bP;lia)];unfold fk;cases us with
 |nil=>cases ds with
  |nil=>rfl
  |cons=>cases n
 |cons u us=>cases ds with
  |nil=>cases n
  |cons=>rfl
theorem sP (ns:List Int):d5 (ns.map .int)=some (ns.map .int):=by
 induction ns with
 |nil=>unfold d5;rfl
 |cons n ns ih=>rw[Rb];unfold d5;rw[ih];unfold dG;rfl
theorem qv (ns:List Int):fL (ns.map .int)=0:=by
 induction ns with
 |nil=>unfold fL;rfl
 |cons n ns ih=>rw[Rb];unfold fL;rw[ih];unfold bP;rfl
theorem sQ:∀(ns ms:List Int),jS (ns.map .int) (ms.map .int)=decide (ns=ms)
 | [],[]=>by unfold jS;simp
 | [],m::ms=>by simp[jS]
 |n::ns,[]=>by simp[jS]
 |n::ns,m::ms=>by
  rw[Rb,Rb];unfold jS fk;rw[sQ ns ms,RV];simp
theorem yR (ns ms:List Int):jV (.lst (ns.map .int)) (.lst (ms.map .int))=.ok (decide (ns=ms)):=by
 unfold jV;have e1:∀ns:List Int,dG (.lst (ns.map .int))=some (.lst (ns.map .int)):=λns=>by unfold dG;rw[sP];rfl
 rw[e1,e1];dsimp only;rw[hV (by unfold bP;rw[qv];lia)];unfold fk;rw[sQ]
theorem Oa (a b:Bool):jV (.bl a) (.bl b)=.ok (a==b):=by
 unfold jV dG;dsimp only;rw[hV (by unfold bP;lia)];unfold fk;rfl
theorem a9 (a b:Int):jV (.int a) (.int b)=.ok (a==b):=by
 unfold jV dG;dsimp only;rw[hV (by unfold bP;lia)];unfold fk;rfl
theorem kL (a b:Str):jV (.str a) (.str b)=.ok (a==b):=by
 unfold jV dG;dsimp only;rw[hV (by unfold bP;lia)];unfold fk;rfl
noncomputable def bw (n:Nat):List Int:=(RL n).map λi=>(i:Nat)
theorem j8 (n:Nat):b6 0 n=(bw n).map .int:=by
 unfold b6 bw;rw[Uc];exact List.map_congr_left λi _=>by show U.int (0+(i:Int))=.int _;rw[Int.zero_add]
theorem df (n:Nat):(bw n).length=n:=by unfold bw;rw[QI,SQ]
end L2
namespace L2
theorem inb (s:String){T:String}{u:U}{ρ:Ev}{b:Bool}(h:JE u=s)(h1:¬s="script")(h2:iD s T=b):iL T u ρ=.ok (.bl b,ρ):=by unfold iL;rw[h,hU h1,h2]
theorem om {ρ:Ev}:iL "bool" (.non) ρ=.ok (.bl false,ρ):=inb "NoneType" rfl (by decide) (by decide)
theorem qw {ρ:Ev}:iL "int" (.non) ρ=.ok (.bl false,ρ):=inb "NoneType" rfl (by decide) (by decide)
theorem qx {ρ:Ev}:iL "str" (.non) ρ=.ok (.bl false,ρ):=inb "NoneType" rfl (by decide) (by decide)
theorem oq {ρ:Ev}:iL "list" (.non) ρ=.ok (.bl false,ρ):=inb "NoneType" rfl (by decide) (by decide)
theorem mx {ρ:Ev}:iL "tuple" (.non) ρ=.ok (.bl false,ρ):=inb "NoneType" rfl (by decide) (by decide)
theorem ot {ρ:Ev}:iL "dict" (.non) ρ=.ok (.bl false,ρ):=inb "NoneType" rfl (by decide) (by decide)
theorem qy {b:Bool}{ρ:Ev}:iL "bool" (.bl b) ρ=.ok (.bl true,ρ):=inb "bool" rfl (by decide) (by decide)
theorem sR {b:Bool}{ρ:Ev}:iL "int" (.bl b) ρ=.ok (.bl true,ρ):=inb "bool" rfl (by decide) (by decide)
theorem sS {b:Bool}{ρ:Ev}:iL "str" (.bl b) ρ=.ok (.bl false,ρ):=inb "bool" rfl (by decide) (by decide)
theorem qz {b:Bool}{ρ:Ev}:iL "list" (.bl b) ρ=.ok (.bl false,ρ):=inb "bool" rfl (by decide) (by decide)
theorem ou {b:Bool}{ρ:Ev}:iL "tuple" (.bl b) ρ=.ok (.bl false,ρ):=inb "bool" rfl (by decide) (by decide)
theorem qA {b:Bool}{ρ:Ev}:iL "dict" (.bl b) ρ=.ok (.bl false,ρ):=inb "bool" rfl (by decide) (by decide)
theorem ow {i:Int}{ρ:Ev}:iL "bool" (.int i) ρ=.ok (.bl false,ρ):=inb "int" rfl (by decide) (by decide)
theorem qB {i:Int}{ρ:Ev}:iL "int" (.int i) ρ=.ok (.bl true,ρ):=inb "int" rfl (by decide) (by decide)
theorem qC {i:Int}{ρ:Ev}:iL "str" (.int i) ρ=.ok (.bl false,ρ):=inb "int" rfl (by decide) (by decide)
theorem oy {i:Int}{ρ:Ev}:iL "list" (.int i) ρ=.ok (.bl false,ρ):=inb "int" rfl (by decide) (by decide)
theorem my {i:Int}{ρ:Ev}:iL "tuple" (.int i) ρ=.ok (.bl false,ρ):=inb "int" rfl (by decide) (by decide)
theorem oz {i:Int}{ρ:Ev}:iL "dict" (.int i) ρ=.ok (.bl false,ρ):=inb "int" rfl (by decide) (by decide)
theorem oA {x:Str}{ρ:Ev}:iL "bool" (.str x) ρ=.ok (.bl false,ρ):=inb "str" rfl (by decide) (by decide)
theorem qD {x:Str}{ρ:Ev}:iL "int" (.str x) ρ=.ok (.bl false,ρ):=inb "str" rfl (by decide) (by decide)
theorem qE {x:Str}{ρ:Ev}:iL "str" (.str x) ρ=.ok (.bl true,ρ):=inb "str" rfl (by decide) (by decide)
theorem oB {x:Str}{ρ:Ev}:iL "list" (.str x) ρ=.ok (.bl false,ρ):=inb "str" rfl (by decide) (by decide)
theorem mz {x:Str}{ρ:Ev}:iL "tuple" (.str x) ρ=.ok (.bl false,ρ):=inb "str" rfl (by decide) (by decide)
theorem oC {x:Str}{ρ:Ev}:iL "dict" (.str x) ρ=.ok (.bl false,ρ):=inb "str" rfl (by decide) (by decide)
theorem oD {us:List U}{ρ:Ev}:iL "bool" (.tup us) ρ=.ok (.bl false,ρ):=inb "tuple" rfl (by decide) (by decide)
theorem qF {us:List U}{ρ:Ev}:iL "int" (.tup us) ρ=.ok (.bl false,ρ):=inb "tuple" rfl (by decide) (by decide)
theorem qG {us:List U}{ρ:Ev}:iL "str" (.tup us) ρ=.ok (.bl false,ρ):=inb "tuple" rfl (by decide) (by decide)
theorem oE {us:List U}{ρ:Ev}:iL "list" (.tup us) ρ=.ok (.bl false,ρ):=inb "tuple" rfl (by decide) (by decide)
theorem mB {us:List U}{ρ:Ev}:iL "tuple" (.tup us) ρ=.ok (.bl true,ρ):=inb "tuple" rfl (by decide) (by decide)
theorem oF {us:List U}{ρ:Ev}:iL "dict" (.tup us) ρ=.ok (.bl false,ρ):=inb "tuple" rfl (by decide) (by decide)
theorem oG {us:List U}{ρ:Ev}:iL "bool" (.lst us) ρ=.ok (.bl false,ρ):=inb "list" rfl (by decide) (by decide)
theorem qH {us:List U}{ρ:Ev}:iL "int" (.lst us) ρ=.ok (.bl false,ρ):=inb "list" rfl (by decide) (by decide)
theorem qI {us:List U}{ρ:Ev}:iL "str" (.lst us) ρ=.ok (.bl false,ρ):=inb "list" rfl (by decide) (by decide)
theorem oH {us:List U}{ρ:Ev}:iL "list" (.lst us) ρ=.ok (.bl true,ρ):=inb "list" rfl (by decide) (by decide)
theorem mC {us:List U}{ρ:Ev}:iL "tuple" (.lst us) ρ=.ok (.bl false,ρ):=inb "list" rfl (by decide) (by decide)
theorem oI {us:List U}{ρ:Ev}:iL "dict" (.lst us) ρ=.ok (.bl false,ρ):=inb "list" rfl (by decide) (by decide)
theorem oJ {ρ:Ev}:iL "bool" (.dct [] []) ρ=.ok (.bl false,ρ):=inb "dict" rfl (by decide) (by decide)
theorem qJ {ρ:Ev}:iL "int" (.dct [] []) ρ=.ok (.bl false,ρ):=inb "dict" rfl (by decide) (by decide)
theorem qK {ρ:Ev}:iL "str" (.dct [] []) ρ=.ok (.bl false,ρ):=inb "dict" rfl (by decide) (by decide)
theorem oK {ρ:Ev}:iL "list" (.dct [] []) ρ=.ok (.bl false,ρ):=inb "dict" rfl (by decide) (by decide)
theorem mD {ρ:Ev}:iL "tuple" (.dct [] []) ρ=.ok (.bl false,ρ):=inb "dict" rfl (by decide) (by decide)
theorem oM {ρ:Ev}:iL "dict" (.dct [] []) ρ=.ok (.bl true,ρ):=inb "dict" rfl (by decide) (by decide)
noncomputable def OU (u:U):Bool:=match u with
 | .int _=>true
 |_=>false
theorem au:type_of% @FK/\type_of% @B8/\type_of% @N2/\type_of% @xt/\type_of% @FN/\type_of% @B9/\type_of% @KG/\type_of% @N3/\type_of% @FO/\type_of% @B_/\type_of% @FP/\type_of% @Ca/\type_of% @FQ/\type_of% @KI/\type_of% @FR/\type_of% @KJ/\type_of% @yx/\type_of% @KL/\type_of% @Cb/\type_of% @yy/\type_of% @Cc/\type_of% @Cd/\type_of% @KN/\type_of% @KO/\type_of% @FV/\type_of% @yA/\type_of% @KP/\type_of% @FW/\type_of% @FY/\type_of% @N7/\type_of% @Ce/\type_of% @yB/\type_of% @FZ/\type_of% @yC/\type_of% @KQ/\type_of% @Cf/\type_of% @Cg/\type_of% @yD/\type_of% @Ci/\type_of% @F0/\type_of% @Cj/\type_of% @Ck/\type_of% @Cm/\type_of% @Co/\type_of% @Cp/\type_of% @F4/\type_of% @F5/\type_of% @F6/\type_of% @F7/\type_of% @Cq/\type_of% @F8/\type_of% @F9/\type_of% @Cr/\type_of% @Cs/\type_of% @Ga/\type_of% @Ct/\type_of% @Gb/\type_of% @yE/\type_of% @yF/\type_of% @yG/\type_of% @yH/\type_of% @yI/\type_of% @Cu/\type_of% @Cv/\type_of% @Cw/\type_of% @Cy/\type_of% @Cz/\type_of% @CA/\type_of% @CB/\type_of% @Gd/\type_of% @Ge/\type_of% @Gf/\type_of% @CC/\type_of% @CD/\type_of% @Gg/\type_of% @KZ/\type_of% @CF/\type_of% @yL/\type_of% @CH/\type_of% @yM/\type_of% @Gh/\type_of% @vC/\type_of% @sM/\type_of% @sN/\type_of% @CI/\type_of% @CJ/\type_of% @CK/\type_of% @Gi/\type_of% @Gj/\type_of% @CL/\type_of% @Gk/\type_of% @Gn/\type_of% @Gp/\type_of% @K0/\type_of% @K1/\type_of% @fS/\type_of% @K2/\type_of% @Gq/\type_of% @Gs/\type_of% @Gu/\type_of% @Gv/\type_of% @Gw/\type_of% @Gx/\type_of% @Gy/\type_of% @CM/\type_of% @CN/\type_of% @CO/\type_of% @CP/\type_of% @CQ/\type_of% @CS/\type_of% @CT/\type_of% @Gz/\type_of% @GA/\type_of% @CU/\type_of% @CV/\type_of% @K3/\type_of% @GB/\type_of% @GC/\type_of% @GD/\type_of% @FT/\type_of% @om/\type_of% @qw/\type_of% @qx/\type_of% @oq/\type_of% @mx/\type_of% @ot/\type_of% @qy/\type_of% @sR/\type_of% @sS/\type_of% @qz/\type_of% @ou/\type_of% @qA/\type_of% @ow/\type_of% @qB/\type_of% @qC/\type_of% @oy/\type_of% @my/\type_of% @oz/\type_of% @oA/\type_of% @qD/\type_of% @qE/\type_of% @oB/\type_of% @mz/\type_of% @oC/\type_of% @oD/\type_of% @qF/\type_of% @qG/\type_of% @oE/\type_of% @mB/\type_of% @oF/\type_of% @oG/\type_of% @qH/\type_of% @qI/\type_of% @oH/\type_of% @mC/\type_of% @oI/\type_of% @oJ/\type_of% @qJ/\type_of% @qK/\type_of% @oK/\type_of% @mD/\type_of% @oM/\type_of% @yO/\type_of% @yP:=
 ⟨@FK,@B8,@N2,@xt,@FN,@B9,@KG,@N3,@FO,@B_,@FP,@Ca,@FQ,@KI,@FR,@KJ,@yx,@KL,@Cb,@yy,@Cc,@Cd,@KN,@KO,@FV,@yA,@KP,@FW,@FY,@N7,@Ce,@yB,@FZ,@yC,@KQ,@Cf,@Cg,@yD,@Ci,@F0,@Cj,@Ck,@Cm,@Co,@Cp,@F4,@F5,@F6,@F7,@Cq,@F8,@F9,@Cr,@Cs,@Ga,@Ct,@Gb,@yE,@yF,@yG,@yH,@yI,@Cu,@Cv,@Cw,@Cy,@Cz,@CA,@CB,@Gd,@Ge,@Gf,@CC,@CD,@Gg,@KZ,@CF,@yL,@CH,@yM,@Gh,@vC,@sM,@sN,@CI,@CJ,@CK,@Gi,@Gj,@CL,@Gk,@Gn,@Gp,@K0,@K1,@fS,@K2,@Gq,@Gs,@Gu,@Gv,@Gw,@Gx,@Gy,@CM,@CN,@CO,@CP,@CQ,@CS,@CT,@Gz,@GA,@CU,@CV,@K3,@GB,@GC,@GD,@FT,@om,@qw,@qx,@oq,@mx,@ot,@qy,@sR,@sS,@qz,@ou,@qA,@ow,@qB,@qC,@oy,@my,@oz,@oA,@qD,@qE,@oB,@mz,@oC,@oD,@qF,@qG,@oE,@mB,@oF,@oG,@qH,@qI,@oH,@mC,@oI,@oJ,@qJ,@qK,@oK,@mD,@oM,@yO,@yP⟩
end L2
namespace L2
noncomputable def Gm.un (G:Gm)(i:Nat):Gm:=⟨G.own.set i false,G.io,G.W⟩
theorem jr:(G.un i).is i=false:=by
 unfold Gm.un Gm.is;dsimp only;rw[RB,List.getElem?_set];split
 ·split<;>rfl
 ·rename_i h;exact absurd rfl h
theorem j9 (h:i≠j):(G.un i).is j=G.is j:=by
 unfold Gm.un Gm.is;dsimp only;rw[RB,RB,QY h]
section
variable {A':QX->Prop}{ρ':Ev}
theorem cZ.un (r:cZ K G Z A ρ σ H)(hi:G.io=true->i≠0):∃A',cZ K (G.un i) Z A' ρ σ H:=by
 have io0:∀h:(G.un i).io=true,σ[0]? = some (some (.ref Z.a0))/\(G.un i).is 0=true:=λh=>by
  obtain⟨a,b⟩:=r.io0 h;exact⟨a,by rw[j9 (hi h)];exact b⟩
 by_cases c:G.is i=true/\∃u,ρ[i]? = some (some u)
 ·obtain⟨c,u,hu⟩:=c;obtain⟨a,h1,h2,h3,h4,h5⟩:=r.own c hu;have na:¬Z.A0 a:=by
   rcases h4 with h4|⟨h4,h6⟩
   ·exact h4
   ·exact absurd h6 (hi h4)
  have sub:∀b,(A b/\b≠a)->A b:=λb z=>z.1;refine⟨λb=>A b/\b≠a,?_⟩;exact {
   slot:=λj w hj=>by
    obtain⟨v,s1,s2⟩:=r.slot j w hj;refine⟨v,s1,?_⟩;by_cases e:i=j
    ·subst e;rw[hu] at hj;cases hj;rw[h1] at s1;cases s1;rw[hU (by rw[jr];exact QA)];exact h5.rp sub λz=>z.2 rfl
    ·rw[j9 e];by_cases cj:G.is j=true
     ·rw[hV cj] at s2 ⊢;obtain⟨b,e1,e2,e3,e4,e5⟩:=s2;refine⟨b,e1,⟨e2,λz=>?_⟩,e3,e4,e5.mono sub⟩;subst z e1;exact r.dis i j u w b c cj e hu hj h1 s1
     ·rw[hU cj] at s2 ⊢;exact s2.mono sub
   dis:=λj k w w' b cj ck ne hj hk sj sk=>by
    have e1:i≠j:=λz=>by subst z;rw[jr] at cj;cases cj
    have e2:i≠k:=λz=>by subst z;rw[jr] at ck;cases ck
    rw[j9 e1] at cj;rw[j9 e2] at ck;exact r.dis j k w w' b cj ck ne hj hk sj sk
   mu:=λb z=>r.mu b z.1
   sup:=λb z=>⟨r.sup b z,λe=>na (e▸z)⟩
   out:=λb z=>r.out b z.1
   bas:=r.bas
   io0:=io0
   len:=r.len}
 ·refine⟨A,?_⟩;exact {
   slot:=λj w hj=>by
    obtain⟨v,s1,s2⟩:=r.slot j w hj;refine⟨v,s1,?_⟩;by_cases e:i=j
    ·subst e;rw[hU (by rw[jr];exact QA)];rw[hU (λz=>c ⟨z,w,hj⟩)] at s2;exact s2
    ·rw[j9 e];exact s2
   dis:=λj k w w' b cj ck ne hj hk sj sk=>by
    have e1:i≠j:=λz=>by subst z;rw[jr] at cj;cases cj
    have e2:i≠k:=λz=>by subst z;rw[jr] at ck;cases ck
    rw[j9 e1] at cj;rw[j9 e2] at ck;exact r.dis j k w w' b cj ck ne hj hk sj sk
   mu:=r.mu
   sup:=r.sup
   out:=r.out
   bas:=r.bas
   io0:=io0
   len:=r.len}
theorem cZ.reun (r:cZ K (G.un i) Z A ρ σ H):cZ K G Z A (ρ.set i none) σ H where
 slot:=λj w hj=>by
  rcases eL hj with⟨rfl,e⟩|⟨ne,e⟩
  ·cases e
  ·obtain⟨v,s1,s2⟩:=r.slot j w e;rw[j9 ne] at s2;exact⟨v,s1,s2⟩
 dis:=λj k w w' a cj ck ne hj hk sj sk=>by
  rcases eL hj with⟨rfl,e⟩|⟨n1,e1⟩
  ·cases e
  ·rcases eL hk with⟨rfl,e⟩|⟨n2,e2⟩
   ·cases e
   ·exact r.dis j k w w' a (by rw[j9 n1];exact cj) (by rw[j9 n2];exact ck) ne e1 e2 sj sk
 mu:=r.mu
 sup:=r.sup
 out:=r.out
 bas:=r.bas
 io0:=λh=>by
  obtain⟨a,b⟩:=r.io0 h;refine⟨a,?_⟩;by_cases e:i=0
  ·subst e;rw[jr] at b;cases b
  ·rw[j9 e] at b;exact b
 len:=by rw[RJ];exact r.len
end
noncomputable def xu (i:Nat)(g:Ev->SR):Ev->SR:=λρ=>match g ρ with
 | .nx ρ'=>.nx (ρ'.set i none)
 | .bk ρ'=>.bk (ρ'.set i none)
 | .ct ρ'=>.ct (ρ'.set i none)
 | .rt u ρ'=>.rt u (ρ'.set i none)
 |r=>r
section
variable {e:RP}{Ja:List Si}{st:Si}{m m1:Md}{g:Ev->SR}{g1:Ev->R (U×Ev)}{h1:Ev->R (Bool×Ev)}
theorem CW (hi:G.io=true->i≠0){D:lu}(h:JC X.K G m (xu i g) D σ H):JC X.K (G.un i) m g D σ H:=by
 obtain⟨Z,A,ρ,q,f⟩:=h;obtain⟨A',q'⟩:=q.un hi;refine⟨Z,A',ρ,q',?_⟩;unfold xu at f;cases e:g ρ with
 |nx=>rw[e] at f;exact λA2 σ2 H2 q2=>f A2 σ2 H2 q2.reun
 |bk=>rw[e] at f;exact λA2 σ2 H2 q2=>f A2 σ2 H2 q2.reun
 |ct=>rw[e] at f;exact λA2 σ2 H2 q2=>f A2 σ2 H2 q2.reun
 |rt=>rw[e] at f;exact λA2 σ2 H2 v q2 vm=>f A2 σ2 H2 v q2.reun vm
 |exc=>rw[e] at f;exact f
 |stk=>rw[e] at f;exact f.elim
theorem E3 (i:Nat)(h:vi X (G.un i) m Ja g)(hi:G.io=true->i≠0:=by decide):vi X G m Ja (xu i g):=⟨h.un.to λ_ _ _ z=>CW hi z⟩
end
end L2
namespace L2
section
variable {e:RP}{tl:TE}{kr cpos p1:Pos}{b1:Bool}{m1:Md}{g1:Ev->R (U×Ev)}
noncomputable def xv (ns:List Int):Bool:=decide (ns.length<=1000000)&&ns.all λn=>decide (0<=n/\n<=1000000000)
theorem j_ (ns:List Int):∀j,j<=ns.length->preSum (λi=>ns.getD i 0) j=(ns.take j).sum
 |0,_=>rfl
 |j+1,h=>by
  unfold preSum;rw[j_ ns j (by lia),Sb (show j<ns.length by lia),List.sum_append];simp[Uq,Qy (show j<ns.length by lia)]
theorem sT:∀{ns:List Int},(ns.all λn=>decide (0<=n/\n<=1000000000))=true->0<=ns.sum/\ns.sum<=ns.length*1000000000
 | [],_=>by simp
 |n::ns,h=>by
  rw[Td,QU] at h;obtain⟨a,b⟩:=sT h.2;have:=of_decide_eq_true h.1;rw[List.sum_cons,QL];constructor
  ·lia
  ·push_cast;lia
end
end L2
namespace L2
noncomputable def mE:QG->Int×Tok
 | .int n t=>(n,t)
 |_=>(0,0)
theorem nM (h:IntsAre ay ns):intItems (ay.map mE).toArray=ay.toArray/\∀i,numAt (ay.map mE).toArray i=ns.getD i 0:=by
 constructor
 ·unfold intItems;rw[List.map_toArray,Uc];congr 1
  induction h with
  |nil=>rfl
  |cons n t _ ih=>rw[Rb,ih];rfl
 ·induction h with
  |nil=>intro i;unfold numAt;simp
  |cons n t _ ih=>
   intro i;cases i with
   |zero=>unfold numAt;simp[mE]
   |succ i=>
    have:=ih i;unfold numAt at this ⊢;simpa [Uq] using this
def GF (K:QB):List V->Hp->VK->Prop:=λxs H Q=>∃p ns,xs=[.ref p]/\fi K H p (ns.map V.int)/\xv ns=true/\Q (.int ns.sum) H
theorem Al (hc:X.calm=true):fj X (.builtin "sum") (GF X.K):=by
 intro pins s σ H xs us Q I r h;obtain⟨p,ns,rfl,hs,sm,q⟩:=h;obtain⟨u,rfl,rx⟩:=jG r;cases rx;obtain⟨ay,rv,pl,_⟩:=I.list hs;have hI:=g6 rv;obtain⟨t1,t2⟩:=nM hI;have sz:(ay.map mE).toArray.size=ns.length:=by simp[hI.length]
 unfold xv at sm;rw[QU] at sm;have s1:=of_decide_eq_true sm.1;have fe:numAt (ay.map mE).toArray=λi=>ns.getD i 0:=funext t2;refine sum_intList (xs:=(ay.map mE).toArray) (I.ok.hd hc) (by rw[t1];exact pl.isList) (λj hj=>?_) λh' tk t' k=>?_
 ·rw[sz] at hj;have al:=sm.2;rw[fe];refine⟨?_,?_⟩
  ·have:=Ri.mp al ns[j] (List.getElem_mem hj);have:=of_decide_eq_true this;unfold InLong;simp only[Uq,Qy hj,Option.getD_some];lia
  ·rw[j_ ns (j+1) (by lia)];have Pu:((ns.take (j+1)).all λn=>decide (0<=n/\n<=1000000000))=true:=Ri.mpr λx hx=>Ri.mp al x (List.mem_of_mem_take hx);obtain⟨p1,p2⟩:=sT Pu;have:(ns.take (j+1)).length<=1000000:=by rw[R0];lia
   unfold InLong;lia
 ·have e:preSum (numAt (ay.map mE).toArray) (ay.map mE).toArray.size=ns.sum:=by rw[fe,sz,j_ ns ns.length (QJ _),Tz]
  rw[e];exact⟨.int ns.sum,H,I.kept (t':=tk) k,⟨t',rfl⟩,q⟩
noncomputable def CY:List U->R U:=λus=>match us with
 | [.lst xs]=>match jK xs with
  |some ns=>if xv ns=true then .ok (.int ns.sum) else .stk
  |none=>.stk
 |_=>.stk
theorem CZ:l4 K (GF K) .S CY:=λA H vs us z Q h mu e q=>by
 unfold CY at e;split at e
 ·rename_i xs;split at e
  ·rename_i ns hb;split at e
   ·rename_i hl;cases e;obtain⟨v,rfl,p⟩:=h.one;unfold Pk at p;obtain⟨a,ys,rfl,h1,l1,r1⟩:=p;rw[kJ hb] at r1;rw[r1.toI] at h1;exact⟨a,ns,rfl,fi.of h1,hl,q _ H (aI.refl _) (show Rp K H A _ _ from cy)⟩
   ·cases e
  ·cases e
 ·cases e
noncomputable def vF:Int->List Int->Int
 |m,[]=>m
 |m,n::ns=>vF (if m<n then n else m) ns
theorem vG (ns:List Int)(n0:Int):∀j,j<=ns.length->(n0::ns).getD (argBest (λi j=>decide ((n0::ns).getD i 0>(n0::ns).getD j 0)) j) 0=vF n0 (ns.take j)
 |0,_=>by simp[argBest,vF]
 |j+1,h=>by
  have ih:=vG ns n0 j (by lia);have hj:j<ns.length:=(by lia)
  have NJ:∀(l:List Int) (m x:Int),vF m (l++[x])=if vF m l<x then x else vF m l:=by
   intro l
   induction l with
   |nil=>intro m x;rfl
   |cons y l ih=>intro m x;exact ih _ x
  rw[Sb hj,NJ,←ih];have g:(n0::ns).getD (j+1) 0=ns[j]:=by simp[Uq,Qy hj]
  rw[argBest];by_cases c:(n0::ns).getD (argBest (λi j=>decide ((n0::ns).getD i 0>(n0::ns).getD j 0)) j) 0<ns[j]
  ·rw[hV c,hV (by rw[g];exact hG c),g]
  ·rw[hU c,hU (by rw[g,decide_eq_true_eq];exact c)]
def GG (K:QB):List V->Hp->VK->Prop:=λxs H Q=>∃p n0 ns,xs=[.ref p]/\fi K H p ((n0::ns).map V.int)/\Q (.int (vF n0 ns)) H
theorem Am (hc:X.calm=true):fj X (.builtin "max") (GG X.K):=by
 intro pins s σ H xs us Q I r h;obtain⟨p,n0,ns,rfl,hs,q⟩:=h;obtain⟨u,rfl,rx⟩:=jG r;cases rx;obtain⟨ay,rv,pl,_⟩:=I.list hs;have hI:=g6 rv;obtain⟨t1,t2⟩:=nM hI;have sz:(ay.map mE).toArray.size=ns.length+1:=by simp[hI.length]
 have fe:numAt (ay.map mE).toArray=λi=>(n0::ns).getD i 0:=funext t2;refine max_intList (xs:=(ay.map mE).toArray) (I.ok.hd hc) (by rw[t1];exact pl.isList) (by rw[sz];lia) λv h' tk hv k=>?_;obtain⟨t,rfl⟩:=intItems_at hv;rw[sz,Nat.add_sub_cancel,fe];dsimp only;rw[vG ns n0 _ (QJ _),Tz];exact⟨.int _,H,I.kept (t':=tk) k,⟨t,rfl⟩,q⟩
noncomputable def C0:List U->R U:=λus=>match us with
 | [.lst xs]=>match jK xs with
  |some (n::ns)=>.ok (.int (vF n ns))
  |_=>.stk
 |_=>.stk
theorem C1:l4 K (GG K) .S C0:=λA H vs us z Q h mu e q=>by
 unfold C0 at e;split at e
 ·rename_i xs;split at e
  ·rename_i n ns hb;cases e;obtain⟨v,rfl,p⟩:=h.one;unfold Pk at p;obtain⟨a,ys,rfl,h1,l1,r1⟩:=p;rw[kJ hb] at r1;rw[r1.toI] at h1;exact⟨a,n,ns,rfl,fi.of h1,q _ H (aI.refl _) (show Rp K H A _ _ from cy)⟩
  ·cases e
 ·cases e
end L2
namespace L2
def IB (K:QB)(f:Bool->Bool):R2:=λx y H Q=>∃p xs ds dx,y=.ref p/\(fi K H p xs\/gL K H p xs)/\aU K H dx x/\fK K H ds xs/\(∀d∈ds,bP d<=30)/\Q (.bl (f (ds.any λd=>fk d dx))) H
open Classical in
noncomputable def jW (ay:List QG)(ds:List D)(dx:D)(u:QG):Bool:=decide (∃(i:Nat) (d:D),ay[i]? = some u/\ds[i]? = some d/\fk d dx=true)
open Classical in
theorem pJ {ds:List D}{dx:D}{u:QG}:jW ay ds dx u=true↔∃(i:Nat) (d:D),ay[i]? = some u/\ds[i]? = some d/\fk d dx=true:=by
 unfold jW;exact decide_eq_true_iff
theorem pK {ds:List D}{dx:D}(hl:ay.length=ds.length):ay.any (jW ay ds dx)=ds.any λd=>fk d dx:=by
 rw[RV,List.any_eq_true,List.any_eq_true];constructor
 ·rintro⟨u,_,h⟩;obtain⟨i,d,_,h2,h3⟩:=pJ.mp h;exact⟨d,Rf h2,h3⟩
 ·rintro⟨d,hd,h⟩;obtain⟨i,hi,e⟩:=List.mem_iff_getElem.mp hd;have Oz:i<ay.length:=(by lia)
  exact⟨ay[i],List.getElem_mem Oz,pJ.mpr ⟨i,d,Qy Oz,by rw[Qy hi,e],h⟩⟩
theorem mF (I:aG X pins σ H s){A:Rk}(hA:A.units+30<Tj){x:V}{v:QG}{dx:D}(rx:bc x v)(hx:aU X.K H dx x){ds:List D}(rv:a8 xs ay)(hs:fK X.K H ds xs)(hd:∀d∈ds,bP d<=30) :
  ∀u∈ay,Sm A s u v (jW ay ds dx u):=λu hu=>by
 have l1:=rv.length;have l2:=hs.length;have at_:∀(i:Nat) (d:D),ay[i]? = some u->ds[i]? = some d->Sm A s u v (fk d dx):=λi d h1 h2=>by
  have hi:i<ay.length:=(QH.mp h1).1;have h3:xs[i]? = some (xs[i]'(by lia)):=Qy _;obtain⟨u',g1,g2⟩:=rv.get h3;rw[h1] at g1;cases g1;exact qb I 30 d dx _ x u v A (hd d (Rf h2)) hA (hs.get h2 h3) hx g2 rx
 by_cases c:∃(i:Nat) (d:D),ay[i]? = some u/\ds[i]? = some d/\fk d dx=true
 ·obtain⟨i,d,h1,h2,h3⟩:=c;have e:jW ay ds dx u=true:=pJ.mpr ⟨i,d,h1,h2,h3⟩;rw[e,←h3];exact at_ i d h1 h2
 ·have e:jW ay ds dx u=false:=SO.mpr λz=>c (pJ.mp z);obtain⟨i,hi,eu⟩:=List.mem_iff_getElem.mp hu;have h1:ay[i]? = some u:=by rw[Qy hi,eu]
  have h2:ds[i]? = some (ds[i]'(by lia)):=Qy _;have e2:fk (ds[i]'(by lia)) dx=false:=by
   cases z:fk (ds[i]'(by lia)) dx with
   |false=>rfl
   |true=>exact absurd ⟨i,_,h1,h2,z⟩ c
  rw[e,←e2];exact at_ i _ h1 h2
theorem xw (hu:X.A.units+64<Tj):iY X (RD .In) (IB X.K id):=by
 intro pins s σ H x y v u Q I rx ry h;obtain⟨p,xs,ds,dx,rfl,hq,hx,hs,hd,q⟩:=h;cases ry;rcases hq with hq|hq
 ·obtain⟨ay,r,pl,hz⟩:=I.list hq;refine SeqAt.in_listAt (jW ay ds dx) pl.isList (λw hw=>mF I (by show X.A.units+1+30<Tj;lia) rx hx r hs hd w (by simpa using hw)) ⟨.bl _,H,I,rfl,?_⟩;rw[show ay.toArray.any (jW ay ds dx)=ay.any (jW ay ds dx) by simp,pK (by rw[←r.length,←hs.length])];exact q
 ·obtain⟨ay,r,pl,hz⟩:=I.tuple hq;refine SeqAt.in_tupleAt (jW ay ds dx) pl (λw hw=>mF I (by show X.A.units+1+30<Tj;lia) rx hx r hs hd w (by simpa using hw)) ⟨.bl _,H,I,rfl,?_⟩;rw[show ay.toArray.any (jW ay ds dx)=ay.any (jW ay ds dx) by simp,pK (by rw[←r.length,←hs.length])];exact q
theorem An (hu:X.A.units+64<Tj):iY X (RD .NotIn) (IB X.K not):=by
 intro pins s σ H x y v u Q I rx ry h;obtain⟨p,xs,ds,dx,rfl,hq,hx,hs,hd,q⟩:=h;cases ry;rcases hq with hq|hq
 ·obtain⟨ay,r,pl,hz⟩:=I.list hq;refine SeqAt.notIn_listAt (jW ay ds dx) pl.isList (λw hw=>mF I (by show X.A.units+1+30<Tj;lia) rx hx r hs hd w (by simpa using hw)) ⟨.bl _,H,I,rfl,?_⟩;rw[show ay.toArray.any (jW ay ds dx)=ay.any (jW ay ds dx) by simp,pK (by rw[←r.length,←hs.length])];exact q
 ·obtain⟨ay,r,pl,hz⟩:=I.tuple hq;refine SeqAt.notIn_tupleAt (jW ay ds dx) pl (λw hw=>mF I (by show X.A.units+1+30<Tj;lia) rx hx r hs hd w (by simpa using hw)) ⟨.bl _,H,I,rfl,?_⟩;rw[show ay.toArray.any (jW ay ds dx)=ay.any (jW ay ds dx) by simp,pK (by rw[←r.length,←hs.length])];exact q
noncomputable def ug:U->Option (List U)
 | .lst us=>some us
 | .tup us=>some us
 |_=>none
noncomputable def AM (f:Bool->Bool):U->U->R U:=λu w=>match dG u,(ug w).bind d5 with
 |some dx,some ds=>if (ds.all λd=>decide (bP d<=30))=true then .ok (.bl (f (ds.any λd=>fk d dx))) else .stk
 |_,_=>.stk
theorem uh {f:Bool->Bool}:fg K (IB K f) .S (AM f):=λA H x y u w z Q hx hy mu e q=>by
 unfold AM at e;split at e
 ·rename_i dx ds h1 h2;split at e
  ·rename_i hd;cases e;cases w with
   |lst us=>
    unfold Pk at hy;obtain⟨a,xs,rfl,h3,l1,r1⟩:=hy;exact⟨a,xs,ds,dx,rfl,.inl (fi.of h3),t9 hx h1,kI r1 h2,λd m=>of_decide_eq_true (Ri.mp hd d m),q _ H (aI.refl _) (show Rp K H A _ _ from gr)⟩
   |tup us=>
    unfold Pk at hy;obtain⟨a,xs,rfl,h3,l1,r1⟩:=hy;exact⟨a,xs,ds,dx,rfl,.inr (gL.of h3),t9 hx h1,kI r1 h2,λd m=>of_decide_eq_true (Ri.mp hd d m),q _ H (aI.refl _) (show Rp K H A _ _ from gr)⟩
   |_=>cases h2
  ·cases e
 ·cases e
end L2
namespace L2
noncomputable def E4 (j:Nat)(p:U->U->R U)(g2:Ev->R (U×Ev)):Ev->R (U×Ev):=λρ=>if zL ρ j=true then (g2 ρ).bind λy=>match y.2[j]? with
 |some (some u)=>(p u y.1).bind λz=>.ok (z,y.2)
 |_=>.stk else .stk
section
variable {b:RP}{p1:Pos}{b2:Bool}{m2 mr:Md}{g2:Ev->R (U×Ev)}
theorem IC {op:Operator}(ho:iY X (Sr op) r)(hp:fg X.K r mr p)(hb:DE X G b b2 m2 g2)(hN:X.N[j]? = some x:=by rfl)(hv:zk X.env.scope x:=by first|exact Or.inl rfl|exact Or.inr (Or.inl rfl)|exact Or.inr (Or.inr rfl))(hd:(x==("__debug__":Str))=false:=by decide)(kn:(x==("__classdict__":Str))=false:=by decide)(c:G.is j=true:=by rfl):DE X G (.BinOp (.Name x p1) op b pos) b2 mr (E4 j p g2):=⟨(A6 ho (iR hN hv hd kn) hb.un).to λσ H Q h00=>by
 obtain⟨Z,A,ρ,q,f⟩:=h00;unfold E4 at f;by_cases hl:zL ρ j=true
 ·rw[hV hl] at f;obtain⟨u0,hu0⟩:=tU hl;obtain⟨a0,h0,_⟩:=q.own c hu0;obtain⟨⟨w,ρ2⟩,e2,f⟩:=f.bind;refine⟨.ref a0,h0,Z,A,ρ,q,?_⟩;rw[e2];intro v2 H2 q2 x2 s2 s_;dsimp only at f;split at f
  ·rename_i u hu;obtain⟨a1,k1,_,_,_,k5⟩:=q2.own c hu;rw[h0] at k1;cases k1;obtain⟨z,e3,f⟩:=f.bind;refine hp A H2 _ v2 u w z Q k5.pk s_.pk q2.mu e3 λv H' sm vm=>?_;exact f v H' (q2.same sm) (x2.trans (eD.same sm)) (lZ s2 sm) (vm.e q2 sm)
  ·exact f.elim
 ·rw[hU hl] at f;exact f.elim⟩
end
end L2
namespace L2
noncomputable def ID:U->U->R Bool
 | .int a,.int b=>.ok (a==b)
 | .bl a,.bl b=>.ok (a==b)
 | .str a,.str b=>.ok (a==b)
 |_,_=>.stk
noncomputable def eF (f:Bool->Bool):U->U->R U:=λu w=>(ID u w).bind λb=>.ok (.bl (f b))
theorem bW:fg K NU .S (eF id):=λA H x y u w z Q hx hy mu e q=>by
 unfold eF at e;obtain⟨b,e1,e2⟩:=R.bind_ok e;unfold ID at e1;split at e1
 ·cases e1;cases e2;rw[hx.int,hy.int];refine⟨rfl,?_⟩;rw[pq];exact q _ H (aI.refl _) (show Rp K H A _ _ from gr)
 ·cases e1;cases e2;rw[hx.bl,hy.bl];refine⟨rfl,?_⟩;rw[tE];exact q _ H (aI.refl _) (show Rp K H A _ _ from gr)
 ·cases e1;cases e2;rw[hx.str,hy.str];refine⟨rfl,?_⟩;rw[pw];exact q _ H (aI.refl _) (show Rp K H A _ _ from gr)
 ·cases e1
theorem pL:fg K NV .S (eF not):=λA H x y u w z Q hx hy mu e q=>by
 unfold eF at e;obtain⟨b,e1,e2⟩:=R.bind_ok e;unfold ID at e1;split at e1
 ·cases e1;cases e2;rw[hx.int,hy.int];refine⟨rfl,?_⟩;rw[pq];exact q _ H (aI.refl _) (show Rp K H A _ _ from gr)
 ·cases e1;cases e2;rw[hx.bl,hy.bl];refine⟨rfl,?_⟩;rw[tE];exact q _ H (aI.refl _) (show Rp K H A _ _ from gr)
 ·cases e1;cases e2;rw[hx.str,hy.str];refine⟨rfl,?_⟩;rw[pw];exact q _ H (aI.refl _) (show Rp K H A _ _ from gr)
 ·cases e1
end L2
namespace L2
noncomputable def vH:Int->List Int->Int
 |m,[]=>m
 |m,n::ns=>vH (if n<m then n else m) ns
end L2
namespace L2
open PySem.W
noncomputable def K5 (tb:List (Str×List Int))(g:Ev->R (U×Ev)):Ev->R (U×Ev):=λρ=>(g ρ).bind λx=>match x.1 with
 | .str w=>match tb.lookup w with
  |some ns=>.ok (.lst (ns.map U.int),x.2)
  |none=>.stk
 |_=>.stk
end L2
namespace L2
open PySem.W
def IE:V->List V->Hp->VK->Prop:=λx vs H Q=>∃y,x=.str y/\vs=[]/\SY (Txt.upper y).length=false/\Q (.str (Txt.upper y)) H
section
variable {e:RP}{b1:Bool}{m1:Md}{g1:Ev->R (U×Ev)}{kr cpos:Pos}
theorem C2:AJ X "str.upper" IE:=by
 intro pins s σ H x vs v us Q I rx rv h;obtain⟨y,rfl,rfl,hf,q⟩:=h;obtain⟨t,rfl⟩:=rx;cases rv;exact call_gives F.slot_str_upper (typeIs_str s y t) F.entry_str_upper (F.args_str_upper_1 _) (gives_str_upper y t hf) ⟨PySem.fit_le hf,⟨.str (Txt.upper y),H,I.tok _,⟨_,rfl⟩,q⟩⟩
noncomputable def ui:U->R U:=λu=>match u with
 | .str y=>if SY (Txt.upper y).length=false then .ok (.str (Txt.upper y)) else .stk
 |_=>.stk
theorem C3 (h:DE X G e b1 m1 g1)(rC:Te e "upper" X.env (Sv e X.env)=Sv e X.env:=by rfl)(rD:(kr.endLine==cpos.line)=true:=by rfl):DE X G (.Call (.Attribute e "upper" kr) [] [] cpos) b1 .S (xh ui g1):=⟨(HD F.plainAttrs_str F.slot_str_upper F.type_str_upper C2 h.un rC rD).to λσ H Q h00=>by
 obtain⟨Z,A,ρ,q,f⟩:=h00;refine⟨Z,A,ρ,q,?_⟩;obtain⟨⟨u,ρ1⟩,e1,f⟩:=f.bind;obtain⟨z,e2,f⟩:=f.bind;rw[e1];intro v H1 q1 x1 s1 vm;dsimp only at e2;unfold ui at e2;cases u with
 |str y=>
  dsimp only at e2;by_cases hf:SY (Txt.upper y).length=false
  ·rw[hV hf] at e2;cases e2;have p:=vm.pk;unfold Pk at p;subst p;exact⟨rfl,y,rfl,rfl,hf,f _ H1 q1 x1 s1 (sG.ofS tR)⟩
  ·rw[hU hf] at e2;cases e2
 |_=>cases e2⟩
end
end L2
namespace L2
open PySem.W
def tL (ns:List Int):TE:=λ_ H Q=>∀p,H p=none->Q (.ref p) (cE H p (.lst (ns.map V.int)))
theorem IF {k1 k2 k3:Key}{v1 v2 v3:V}(LG:k1≠k2)(LH:k1≠k3)(LJ:k2≠k3):lA [] [(k1,v1),(k2,v2),(k3,v3)]=[(k1,v1),(k2,v2),(k3,v3)]:=by
 unfold lA;simp[tO,LG,LH,LJ,LG.symm,LH.symm,LJ.symm]
section
variable {p0:Pos}{e e1 e2 e3:RP}{n1 n2 n3:List Int}{s1 s2 s3:Str}{m:Md}{g:Ev->R (U×Ev)}
theorem Ob {i:Int}{y q p}:PE X (.List [.Constant (.int i) y q] p) (tL [i]):=(m8 (aO iS c9)).to λσ H Q h=>⟨(by decide:(1:Nat)<=QC),h⟩
theorem OV {i j:Int}{y q z r p}:PE X (.List [.Constant (.int i) y q,.Constant (.int j) z r] p) (tL [i,j]):=(m8 (aO iS (aO iS c9))).to λσ H Q h=>⟨(by decide:(2:Nat)<=QC),h⟩
theorem eQ {x:HO}(n:H a=none)(h:H b=some x):cE H a o b=some x:=by
 rw[aL λz=>by rw[z,n] at h;cases h];exact h
theorem E5 {x1 x2 x3 a1 a2 a3}(hu:X.A.units+64<Tj)(h1:PE X e1 (tL n1))(h2:PE X e2 (tL n2))(h3:PE X e3 (tL n3))(he:DE X G e false m g)
  (LG:s1≠s2:=by decide) (LH:s1≠s3:=by decide) (LJ:s2≠s3:=by decide) (l1:n1.length<=QC:=by decide) (l2:n2.length<=QC:=by decide) (l3:n3.length<=QC:=by decide) (ns:HJ e:=by exact λ_ _=>rfl) :
  DE X G (.Subscript (.Dict [some (.Constant (.str s1) x1 a1),some (.Constant (.str s2) x2 a2),some (.Constant (.str s3) x3 a3)] [e1,e2,e3] p0) e pos) false .O (K5 [(s1,n1),(s2,n2),(s3,n3)] g):=by
 refine⟨(Ex (by lia) (Ez (trs:=[(tC (.str s1),tL n1),(tC (.str s2),tL n2),(tC (.str s3),tL n3)]) (p7 eO h1 (p7 eO h2 (p7 eO h3 Ey))) rfl rfl (by simp) (by simp)) he.un ns).to λσ H Q h=>?_⟩;obtain⟨Z,A,ρ,q,f⟩:=h;intro p np p1 f1 p2 f2 p3 f3;have k1:H p1=none:=by
  by_cases c:p1=p
  ·rw[c];exact np
  ·rw[aL c] at f1;exact f1
 have k2:H p2=none:=by
  cases z:H p2 with
  |none=>rfl
  |some o=>rw[eQ f1 (eQ np z)] at f2;cases f2
 have k3:H p3=none:=by
  cases z:H p3 with
  |none=>rfl
  |some o=>rw[eQ f2 (eQ f1 (eQ np z))] at f3;cases f3
 have gp:=eQ (o:=.lst (n3.map V.int)) f3 (eQ (o:=.lst (n2.map V.int)) f2 (eQ (o:=.lst (n1.map V.int)) f1 (aT (H:=H) (a:=p) (o:=.dK []))));have g1:=eQ (o:=.lst (n3.map V.int)) f3 (eQ (o:=.lst (n2.map V.int)) f2 (aT (H:=cE H p (.dK [])) (a:=p1) (o:=.lst (n1.map V.int))));have g2:=eQ (o:=.lst (n3.map V.int)) f3 (aT (H:=cE (cE H p (.dK [])) p1 (.lst (n1.map V.int))) (a:=p2) (o:=.lst (n2.map V.int)));have g3:=aT (H:=cE (cE (cE H p (.dK [])) p1 (.lst (n1.map V.int))) p2 (.lst (n2.map V.int))) (a:=p3) (o:=.lst (n3.map V.int));refine⟨gp,[(.inr s1,.ref p1),(.inr s2,.ref p2),(.inr s3,.ref p3)],rfl,by simp,?_⟩;rw[IF (by simpa using LG) (by simpa using LH) (by simpa using LJ)];generalize hH:cE (cE (cE (cE H p (.dK [])) p1 (.lst (n1.map V.int))) p2 (.lst (n2.map V.int))) p3 (.lst (n3.map V.int))=H3 at gp g1 g2 g3 ⊢;have pn:∀a xs,H3 a=some (.lst xs)->a≠p:=λa xs h z=>by rw[z,gp] at h;cases h
 have sm:aI H (cE H3 p (.dK [(.inr s1,.ref p1),(.inr s2,.ref p2),(.inr s3,.ref p3)])):=λb o eb=>by
  have nb:b≠p:=λz=>by rw[z,np] at eb;cases eb
  rw[aL nb,←hH];exact eQ f3 (eQ f2 (eQ f1 (eQ np eb)))
 refine⟨Z,A,ρ,q.same sm,?_⟩;obtain⟨⟨u,ρ1⟩,e1,f⟩:=f.bind;rw[e1];intro v H5 q5 x5 Pw vm;obtain⟨rfl,s5⟩:=Pw rfl;dsimp only at f;have hp:=s5 _ _ (aT (H:=H3) (a:=p) (o:=.dK [(.inr s1,.ref p1),(.inr s2,.ref p2),(.inr s3,.ref p3)]));have up:∀(a:QX) (ms:List Int),H3 a=some (.lst (ms.map V.int))->H5 a=some (.lst (ms.map V.int)):=λa ms h=>s5 _ _ (by rw[aL (pn a _ h)];exact h);have st:aI H H5:=λb o eb=>s5 b o (sm b o eb);have ko:∀(a:QX) (ms:List Int),H a=none->H5 a=some (.lst (ms.map V.int))->ms.length<=QC->sG X.K G Z .O A ρ1 σ H5 (.lst (ms.map U.int)) (.ref a):=λa ms n h l=>zJ.e q st ⟨a,rfl,n,_,h,by rw[QI];exact l,mj ms⟩;have pk:=vm.pk;cases u with
 |str w=>
  unfold Pk at pk;subst pk;dsimp only at f;by_cases c1:w=s1
  ·subst c1;rw[Q6,beq_self_eq_true] at f;exact⟨p,.ref p1,rfl,.inl ⟨_,.inr w,.inl hp,rfl,by simp[oZ]⟩,f _ _ q5 (eD.same st) (λ_=>⟨rfl,st⟩) (ko p1 n1 k1 (up _ _ g1) l1)⟩
  ·by_cases c2:w=s2
   ·subst c2;rw[Q6,beq_eq_false_iff_ne.mpr c1,Q6,beq_self_eq_true] at f;exact⟨p,.ref p2,rfl,.inl ⟨_,.inr w,.inl hp,rfl,by simp[oZ,LG]⟩,f _ _ q5 (eD.same st) (λ_=>⟨rfl,st⟩) (ko p2 n2 k2 (up _ _ g2) l2)⟩
   ·by_cases c3:w=s3
    ·subst c3;rw[Q6,beq_eq_false_iff_ne.mpr c1,Q6,beq_eq_false_iff_ne.mpr c2,Q6,beq_self_eq_true] at f;exact⟨p,.ref p3,rfl,.inl ⟨_,.inr w,.inl hp,rfl,by simp[oZ,LH,LJ]⟩,f _ _ q5 (eD.same st) (λ_=>⟨rfl,st⟩) (ko p3 n3 k3 (up _ _ g3) l3)⟩
    ·rw[Q6,beq_eq_false_iff_ne.mpr c1,Q6,beq_eq_false_iff_ne.mpr c2,Q6,beq_eq_false_iff_ne.mpr c3,List.lookup_nil] at f;exact f.elim
 |_=>exact f.elim
end
end L2
section
set_option maxHeartbeats 400000
namespace L2
open PySem PySem.Spec PyProof.Rows PySem.W
noncomputable abbrev Gm.w (G:Gm)(W:Hp->Prop):Gm:=⟨G.own,G.io,W⟩
section
variable {w:Rx}{K:Frag}{bh:QG}{A:Rk}{outer:List Env}{s0:QP}{H0:Hp}{E:XK}
variable {np cpos:Pos}{e0:RP}{t:TA}{m:Md}{c:String}
theorem vI (hx:mg x=some (.ref C))(hq:excIn K C yw "ValueError.__new__"=true)(hh:A.handled=none)
  (ha:PA (iF (yv P w C) P w K mg base N qual scope f bh A outer s0 H0 E) [e0] t) (ht:∀σ H (Q:List V->Hp->Prop),(∀xs H',xs.length<=QC->aI H H'->Q xs H')->t σ H Q) (hW:∀H',G.W H'->E (.ref C) none H')
  (hg:Gl (iF (yv P w C) P w K mg base N qual scope f bh A outer s0 H0 E) x:=by rfl) (hd:(x==("__debug__":Str))=false:=by decide)
  (he:QK [e0] (RQ qual scope s0.heap.objs.size f bh)=(false,Sv e0 (RQ qual scope s0.heap.objs.size f bh))::QK [] (RQ qual scope s0.heap.objs.size f bh):=by rfl) :
  DS (iF (yv P w C) P w K mg base N qual scope f bh A outer s0 H0 E) G m (.Raise (some (.Call (.Name x np) [e0] [] cpos)) none pos) (λ_=>.exc c .non):=
 ⟨(B3 hx hq hh ha hg hd he).to λD σ H ⟨Z,A',ρ,q,f⟩=>ht σ H _ λxs H' l sm=>⟨l,hW _ (f H' λa o h=>sm a o (q.bas a o h))⟩⟩
end
section
variable {w:Rx}{K:Frag}
theorem Df.fnX {st:Si}(G:Gm)(m:Md)(s:Ev->SR)(d:Df K mg x st)(S:aE N ps (ao st))(hb:∀(kV kq pm:QG) (an:Option QX) (bh ct:QG) (us:List QG),us.length=ps.length->bindArgs (Rt x x (eK st) (bV st) (ao st) .none kV kq pm an bh ct) ⟨us,[]⟩=pure (ps.zip us))(zd:G.io=false)(ku:∀i,i<ps.length->G.is i=false)(fE:∀(f:QX) (bh:QG) (A:Rk) (outer:List Env) (s0:QP) (H:Hp) (E:XK),et k (A.deeper (RQ x (ao st) s0.heap.objs.size f bh))->
   vi (iF (yv P w C) P w K mg base N x (ao st) f bh A outer s0 H E) (G.w λH'=>E (.ref C) none H') m (bV st) s) :
  ∃(f:QX) (fd:Sq),mg x=some (.ref f)/\Rv K (.ref f)=true/\jH K fd ps []/\iZ P w K mg base (yv P w C) (k+1) f fd ps (M4 K ps.length C λus=>∃c u,bE m N.length s us=.exc c u):=by
 obtain⟨f,fd,mm,F⟩:=d.ex;refine⟨f,fd,mm,F.kp,F.binds hb,?_⟩;obtain⟨oc,od,kV,kq,pm,an,bh,ct,osl,rfl,lk,kn⟩:=F.ex;refine Fz (k:=k) (N:=N) lk kn S (λvs H Q E ⟨us,A,r,_,l,_⟩=>by rw[←r.length];exact l) λA outer s1 H vs Q E hr ⟨us,A0,r,mu,l,⟨c,u,hx⟩,hE⟩=>⟨_,(fE f bh A outer s1 H E hr).un,?_⟩;refine⟨⟨A0,H,0⟩,A0,_,Ak (G:=G.w λH'=>E (.ref C) none H') (N:=N) r mu zd (λi hi=>ku i (by rw[←l];exact hi)),?_⟩;unfold bE at hx;cases e:s (bu N.length us) with
 |exc=>exact λH' hb=>hE H' hb
 |nx=>rw[e] at hx;dsimp only at hx;split at hx<;>cases hx
 |rt=>rw[e] at hx;cases hx
 |bk=>rw[e] at hx;cases hx
 |ct=>rw[e] at hx;cases hx
 |stk=>rw[e] at hx;cases hx
end
end L2
end
namespace L2
open PySem.W
def IG (d:Bool)(tc:TT)(C:QX)(i:Nat)(sp:Sp)(ta:TA)(th:TS):TS:=λD σ H=>tc σ H λd' H1=>d'=d/\ta σ H1 λvs H2=>sp vs H2 (λ_ _=>False) (XE C i th D σ)
section
variable {cc:QX}{g cn n:Str}{p cp rp np hpos ipos:Pos}{a:RP}{as:List RP}{b0:Si}{suite b1 b2:List Si}{ta:TA}{th:TS}{tc:TT}
theorem vJ (d:Bool)(Mh:(if d=true then b1 else b2)=[.Expr (.Call (.Name g p) (a::as) [] cp) rp])(F:iZ X.prog X.w X.K X.mg X.base (yv X.prog X.w C) k f fd ps sp)(hr:et k X.A)(hm:X.mg g=some (.ref f))(Px:Rv X.K (.ref f)=true)(hb:jH X.K fd ps [])(GX:X.stack=X.env::X.outer)(Py:X.env.frame=some X.env.locals)
  (hc:X.mg cn=some (.ref cc)) (JI:exmOne X.K (.ref C) (.ref cc)=some true) (hN:X.N.Nodup) (ht:PT X.nox c tc) (ha:PA X.nox (a::as) ta) (hs:∀ea,pj (X.hand (.ref ea)) (b0::suite) th)
  (hi:X.N[i]? = some n:=by rfl) (JK:X.env.kindOf n=some .local:=by rfl) (hg:Gl X g:=by rfl) (Pz:Gl X cn:=by rfl) (uN:(g==("__debug__":Str))=false:=by decide) (PB:(cn==("__debug__":Str))=false:=by decide)
  (he:QK (a::as) X.env=(false,Sv a X.env)::QK as X.env:=by rfl) (mU:(Sd cp (QK as X.env)).any (·.1)=false:=by rfl) (PD:TM (.Call (.Name g p) (a::as) [] cp) none rp.line X.env=pure false:=by rfl) :
  PS X (.Try [.If c b1 b2 ipos] [.ExceptHandler (some (.Name cn np)) (some n) (b0::suite) hpos] [] [] pos) (IG d tc C i sp ta th):=by
 intro pins s0 σ H0 D I0 h;have PF:X.A.frames=some (X.env::X.outer):=by rw[←GX];exact I0.ok.frames
 refine wpAny_Try_except ?_;refine Tv (wpAny_If (Rh (ht pins s0 σ H0 _ (I0.wish _) h) (λd' s ⟨H,J0,hd,hta⟩=>?_) λ_ _ z=>z.elim));have I:=J0.unwish;subst hd;have eb:∀Q E,Q2 (Q7 X.prog X.w) X.A (execs [.Expr (.Call (.Name g p) (a::as) [] cp) rp] X.env) Q E s->(if d'=true then Q2 (Q7 X.prog X.w) X.A (execs b1 X.env) Q E s else Q2 (Q7 X.prog X.w) X.A (execs b2 X.env) Q E s):=λQ E hx=>by
  cases d' with
  |true=>rw[hV rfl] at Mh ⊢;rw[Mh];exact hx
  |false=>rw[hU QA] at Mh ⊢;rw[Mh];exact hx
 refine eb _ _ (Tv (wpAny_Expr_any ?_ I.quiet PD));refine Ss (kE (X:=X) I hg hm ?_ uN);refine T9 (h₀:=X.base) I.ok.mod.kin Px (Rh (ha cp pins s σ H _ (I.wish _) hta) (λus s1 ⟨vs,H1,J1,r,q⟩=>⟨J1.unwish.kIn,?_⟩) λ_ _ z=>z.elim) he mU;have I1:=J1.unwish;have hl:us.length=ps.length:=by rw[←r.length];exact F.len _ _ _ _ q
 have NI:BindsTo s1 fd ⟨us,[]⟩ (ps.zip us):=by
  have z:=hb s1 us I1.kIn (by rw[Q1];exact hl);rw[Q1] at z;exact z
 refine wpAny_call (Tt (F.run X.A X.stack s1 H1 ⟨us,[]⟩ us vs _ _ hr I1.env0 NI r q) λr s' hq=>?_);cases r with
 |ok fl=>
  cases fl with
  |ret u=>
   obtain⟨v,H',_,_,_,_,_,z⟩:=hq;exact Ry z
  |next=>exact Ry hq
  |brk=>exact Ry hq
  |cont=>exact Ry hq
 |error e=>
  obtain⟨ea,t,L,B,rh,H2,rfl,os,bare,Fl,fl,up,nr,hE⟩:=hq;rw[GX] at fl;have n0:s1.heap.get? ea=none:=by
   cases z:s1.heap.get? ea with
   |none=>rfl
   |some ob=>
    obtain⟨o',z'⟩:=Fl.un.there ea ob z (by simp);rw[nr] at z';cases z'
  have n1:H2 ea=none:=by
   cases z:H2 ea with
   |none=>rfl
   |some ob=>
    obtain⟨o',z'⟩:=B5 (Fl.hok ea ob z);rw[nr] at z';cases z'
  obtain⟨hh,gg,dd,tt,oo⟩:=s';have os:oo=s1.os:=os;subst os;refine wpAny_looks_onW PF Py fl λh4 LK OA=>?_;refine wpAny_landsW LK λh5 NK OB=>?_;have I5:=I1.fly (h:=h5) (g':=gg) (d':=dd) (t':=tt) Fl NK.1 (up.trans (OA.trans OB)) bare;refine wpAny_handleBy_cons (codeAny_handlers_test ?_) (by intro q;cases q);refine kE (X:=X.hand (.ref ea)) (I5.hand _) Pz hc ?_ PB;obtain⟨ob,hob,hoc⟩:=NK.there;have LT:Looks (Q7 X.prog X.w) h5 (typeOf (.ref ea)) (.ref C):=hoc▸(Looks.ld hob).andThen .now;refine (exm_one (M:=Q7 X.prog X.w) I5.kIn LT JI).at ?_;refine codeAny_handlers_suite_as ?_;refine lands_againW NK λh6 OC PH=>?_;have I6:=I1.fly (h:=h6) (g':=gg) (d':=dd) (t':=tt) Fl OC.1 ((up.trans (OA.trans OB)).trans PH) bare;have I7:=aG.track I1 n0 I6 n1 (EY (C:=C) OC.there);refine lU (X:=X.hand (.ref ea)) (I7.hand (.ref ea)) hN hi (.inl JK) (show bc (.ref ea) (.ref ea) from rfl) (λs8 I8=>?_) (.inr JK);refine Rh (hs ea pins s8 _ _ _ I8 (hE ea n1)) (λfl s9 hq=>?_) λ_ _ z=>z.elim;cases fl with
  |next=>
   obtain⟨σ',H',J,z⟩:=hq;exact pH (aG.unhand I.ok J) hN hi JK λs' K=>⟨_,_,K,z⟩
  |brk=>
   obtain⟨σ',H',J,z⟩:=hq;exact pH (aG.unhand I.ok J) hN hi JK λs' K=>⟨_,_,K,z⟩
  |cont=>
   obtain⟨σ',H',J,z⟩:=hq;exact pH (aG.unhand I.ok J) hN hi JK λs' K=>⟨_,_,K,z⟩
  |ret u=>
   obtain⟨v,σ',H',J,rv,z⟩:=hq;exact pH (aG.unhand I.ok J) hN hi JK λs' K=>⟨v,_,_,K,rv,z⟩
end
end L2
namespace L2
open PySem.W
theorem vK (ns:List Int)(n0:Int):∀j,j<=ns.length->(n0::ns).getD (argBest (λi j=>decide ((n0::ns).getD i 0<(n0::ns).getD j 0)) j) 0=vH n0 (ns.take j)
 |0,_=>by simp[argBest,vH]
 |j+1,h=>by
  have ih:=vK ns n0 j (by lia);have hj:j<ns.length:=(by lia)
  have NJ:∀(l:List Int) (m x:Int),vH m (l++[x])=if x<vH m l then x else vH m l:=by
   intro l
   induction l with
   |nil=>intro m x;rfl
   |cons y l ih=>intro m x;exact ih _ x
  rw[Sb hj,NJ,←ih];have g:(n0::ns).getD (j+1) 0=ns[j]:=by simp[Uq,Qy hj]
  rw[argBest];by_cases c:ns[j]<(n0::ns).getD (argBest (λi j=>decide ((n0::ns).getD i 0<(n0::ns).getD j 0)) j) 0
  ·rw[hV c,hV (by rw[g];exact hG c),g]
  ·rw[hU c,hU (by rw[g,decide_eq_true_eq];exact c)]
def GH (K:QB):List V->Hp->VK->Prop:=λxs H Q=>∃p n0 ns,xs=[.ref p]/\fi K H p ((n0::ns).map V.int)/\Q (.int (vH n0 ns)) H
theorem Ao (hc:X.calm=true):fj X (.builtin "min") (GH X.K):=by
 intro pins s σ H xs us Q I r h;obtain⟨p,n0,ns,rfl,hs,q⟩:=h;obtain⟨u,rfl,rx⟩:=jG r;cases rx;obtain⟨ay,rv,pl,_⟩:=I.list hs;have hI:=g6 rv;obtain⟨t1,t2⟩:=nM hI;have sz:(ay.map mE).toArray.size=ns.length+1:=by simp[hI.length]
 have fe:numAt (ay.map mE).toArray=λi=>(n0::ns).getD i 0:=funext t2;refine min_intList (xs:=(ay.map mE).toArray) (I.ok.hd hc) (by rw[t1];exact pl.isList) (by rw[sz];lia) λv h' tk hv k=>?_;obtain⟨t,rfl⟩:=intItems_at hv;rw[sz,Nat.add_sub_cancel,fe];dsimp only;rw[vK ns n0 _ (QJ _),Tz];exact⟨.int _,H,I.kept (t':=tk) k,⟨t,rfl⟩,q⟩
noncomputable def C4:List U->R U:=λus=>match us with
 | [.lst xs]=>match jK xs with
  |some (n::ns)=>.ok (.int (vH n ns))
  |_=>.stk
 |_=>.stk
theorem C5:l4 K (GH K) .S C4:=λA H vs us z Q h mu e q=>by
 unfold C4 at e;split at e
 ·rename_i xs;split at e
  ·rename_i n ns hb;cases e;obtain⟨v,rfl,p⟩:=h.one;unfold Pk at p;obtain⟨a,ys,rfl,h1,l1,r1⟩:=p;rw[kJ hb] at r1;rw[r1.toI] at h1;exact⟨a,n,ns,rfl,fi.of h1,q _ H (aI.refl _) (show Rp K H A _ _ from cy)⟩
  ·cases e
 ·cases e
end L2
noncomputable section
namespace Hc
open PySem L2
noncomputable abbrev xx:Gm:=⟨[false],false,λ_=>False⟩
noncomputable def lE:Ev->SR:=(a6 (qe (gw "int" (ag 0)) (BF (gw "bool" (ag 0)))))
noncomputable def g_:List U->R U:=bE .S 1 lE
noncomputable abbrev vL:Gm:=⟨[false,false,false,true,false,false,false,false],false,λ_=>False⟩
noncomputable def ka:Ev->SR:=(az (a_ 3 (oj (ae (ag 0) ak)))
 (az (kX (Ab (ae (ag 1) (ae (ag 2) ak))) (oh 2 (fo (fh 4) (fo (fh 5) og)))
 (kX (Ab (ae (ag 4) (ae (aF cq (ag 1) (ag 5)) ak))) (oh 2 (fo (fh 6) (fo (fh 7) og)))
 (qp 3 (ag 7) (ag 6))))
 (a6 (gb jq (ae (ag 3) ak)))))
noncomputable def cG:List U->R U:=bE .S 8 ka
noncomputable abbrev kb:Gm:=⟨[false,true,false,false],false,λ_=>False⟩
noncomputable def ft:Nat->Ev->SR
 |0=>λ_=>.stk
 |n+1=>let r_arrangements:=bE .O 4 (ft n)
  (az (gH (gB (aF (mX id) (gb dD (ae (ag 0) ak)) (gC (.int 0)))) (a6 (bF (ae (a4 ak) ak))) bf)
 (az (a_ 1 (bF ak))
 (az (kX (gO (ag 0)) (fh 2)
 (az (a_ 3 (jk (gO (ag 0)) [none,some 2] (fh 0) (gB (aF (mX not) (ag 0) (ag 1))) (ag 0)))
 (k8 (gM "list" 1 iK (ae (jk (gO (dz 1 r_arrangements (ae (ag 3) ak))) [none,some 2] (fh 0) jU (aF cF (a4 (ae (ag 1) ak)) (ag 0))) ak)))))
 (a6 (ag 1)))))
noncomputable def fu (n:Nat):List U->R U:=bE .O 4 (ft n)
noncomputable abbrev xy:Gm:=⟨[false,false],false,λ_=>False⟩
noncomputable def lG:Ev->SR:=(az (gH (gB (aF D3 (gb dD (ae (ag 1) ak)) (gC (.int 4)))) (λ_=>.exc "TooMany" .non) bf)
 (a6 (gb jq (ae (jk (gO (dz 1 (fu 6) (ae (oj (ae (gb dD (ae (ag 1) ak)) ak)) ak))) [none,some 0,some 1] (fh 0) jU (dz 3 cG (ae (ag 1) (ae (ag 2) (ae (ag 0) ak))))) ak))))
noncomputable def ic:List U->R U:=bE .S 2 lG
noncomputable abbrev Ap:Gm:=⟨[false],false,λ_=>False⟩
noncomputable def sU:Ev->SR:=(a6 (a4 (ae (aF k9 (gC (.int 2)) (ag 0)) (ae (aF cF (aF k9 (gC (.int 2)) (ag 0)) (gC (.int 1))) ak))))
noncomputable def gU:List U->R U:=bE .S 1 sU
noncomputable abbrev C6:Gm:=⟨[false],false,λ_=>False⟩
noncomputable def qL:Ev->SR:=(a6 (a4 (ae (aF cq (ag 0) (gC (.int 1))) (ae (aF cq (ag 0) (gC (.int 0))) ak))))
noncomputable def dk:List U->R U:=bE .S 1 qL
noncomputable abbrev nO:Gm:=⟨[false,false,false],false,λ_=>False⟩
noncomputable def fT:Ev->SR:=(a6 (a4 (ae (gC (.str "mix")) (ae (dz 2 ic (ae (ag 0) (ae (ag 1) ak))) (ae (a4 (ae (gC (.str "look")) (ae (a4 (ae (aF cq (aF cq (ag 1) (gC (.int 0))) (gC (.int 0))) ak)) (ae (a4 (ae (a4 (ae (a4 (ae (gC (.int 0)) ak)) (ae (aF cq (ag 2) (gC (.int 0))) ak))) (ae (a4 (ae (a4 (ae (gC (.int 1)) ak)) (ae (aF cq (ag 2) (gC (.int 1))) ak))) ak))) ak)))) ak)))))
noncomputable def cu:List U->R U:=bE .S 3 fT
noncomputable abbrev Aq:Gm:=⟨[false,false],false,λ_=>False⟩
noncomputable def sV:Ev->SR:=(a6 (a4 (ae (aF cF (a4 (ae (aF cq (ag 0) (gC (.int 0))) ak)) (gb jq (ae (jk (gO (ag 1)) [none] (fh 0) jU (aF cq (ag 0) (gC (.int 0)))) ak))) (ae (aF cF (a4 (ae (aF cq (ag 0) (gC (.int 1))) ak)) (gb jq (ae (jk (gO (ag 1)) [none] (fh 0) jU (aF cq (ag 0) (gC (.int 1)))) ak))) ak))))
noncomputable def nP:List U->R U:=bE .S 2 sV
noncomputable abbrev xA:Gm:=⟨[false,false,false],false,λ_=>False⟩
noncomputable def qM:Ev->SR:=(a6 (a4 (ae (aF cF (a4 (ae (aF cq (ag 0) (gC (.int 0))) ak)) (ag 1)) (ae (aF cF (a4 (ae (aF cq (ag 0) (gC (.int 1))) ak)) (ag 2)) ak))))
noncomputable def jt:List U->R U:=bE .S 3 qM
noncomputable abbrev Ar:Gm:=⟨[false],false,λ_=>False⟩
noncomputable def bY:Ev->SR:=(az (gH (yd (jT (gB (gw "tuple" (ag 0)))) (gB (aF (mX id) (gb dD (ae (ag 0) ak)) (gC (.int 0))))) (a6 (gC (.bl false))) bf)
 (az (gH (gB (aF (mX id) (aF cq (ag 0) (gC (.int 0))) (gC (.str "bit")))) (a6 (qe (aF (mX id) (gb dD (ae (ag 0) ak)) (gC (.int 2))) (dz 1 g_ (ae (aF cq (ag 0) (gC (.int 1))) ak)))) bf)
 (az (gH (gB (aF (mX id) (aF cq (ag 0) (gC (.int 0))) (gC (.str "not")))) (a6 (aF (mX id) (gb dD (ae (ag 0) ak)) (gC (.int 2)))) bf)
 (a6 (qe (aF (mX id) (gb dD (ae (ag 0) ak)) (gC (.int 3))) (aF (AM id) (aF cq (ag 0) (gC (.int 0))) (a4 (ae (gC (.str "all")) (ae (gC (.str "any")) (ae (gC (.str "one")) ak))))))))))
noncomputable def bp:List U->R U:=bE .S 1 bY
noncomputable abbrev mG:Gm:=⟨[false,true,false],false,λ_=>False⟩
noncomputable def cw:Ev->SR:=(gH (gB (aF (eF not) (aF cq (ag 2) (gC (.int 0))) (gC (.str "bit")))) (k8 (gM "list" 1 iK (ae (qg oi (ag 2) (dE (gC (.int 1))) dN) ak))) bf)
noncomputable def fv:Ev->SR:=(az (a_ 1 (bF ak))
 (az (kX (gO (ag 0)) (fh 2)
 cw)
 (a6 (ag 1))))
noncomputable def bZ:List U->R U:=bE .O 3 fv
noncomputable abbrev uj:Gm:=⟨[false,false,false,true],false,λ_=>False⟩
noncomputable def ju:Ev->SR:=(az (a_ 1 (bF (ae (ag 0) ak)))
 (az (a_ 2 (gC (.int 0)))
 (az (a_ 3 (bF ak))
 (az (gI (gB (aF D3 (gb dD (ae (ag 1) ak)) (gC (.int 0))))
 (az (BP 2 (Kw (λi j=>i+j)) (gC (.int 1)))
 (az (gH (yd (gB (aF D3 (ag 2) (gC (.int 20)))) (gB (aF D3 (gb dD (ae (ag 1) ak)) (gC (.int 3))))) (a6 (gC (.bl false))) bf)
 (az (gH (jT (gB (gb zR (ae (jk (gO (ag 1)) [none] (fh 0) jU (dz 1 bp (ae (ag 0) ak))) ak)))) (a6 (gC (.bl false))) bf)
 (az (k8 (gM "list" 3 iK (ae (jk (gO (ag 1)) [none] (fh 0) (gB (aF (mX id) (aF cq (ag 0) (gC (.int 0))) (gC (.str "bit")))) (aF cq (ag 0) (gC (.int 1)))) ak)))
 (a_ 1 (dz 1 bZ (ae (ag 1) ak))))))) 1000)
 (a6 (qe (aF Kx (gb dD (ae (ag 3) ak)) (gC (.int 3))) (aF (mX id) (gb j7 (ae (ag 3) ak)) (oj (ae (gb dD (ae (ag 3) ak)) ak)))))))))
noncomputable def aB:List U->R U:=bE .S 4 ju
noncomputable abbrev qN:Gm:=⟨[false,false,false],false,λ_=>False⟩
noncomputable def dO:Nat->Ev->SR
 |0=>λ_=>.stk
 |n+1=>let r_reckoned:=bE .S 3 (dO n)
  (az (gH (gB (aF (eF id) (aF cq (ag 0) (gC (.int 0))) (gC (.str "bit")))) (a6 (aF cq (ag 1) (aF cq (ag 0) (gC (.int 1))))) bf)
 (az (a_ 2 (jk (gO (qg oi (ag 0) (dE (gC (.int 1))) dN)) [none,some 1] (fh 0) jU (dz 2 r_reckoned (ae (ag 0) (ae (ag 1) ak)))))
 (az (gH (gB (aF (eF id) (aF cq (ag 0) (gC (.int 0))) (gC (.str "not")))) (a6 (aF vp (gC (.int 1)) (aF cq (ag 2) (gC (.int 0))))) bf)
 (az (gH (gB (aF (eF id) (aF cq (ag 0) (gC (.int 0))) (gC (.str "all")))) (a6 (gb C4 (ae (ag 2) ak))) bf)
 (az (gH (gB (aF (eF id) (aF cq (ag 0) (gC (.int 0))) (gC (.str "any")))) (a6 (gb C0 (ae (ag 2) ak))) bf)
 (a6 (aF t7 (gb CY (ae (ag 2) ak)) (gC (.int 2)))))))))
noncomputable def cN (n:Nat):List U->R U:=bE .S 3 (dO n)
noncomputable abbrev yS:Gm:=⟨[false,false],false,λ_=>False⟩
noncomputable def uk:Ev->SR:=(az (gH (jT (gB (dz 1 aB (ae (ag 0) ak)))) (λ_=>.exc "NoFormula" .non) bf)
 (a6 (dz 2 (cN 30) (ae (ag 0) (ae (ag 1) ak)))))
noncomputable def kM:List U->R U:=bE .S 2 uk
noncomputable abbrev qO:Gm:=⟨[false,false,false,false],false,λ_=>False⟩
noncomputable def dP:Nat->Ev->SR
 |0=>λ_=>.stk
 |n+1=>let r_steps_of:=bE .S 4 (dP n)
  (az (gH (gB (aF (eF id) (aF cq (ag 0) (gC (.int 0))) (gC (.str "bit")))) (az (a_ 2 (dz 1 gU (ae (aF cq (ag 0) (gC (.int 1))) ak)))
 (a6 (bF (ae (FG (gB (ag 1)) (dz 1 dk (ae (ag 2) ak)) (ag 2)) ak)))) bf)
 (az (gH (gB (aF (eF id) (aF cq (ag 0) (gC (.int 0))) (gC (.str "not")))) (a6 (dz 2 r_steps_of (ae (aF cq (ag 0) (gC (.int 1))) (ae (BF (ag 1)) ak)))) bf)
 (az (gH (gB (aF (eF id) (aF cq (ag 0) (gC (.int 0))) (gC (.str "one")))) (a6 (aF cF (aF cF (dz 2 r_steps_of (ae (aF cq (ag 0) (gC (.int 1))) (ae (ag 1) ak))) (dz 2 r_steps_of (ae (aF cq (ag 0) (gC (.int 2))) (ae (gC (.bl false)) ak)))) (bF (ae (gC (.str "one")) ak)))) bf)
 (az (a_ 3 (FG (gB (aF (eF not) (aF (eF id) (aF cq (ag 0) (gC (.int 0))) (gC (.str "all"))) (ag 1))) (gC (.str "all")) (gC (.str "any"))))
 (a6 (aF cF (aF cF (dz 2 r_steps_of (ae (aF cq (ag 0) (gC (.int 1))) (ae (ag 1) ak))) (dz 2 r_steps_of (ae (aF cq (ag 0) (gC (.int 2))) (ae (ag 1) ak)))) (bF (ae (ag 3) ak))))))))
noncomputable def dQ (n:Nat):List U->R U:=bE .S 4 (dP n)
noncomputable abbrev xB:Gm:=⟨[false,false,false,false],false,λ_=>False⟩
noncomputable def qP:Ev->SR:=(az (gH (gB (aF (eF id) (ag 0) (gC (.str "one")))) (a6 (dz 2 nP (ae (ag 1) (ae (a4 (ae (ag 2) ak)) ak)))) bf)
 (az (gH (gB (aF (eF id) (ag 0) (gC (.str "all")))) (a6 (dz 3 jt (ae (ag 1) (ae (ag 3) (ae (ag 2) ak))))) bf)
 (a6 (dz 3 jt (ae (ag 1) (ae (ag 2) (ae (dz 1 dk (ae (ag 3) ak)) ak)))))))
noncomputable def ie:List U->R U:=bE .S 4 qP
noncomputable abbrev rR:Gm:=⟨[false,false,false,false],false,λ_=>False⟩
noncomputable def k_:Ev->SR:=(az (gH (gB (aF (eF id) (ag 0) (gC (.str "one")))) (a6 (FG (gB (aF (eF id) (ag 3) (gC (.int 1)))) (dz 1 dk (ae (ag 2) ak)) (ag 2))) bf)
 (a6 (qg oi (aF cq (ag 1) (ag 3)) (dE (gC (.int 1))) dN)))
noncomputable def eH:List U->R U:=bE .S 4 k_
noncomputable abbrev oN:Gm:=⟨[false,false,false,false,false,false,false,false,true,false,false,false],false,λ_=>False⟩
noncomputable def c0:Nat->Ev->SR
 |0=>λ_=>.stk
 |n+1=>let r_plan_from:=bE .S 12 (c0 n)
  (az (gH (gB (aF (eF id) (gb dD (ae (ag 1) ak)) (gC (.int 0)))) (a6 (a4 (ae (gC (.str "end")) (ae (aF cq (ag 2) (gC (.int 0))) ak)))) bf)
 (az (a_ 4 (aF cq (ag 1) (gC (.int 0))))
 (az (gH (gB (gw "tuple" (ag 4))) (a6 (dz 4 r_plan_from (ae (ag 0) (ae (qg oi (ag 1) (dE (gC (.int 1))) dN) (ae (aF cF (ag 2) (bF (ae (ag 4) ak))) (ae (ag 3) ak)))))) bf)
 (az (a_ 5 (aF cq (ag 2) (xh nE (gC (.int 2)))))
 (az (a_ 6 (aF cq (ag 2) (xh nE (gC (.int 1)))))
 (az (a_ 7 (dz 4 ie (ae (ag 4) (ae (ag 5) (ae (ag 6) (ae (ag 3) ak))))))
 (az (a_ 8 (bF ak))
 (az (kX (gO (a4 (ae (gC (.int 0)) (ae (gC (.int 1)) ak)))) (fh 9)
 (az (a_ 10 (dz 4 eH (ae (ag 4) (ae (ag 7) (ae (ag 6) (ae (ag 9) ak))))))
 (az (a_ 11 (FG (gB (aF (eF id) (ag 9) (gC (.int 1)))) (dz 1 dk (ae (ag 5) ak)) (ag 5)))
 (k8 (gM "list" 8 kK (ae (dz 4 r_plan_from (ae (ag 0) (ae (qg oi (ag 1) (dE (gC (.int 1))) dN) (ae (aF cF (qg oi (ag 2) dN (dE (xh nE (gC (.int 2))))) (bF (ae (ag 10) ak))) (ae (ag 11) ak))))) ak))))))
 (xu 8 (a6 (dz 3 cu (ae (ag 0) (ae (ag 7) (ae (ag 8) ak))))))))))))))
noncomputable def bg (n:Nat):List U->R U:=bE .S 12 (c0 n)
noncomputable abbrev sW:Gm:=⟨[false,false,false],false,λ_=>False⟩
noncomputable def nQ:Ev->SR:=(az (gH (jT (gB (dz 1 aB (ae (ag 0) ak)))) (λ_=>.exc "NoFormula" .non) bf)
 (az (a_ 1 (dz 2 (dQ 30) (ae (ag 0) (ae (gC (.bl false)) ak))))
 (az (a_ 2 (gb dD (ae (jk (gO (ag 1)) [none] (fh 0) (gB (gw "tuple" (ag 0))) (ag 0)) ak)))
 (a6 (dz 4 (bg 10) (ae (aF cF (aF k9 (gC (.int 2)) (ag 2)) (gC (.int 2))) (ae (ag 1) (ae (bF ak) (ae (dz 1 gU (ae (ag 2) ak)) ak)))))))))
noncomputable def cR:List U->R U:=bE .S 3 nQ
noncomputable abbrev qQ:Gm:=⟨[false,false],false,λ_=>False⟩
noncomputable def fw:Ev->SR:=(az (gH (gB (aF JD (ag 1) (gb dD (ae (ag 0) ak)))) (a6 (aF cq (ag 0) (ag 1))) bf)
 (a6 (gC (.int 0))))
noncomputable def cS:List U->R U:=bE .S 2 fw
noncomputable abbrev um:Gm:=⟨[false,false,false],false,λ_=>False⟩
noncomputable def gP:Ev->SR:=(az (a_ 2 (dz 2 cS (ae (ag 0) (ae (ag 1) ak))))
 (az (gH (gB (aF MX (ag 2) (aF EO (gC (.int 10)) (gC (.int 18))))) (a6 (bF (ae (aF vp (ag 2) (aF EO (gC (.int 10)) (gC (.int 18)))) (ae (gC (.bl true)) ak)))) bf)
 (a6 (bF (ae (aF t7 (ag 2) (gC (.int 2147483647))) (ae (gC (.bl false)) ak))))))
noncomputable def fA:List U->R U:=bE .O 3 gP
noncomputable abbrev vM:Gm:=⟨[true,false,false,false],true,λ_=>False⟩
noncomputable def iM:Ev->SR:=(az (gH (gB (aF cq (ag 0) (gC (.int 1)))) (az (a_ 2 (aF t7 (aF cq (ag 0) (gC (.int 0))) (ag 1)))
 (az (qp 0 (aF ym (aF cq (ag 0) (gC (.int 0))) (ag 1)) (gC (.int 0)))
 (a6 (ag 2)))) bf)
 (az (qp 0 (aF t7 (aF cF (aF k9 (aF cq (ag 0) (gC (.int 0))) (gC (.int 48271))) (gC (.int 29))) (gC (.int 2147483647))) (gC (.int 0)))
 (az (a_ 3 (aF t7 (aF cF (aF cF (aF k9 (aF cq (ag 0) (gC (.int 0))) (aF cq (ag 0) (gC (.int 0)))) (aF k9 (gC (.int 39373)) (aF cq (ag 0) (gC (.int 0))))) (gC (.int 7))) (gC (.int 2147483629))))
 (az (a_ 3 (aF t7 (aF cF (aF k9 (ag 3) (ag 3)) (aF k9 (gC (.int 16807)) (ag 3))) (gC (.int 2147483587))))
 (a6 (aF t7 (aF ym (ag 3) (gC (.int 8))) (ag 1)))))))
noncomputable def aS:List U->R (U×U):=qm 4 iM
noncomputable abbrev jv:Gm:=⟨[true,false,true],true,λ_=>False⟩
noncomputable def jw:Ev->SR:=(az (a_ 2 (oj (ae (ag 1) ak)))
 (a6 (gb jq (ae (EM jv (l7 (ae (ag 1) ak)) [none,some 2,some 0] (fh 0) jU (gM "list" 1 nJ (ae (nq 2 2 aS (ae (gb dD (ae (ag 1) ak)) ak)) ak))) ak))))
noncomputable def fB:List U->R (U×U):=qm 3 jw
noncomputable abbrev kc:Gm:=⟨[true,false,false,false,false,false],true,λ_=>False⟩
noncomputable def dR:Nat->Ev->SR
 |0=>λ_=>.stk
 |n+1=>let r__law_formula:=qm 6 (dR n)
  (az (gH (gB (aF (mX id) (gb dD (ae (ag 1) ak)) (gC (.int 1)))) (a_ 2 (a4 (ae (gC (.str "bit")) (ae (aF cq (ag 1) (gC (.int 0))) ak)))) (az (a_ 3 (aF cF (gC (.int 1)) (nq 2 0 aS (ae (aF vp (gb dD (ae (ag 1) ak)) (gC (.int 1))) ak))))
 (az (a_ 4 (bF (ae (nq 2 0 r__law_formula (ae (qg oi (ag 1) dN (dE (ag 3))) ak)) (ae (nq 2 0 r__law_formula (ae (qg oi (ag 1) (dE (ag 3)) dN) ak)) ak))))
 (a_ 2 (a4 (ae (aF cq (bF (ae (gC (.str "all")) (ae (gC (.str "any")) (ae (gC (.str "one")) ak)))) (nq 2 0 aS (ae (gC (.int 3)) ak))) (ae (aF cq (ag 4) (gC (.int 0))) (ae (aF cq (ag 4) (gC (.int 1))) ak))))))))
 (az (kX (l7 (ae (aF cq (bF (ae (gC (.int 0)) (ae (gC (.int 0)) (ae (gC (.int 0)) (ae (gC (.int 1)) (ae (gC (.int 1)) (ae (gC (.int 2)) ak))))))) (nq 2 0 aS (ae (gC (.int 6)) ak))) ak)) (fh 5)
 (a_ 2 (a4 (ae (gC (.str "not")) (ae (ag 2) ak)))))
 (a6 (ag 2))))
noncomputable def bQ (n:Nat):List U->R (U×U):=qm 6 (dR n)
noncomputable abbrev kY:Gm:=⟨[true,false],true,λ_=>False⟩
noncomputable def ei:Ev->SR:=(az (a_ 1 (nq 2 0 fB (ae (aF cF (gC (.int 1)) (nq 2 0 aS (ae (gC (.int 3)) ak))) ak)))
 (a6 (nq 2 0 (bQ 6) (ae (ag 1) ak))))
noncomputable def cQ:List U->R (U×U):=qm 2 ei
noncomputable abbrev mH:Gm:=⟨[false,false,false],false,λ_=>False⟩
noncomputable def cH:Nat->Ev->SR
 |0=>λ_=>.stk
 |n+1=>let r__law_worth:=bE .S 3 (cH n)
  (az (gH (gB (aF (eF id) (aF cq (ag 0) (gC (.int 0))) (gC (.str "bit")))) (a6 (aF cq (ag 1) (aF cq (ag 0) (gC (.int 1))))) bf)
 (az (gH (gB (aF (eF id) (aF cq (ag 0) (gC (.int 0))) (gC (.str "not")))) (a6 (aF vp (gC (.int 1)) (dz 2 r__law_worth (ae (aF cq (ag 0) (gC (.int 1))) (ae (ag 1) ak))))) bf)
 (az (a_ 2 (aF cF (dz 2 r__law_worth (ae (aF cq (ag 0) (gC (.int 1))) (ae (ag 1) ak))) (dz 2 r__law_worth (ae (aF cq (ag 0) (gC (.int 2))) (ae (ag 1) ak)))))
 (a6 (gb Ig (ae (aF (AM id) (ag 2) (K5 [("all",[2]),("any",[1,2]),("one",[1])] (aF cq (ag 0) (gC (.int 0))))) ak))))))
noncomputable def cI (n:Nat):List U->R U:=bE .S 3 (cH n)
noncomputable abbrev ke:Gm:=⟨[false,false,false],false,λ_=>False⟩
noncomputable def bR:Nat->Ev->SR
 |0=>λ_=>.stk
 |n+1=>let r__law_bits_in:=bE .O 3 (bR n)
  (az (gH (gB (aF (eF id) (aF cq (ag 0) (gC (.int 0))) (gC (.str "bit")))) (a6 (bF (ae (aF cq (ag 0) (gC (.int 1))) ak))) bf)
 (az (a_ 1 (bF ak))
 (az (kX (gO (qg oi (ag 0) (dE (gC (.int 1))) dN)) (fh 2)
 (a_ 1 (aF cF (ag 1) (dz 1 r__law_bits_in (ae (ag 2) ak)))))
 (a6 (gb j7 (ae (ag 1) ak))))))
noncomputable def bS (n:Nat):List U->R U:=bE .O 3 (bR n)
noncomputable abbrev o7:Gm:=⟨[false,false,false],false,λ_=>False⟩
noncomputable def jM:Ev->SR:=(az (a_ 1 (bF (ae (a4 ak) ak)))
 (az (kX (l7 (ae (ag 0) ak)) (fh 2)
 (a_ 1 (aF cF (jk (gO (ag 1)) [none] (fh 0) jU (aF cF (ag 0) (a4 (ae (gC (.int 0)) ak)))) (jk (gO (ag 1)) [none] (fh 0) jU (aF cF (ag 0) (a4 (ae (gC (.int 1)) ak)))))))
 (a6 (ag 1))))
noncomputable def eN:List U->R U:=bE .S 3 jM
noncomputable abbrev vN:Gm:=⟨[false,false,false],false,λ_=>False⟩
noncomputable def kf:Ev->SR:=(az (kX (l7 (ae (ag 1) ak)) (fh 2)
 (a_ 0 (a4 (ae (gC (.str "not")) (ae (ag 0) ak)))))
 (a6 (ag 0)))
noncomputable def cg:List U->R U:=bE .S 3 kf
noncomputable abbrev oO:Gm:=⟨[true,false,false,false,false,false],true,λ_=>False⟩
noncomputable def cJ:Nat->Ev->SR
 |0=>λ_=>.stk
 |n+1=>let r__law_bent:=qm 6 (cJ n)
  (az (gH (yd (jT (gB (gw "tuple" (ag 1)))) (yd (gB (aF (mX id) (ag 1) (a4 ak))) (jT (gB (gw "str" (aF cq (ag 1) (gC (.int 0)))))))) (a6 (gC .non)) bf)
 (az (a_ 2 (nq 2 0 aS (ae (gC (.int 9)) ak)))
 (az (a_ 3 (bF (ae (a4 (ae (gC (.str "bit")) (ae (gC (.int 0)) ak))) (ae (a4 (ae (gC (.str "bit")) (ae (gC (.int 2)) ak))) (ae (a4 (ae (gC (.str "bit")) (ae (gC (.int 3)) ak))) (ae (a4 (ae (gC (.str "bit")) (ae (xh nE (gC (.int 1))) ak))) (ae (a4 (ae (gC (.str "bit")) (ae (gC (.bl true)) ak))) (ae (a4 (ae (gC (.str "bit")) (ae (gC .non) ak))) (ae (gC .non) (ae (gC (.str "bit")) (ae (gC (.int 0)) ak)))))))))))
 (az (a_ 4 (aF cq (ag 3) (nq 2 0 aS (ae (gC (.int 9)) ak))))
 (az (a_ 5 (bF (ae (gb vv (ae (ag 1) ak)) (ae (aF cF (ag 1) (a4 (ae (ag 4) ak))) (ae (qg oi (ag 1) dN (dE (xh nE (gC (.int 1))))) (ae (aF cF (a4 (ae (xh ui (aF cq (ag 1) (gC (.int 0)))) ak)) (qg oi (ag 1) (dE (gC (.int 1))) dN)) ak))))))
 (az (a_ 5 (aF cF (ag 5) (bF (ae (aF cF (a4 (ae (ag 4) ak)) (qg oi (ag 1) (dE (gC (.int 1))) dN)) (ae (ag 4) ak)))))
 (az (gH (gB (aF JD (ag 2) (gC (.int 6)))) (a6 (aF cq (ag 5) (ag 2))) bf)
 (az (gH (yd (gB (aF (mX id) (aF cq (ag 1) (gC (.int 0))) (gC (.str "bit")))) (gB (aF (mX id) (ag 2) (gC (.int 6))))) (a6 (aF cF (aF cF (qg oi (ag 1) dN (dE (gC (.int 1)))) (a4 (ae (ag 4) ak))) (qg oi (ag 1) (dE (gC (.int 2))) dN))) bf)
 (a6 (aF cF (qg oi (ag 1) dN (dE (xh nE (gC (.int 1))))) (a4 (ae (nq 2 0 r__law_bent (ae (aF cq (ag 1) (xh nE (gC (.int 1)))) ak)) ak))))))))))))
noncomputable def bB (n:Nat):List U->R (U×U):=qm 6 (cJ n)
noncomputable abbrev oP:Gm:=⟨[false,false,false,false,false,false],false,λ_=>False⟩
noncomputable def bC:Nat->Ev->SR
 |0=>λ_=>.stk
 |n+1=>let r__law_look:=bE .S 6 (bC n)
  (az (gH (yd (gB (aF D3 (ag 1) (gC (.int 20)))) (yd (jT (gB (gw "tuple" (ag 0)))) (gB (aF JD (gb dD (ae (ag 0) ak)) (gC (.int 2)))))) (a6 (gC .non)) bf)
 (az (a_ 2 (aF cq (ag 0) (gC (.int 0))))
 (az (gH (zK (gB (aF (mX id) (ag 2) (gC (.str "bit")))) (gB (aF (mX id) (gb dD (ae (ag 0) ak)) (gC (.int 2))))) (az (a_ 3 (aF cq (ag 0) (gC (.int 1))))
 (az (a_ 4 (qe (gw "int" (ag 3)) (qe (BF (gw "bool" (ag 3))) (tT Kx JD (gC (.int 0)) (ag 3) (gC (.int 3))))))
 (a6 (FG (gB (ag 4)) (bF (ae (ag 3) ak)) (gC .non))))) bf)
 (az (gH (zK (gB (aF (mX id) (ag 2) (gC (.str "not")))) (gB (aF (mX id) (gb dD (ae (ag 0) ak)) (gC (.int 2))))) (a6 (dz 2 r__law_look (ae (aF cq (ag 0) (gC (.int 1))) (ae (aF cF (ag 1) (gC (.int 1))) ak)))) bf)
 (az (gH (zK (gB (aF (AM id) (ag 2) (bF (ae (gC (.str "all")) (ae (gC (.str "any")) (ae (gC (.str "one")) ak)))))) (gB (aF (mX id) (gb dD (ae (ag 0) ak)) (gC (.int 3))))) (az (a_ 5 (jk (gO (qg oi (ag 0) (dE (gC (.int 1))) dN)) [none,some 1] (fh 0) jU (dz 2 r__law_look (ae (ag 0) (ae (aF cF (ag 1) (gC (.int 1))) ak)))))
 (gH (gB (aF (AM not) (gC .non) (ag 5))) (a6 (aF cF (aF cq (ag 5) (gC (.int 0))) (aF cq (ag 5) (gC (.int 1))))) bf)) bf)
 (a6 (gC .non)))))))
noncomputable def aY (n:Nat):List U->R U:=bE .S 6 (bC n)
noncomputable abbrev xC:Gm:=⟨[false,false],false,λ_=>False⟩
noncomputable def ig:Ev->SR:=(az (a_ 1 (dz 2 (aY 24) (ae (ag 0) (ae (gC (.int 1)) ak))))
 (a6 (qe (aF (xl not) (ag 1) (gC .non)) (aF (mX id) (gb j7 (ae (ag 1) ak)) (oj (ae (gb dD (ae (ag 1) ak)) ak))))))
noncomputable def eR:List U->R U:=bE .S 2 ig
noncomputable def aQ:List U->R U:=λus=>match us with
 | [.int n,t]=>match aB [t] with
  | .ok (.bl false)=>.ok (.str "formula")
  | .ok (.bl true)=>if n=0 then .stk else (match cR [t] with
   | .ok _=>.ok .non
   |_=>.stk)
  |_=>.stk
 |_=>.stk
noncomputable abbrev uo:Gm:=⟨[false,false,false,false],false,λ_=>False⟩
noncomputable def iV:Ev->SR:=(az (a_ 3 (dz 2 kM (ae (ag 0) (ae (ag 2) ak))))
 (gH (yd (jT (gB (gw "int" (ag 3)))) (yd (gB (gw "bool" (ag 3))) (gB (aF (eF not) (ag 3) (dz 2 (cI 30) (ae (ag 0) (ae (ag 2) ak))))))) (a6 (gC (.bl false))) bf))
noncomputable def gQ:Ev->SR:=(az (a_ 1 (dz 1 aB (ae (ag 0) ak)))
 (az (gH (yd (jT (gB (gw "bool" (ag 1)))) (gB (aF (eF not) (ag 1) (dz 1 eR (ae (ag 0) ak))))) (a6 (gC (.bl false))) bf)
 (az (gH (jT (gB (ag 1))) (a6 (qe (aF (eF id) (dz 2 aQ (ae (gC (.int 0)) (ae (ag 0) ak))) (gC (.str "formula"))) (aF (eF id) (dz 2 aQ (ae (gC (.int 1)) (ae (ag 0) ak))) (gC (.str "formula"))))) bf)
 (az (kX (gO (dz 1 eN (ae (gb dD (ae (dz 1 (bS 30) (ae (ag 0) ak)) ak)) ak))) (fh 2)
 iV)
 (a6 (aF (xl id) (dz 2 aQ (ae (gC (.int 1)) (ae (ag 0) ak))) (gC .non)))))))
noncomputable def bL:List U->R U:=bE .S 4 gQ
noncomputable abbrev K6:Gm:=⟨[false,false,true,false,true],false,λ_=>False⟩
noncomputable def uq:Ev->SR:=(az (a_ 2 (dz 2 fA (ae (ag 0) (ae (ag 1) ak))))
 (az (a_ 3 (nq 1 2 cQ ak))
 (az (a_ 4 (bF (ae (ag 3) (ae (nq 2 2 (bB 20) (ae (ag 3) ak)) (ae (nq 2 2 (bB 20) (ae (ag 3) ak)) ak)))))
 (az (k8 (gM "list" 4 kK (ae (nq 2 2 (bB 20) (ae (nq 2 2 (bB 20) (ae (a4 (ae (gC (.str "not")) (ae (ag 3) ak))) ak)) ak)) ak)))
 (az (a_ 4 (E4 4 zP (bF (ae (dz 2 cg (ae (ag 3) (ae (aF cF (gC (.int 15)) (nq 2 2 aS (ae (gC (.int 6)) ak))) ak))) (ae (dz 2 cg (ae (a4 (ae (gC (.str "bit")) (ae (gC (.int 0)) ak))) (ae (gC (.int 18)) ak))) (ae (gC .non) (ae (gC (.int 7)) ak)))))))
 (az (a_ 4 (aF zP (ag 4) (bF (ae (dz 2 cg (ae (a4 (ae (gC (.str "bit")) (ae (gC (.int 0)) ak))) (ae (gC (.int 19)) ak))) (ae (dz 2 cg (ae (a4 (ae (gC (.str "bit")) (ae (gC (.int 0)) ak))) (ae (gC (.int 20)) ak))) (ae (a4 (ae (gC (.str "all")) (ae (ag 3) (ae (ag 3) ak)))) (ae (a4 ak) ak)))))))
 (gH (gB (aF (mX not) (jk (gO (ag 4)) [none] (fh 0) (jT (gB (dz 1 bL (ae (ag 0) ak)))) (ag 0)) (bF ak))) (a6 (gC (.bl false))) bf)))))))
noncomputable def C7:Ev->SR:=(az (kX (l7 (ae (gb yq (ae (gC (.int 1)) (ae (gb yr (ae (gb dD (ae (ag 0) ak)) (ae (gC (.int 4)) ak))) ak))) ak)) (fh 1)
 uq)
 (a6 (gC (.bl true))))
noncomputable def vO:List U->R U:=bE .S 5 C7
end Hc
end
namespace Hc
open L2
noncomputable abbrev i8:Si:=dF 10
noncomputable abbrev fU:Si:=dF 13
noncomputable abbrev bM:Si:=dF 14
noncomputable abbrev ij:Si:=dF 15
noncomputable abbrev kN:Si:=dF 17
noncomputable abbrev kO:Si:=dF 18
noncomputable abbrev dA:Si:=dF 19
noncomputable abbrev gy:Si:=dF 20
noncomputable abbrev gW:Si:=dF 21
noncomputable abbrev kP:Si:=dF 25
noncomputable abbrev cB:Si:=dF 26
noncomputable abbrev dS:Si:=dF 27
noncomputable abbrev eU:Si:=dF 28
noncomputable abbrev jx:Si:=dF 29
noncomputable abbrev ik:Si:=dF 30
noncomputable abbrev i9:Si:=dF 31
noncomputable abbrev eV:Si:=dF 32
noncomputable abbrev fV:Si:=dF 33
noncomputable abbrev gj:Si:=dF 34
noncomputable abbrev fW:Si:=dF 36
noncomputable abbrev gX:Si:=dF 37
noncomputable abbrev i_:Si:=dF 38
noncomputable abbrev fX:Si:=dF 39
noncomputable abbrev dU:Si:=dF 40
noncomputable abbrev cC:Si:=dF 41
noncomputable abbrev fY:Si:=dF 42
noncomputable abbrev eS:Si:=dF 43
noncomputable abbrev c7:Si:=dF 44
noncomputable abbrev ja:Si:=dF 45
noncomputable abbrev jb:Si:=dF 46
noncomputable abbrev il:Si:=dF 47
noncomputable abbrev gz:Si:=dF 48
noncomputable abbrev kQ:Si:=dF 49
noncomputable abbrev eW:Si:=dF 50
noncomputable abbrev gY:Si:=dF 51
noncomputable abbrev ur:Si:=dF 52
abbrev Bd (x:Str)(ps:List Str)(s:Si):Prop:=∀(kV kq pm:QG) (an:Option QX) (bh ct:QG) (us:List QG),us.length=ps.length->bindArgs (Rt x x (eK s) (bV s) (ao s) .none kV kq pm an bh ct) ⟨us,[]⟩=pure (ps.zip us)
theorem jX {P:List Str}{sc:Ud}(a:sc.kind=.function:=by rfl)(b:sc.isCoroutine=false:=by rfl)(c:sc.isGenerator=false:=by rfl)(d:N.Nodup:=by decide+kernel)(e:N.take P.length=P:=by rfl)(f:∀x∈P,sc.names.lookup x=some .local\/sc.names.lookup x=some .cell:=by decide+kernel)(g:∀y∈sc.names,y.2≠.free:=by decide+kernel):aE N P sc:=⟨a,b,c,d,e,f,g⟩
theorem rm {A:Rk}(r:et k A)(h:j<=k:=by first|decide|lia):et j A:=r.mono h
theorem vP:aE ["thing"] ["thing"] (ao i8):=jX
theorem vQ:Bd "is_whole" ["thing"] i8:=λ_ _ _ _ _ _ us hl=>match us,hl with|[_],_=>rfl
theorem d7:aE ["many","piles","sources","order","pile","source","place","origin"] ["many","piles","sources"] (ao fU):=jX
theorem uu:Bd "exchanged" ["many","piles","sources"] fU:=λ_ _ _ _ _ _ us hl=>match us,hl with|[_,_,_],_=>rfl
theorem dq:aE ["numbers","told","number","rest"] ["numbers"] (ao bM):=jX
theorem jN:Bd "arrangements" ["numbers"] bM:=λ_ _ _ _ _ _ us hl=>match us,hl with|[_],_=>rfl
theorem vR:aE ["many","piles"] ["many","piles"] (ao ij):=jX
theorem vS:Bd "pile_mix" ["many","piles"] ij:=λ_ _ _ _ _ _ us hl=>match us,hl with|[_,_],_=>rfl
theorem xD:aE ["number"] ["number"] (ao kN):=jX
theorem xE:Bd "pair_at" ["number"] kN:=λ_ _ _ _ _ _ us hl=>match us,hl with|[_],_=>rfl
theorem As:aE ["pair"] ["pair"] (ao kO):=jX
theorem Au:Bd "turned" ["pair"] kO:=λ_ _ _ _ _ _ us hl=>match us,hl with|[_],_=>rfl
theorem mI:aE ["many","piles","plans"] ["many","piles","plans"] (ao dA):=jX
theorem mJ:Bd "mixed_and_seen" ["many","piles","plans"] dA:=λ_ _ _ _ _ _ us hl=>match us,hl with|[_,_,_],_=>rfl
theorem xF:aE ["one","others"] ["one","others"] (ao gy):=jX
theorem xG:Bd "turning" ["one","others"] gy:=λ_ _ _ _ _ _ us hl=>match us,hl with|[_,_],_=>rfl
theorem vT:aE ["one","low","high"] ["one","low","high"] (ao gW):=jX
theorem vU:Bd "choosing" ["one","low","high"] gW:=λ_ _ _ _ _ _ us hl=>match us,hl with|[_,_,_],_=>rfl
theorem xH:aE ["thing"] ["thing"] (ao kP):=jX
theorem xI:Bd "is_made" ["thing"] kP:=λ_ _ _ _ _ _ us hl=>match us,hl with|[_],_=>rfl
theorem eT:aE ["formulas","inner","formula"] ["formulas"] (ao cB):=jX
theorem lH:Bd "formulas_within" ["formulas"] cB:=λ_ _ _ _ _ _ us hl=>match us,hl with|[_],_=>rfl
theorem dB:aE ["thing","level","depth","bits"] ["thing"] (ao dS):=jX
theorem rS:Bd "is_formula" ["thing"] dS:=λ_ _ _ _ _ _ us hl=>match us,hl with|[_],_=>rfl
theorem kg:aE ["formula","bits","parts"] ["formula","bits"] (ao eU):=jX
theorem oQ:Bd "reckoned" ["formula","bits"] eU:=λ_ _ _ _ _ _ us hl=>match us,hl with|[_,_],_=>rfl
theorem vV:aE ["formula","bits"] ["formula","bits"] (ao jx):=jX
theorem vW:Bd "worth" ["formula","bits"] jx:=λ_ _ _ _ _ _ us hl=>match us,hl with|[_,_],_=>rfl
theorem iN:aE ["formula","against","pair","gate"] ["formula","against"] (ao ik):=jX
theorem oR:Bd "steps_of" ["formula","against"] ik:=λ_ _ _ _ _ _ us hl=>match us,hl with|[_,_],_=>rfl
theorem vX:aE ["gate","one","other","free"] ["gate","one","other","free"] (ao i9):=jX
theorem vY:Bd "piles_of" ["gate","one","other","free"] i9:=λ_ _ _ _ _ _ us hl=>match us,hl with|[_,_,_,_],_=>rfl
theorem qR:aE ["gate","piles","other","seen"] ["gate","piles","other","seen"] (ao eV):=jX
theorem qS:Bd "pair_behind" ["gate","piles","other","seen"] eV:=λ_ _ _ _ _ _ us hl=>match us,hl with|[_,_,_,_],_=>rfl
theorem bN:aE ["many","steps","pairs","free","step","one","other","piles","plans","seen","told","freed"] ["many","steps","pairs","free"] (ao fV):=jX
theorem mK:Bd "plan_from" ["many","steps","pairs","free"] fV:=λ_ _ _ _ _ _ us hl=>match us,hl with|[_,_,_,_],_=>rfl
theorem jy:aE ["formula","steps","free"] ["formula"] (ao gj):=jX
theorem qT:Bd "plan_of" ["formula"] gj:=λ_ _ _ _ _ _ us hl=>match us,hl with|[_],_=>rfl
theorem o8:aE ["script","k"] ["script","k"] (ao fW):=jX
theorem o9:Bd "_law_cell_at" ["script","k"] fW:=λ_ _ _ _ _ _ us hl=>match us,hl with|[_,_],_=>rfl
theorem lh:aE ["script","k","cell"] ["script","k"] (ao gX):=jX
theorem rT:Bd "_law_state" ["script","k"] gX:=λ_ _ _ _ _ _ us hl=>match us,hl with|[_,_],_=>rfl
theorem gR:aE ["state","many","found","mixed"] ["state","many"] (ao i_):=jX
theorem uv:Bd "_law_take" ["state","many"] i_:=λ_ _ _ _ _ _ us hl=>match us,hl with|[_,_],_=>rfl
theorem lj:aE ["state","many","left"] ["state","many"] (ao fX):=jX
theorem rV:Bd "_law_order" ["state","many"] fX:=λ_ _ _ _ _ _ us hl=>match us,hl with|[_,_],_=>rfl
theorem bH:aE ["state","bits","found","cut_at","parts","turn"] ["state","bits"] (ao dU):=jX
theorem jO:Bd "_law_formula" ["state","bits"] dU:=λ_ _ _ _ _ _ us hl=>match us,hl with|[_,_],_=>rfl
theorem gA:aE ["state","bits"] ["state"] (ao cC):=jX
theorem kh:Bd "_law_some_formula" ["state"] cC:=λ_ _ _ _ _ _ us hl=>match us,hl with|[_],_=>rfl
theorem iW:aE ["formula","bits","count"] ["formula","bits"] (ao fY):=jX
theorem lr:Bd "_law_worth" ["formula","bits"] fY:=λ_ _ _ _ _ _ us hl=>match us,hl with|[_,_],_=>rfl
theorem dr:aE ["formula","found","part"] ["formula"] (ao eS):=jX
theorem jP:Bd "_law_bits_in" ["formula"] eS:=λ_ _ _ _ _ _ us hl=>match us,hl with|[_],_=>rfl
theorem d8:aE ["count","found","k"] ["count"] (ao c7):=jX
theorem nR:Bd "_law_all_bits" ["count"] c7:=λ_ _ _ _ _ _ us hl=>match us,hl with|[_],_=>rfl
theorem jz:aE ["e","marks"] ["e"] (ao ja):=jX
theorem uw:Bd "_law_mark" ["e"] ja:=λ_ _ _ _ _ _ us hl=>match us,hl with|[_],_=>rfl
theorem jA:aE ["formula","deep","turn"] ["formula","deep"] (ao jb):=jX
theorem ux:Bd "_law_deep" ["formula","deep"] jb:=λ_ _ _ _ _ _ us hl=>match us,hl with|[_,_],_=>rfl
theorem dg:aE ["state","formula","way","odds","odd","some"] ["state","formula"] (ao il):=jX
theorem mL:Bd "_law_bent" ["state","formula"] il:=λ_ _ _ _ _ _ us hl=>match us,hl with|[_,_],_=>rfl
theorem d9:aE ["thing","deep","word","number","good","parts"] ["thing","deep"] (ao gz):=jX
theorem mM:Bd "_law_look" ["thing","deep"] gz:=λ_ _ _ _ _ _ us hl=>match us,hl with|[_,_],_=>rfl
theorem oS:aE ["thing","found"] ["thing"] (ao kQ):=jX
theorem vZ:Bd "_law_due" ["thing"] kQ:=λ_ _ _ _ _ _ us hl=>match us,hl with|[_],_=>rfl
theorem gJ:aE ["way","thing","e"] ["way","thing"] (ao eW):=jX
theorem o_:Bd "_law_refused" ["way","thing"] eW:=λ_ _ _ _ _ _ us hl=>match us,hl with|[_,_],_=>rfl
theorem gm:aE ["thing","found","bits","told"] ["thing"] (ao gY):=jX
theorem rW:Bd "_law_right" ["thing"] gY:=λ_ _ _ _ _ _ us hl=>match us,hl with|[_],_=>rfl
theorem lJ:aE ["script","k","state","formula","things"] ["script"] (ao ur):=jX
structure Txt (mg:Str->Option QG):Prop where
 zpq:mg "all"=none
 ziq:mg "bool"=none
 zjq:mg "int"=none
 zcq:mg "isinstance"=none
 zkq:mg "len"=none
 zhq:mg "list"=none
 zlq:mg "max"=none
 zmq:mg "min"=none
 zgq:mg "range"=none
 zeq:mg "sorted"=none
 zoq:mg "str"=none
 zqq:mg "sum"=none
 zfq:mg "tuple"=none
 znq:mg "zip"=none
 zdq:∃tk,mg "MOST_BITS"=some (.int 3 tk)
 zaq:∃tk,mg "MOST_FORMULAS_WITHIN"=some (.int 20 tk)
 zbq:∃tk,mg "MOST_PILES_MIXED"=some (.int 4 tk)
end Hc
namespace Hc
open L2
noncomputable abbrev MF:List (Str×Bool):=[("NoPlan",false),("NoWay",false),("NoEnd",false),("NoFormula",true),("TooMany",false),("NoName",false),("BadNote",false)]
section
variable {w:Rx}
theorem M6 {k:Bool}{A B:Prop}(hk:k=false)(h:B):if k=true then A else B:=by
 subst hk;exact h
theorem E6 (T:Txt mg)(XT:Aj K mg C "NoFormula" MF)(d:Df K mg "_law_mark" ja):∃(f:QX) (fd:Sq),mg "_law_mark"=some (.ref f)/\Rv K (.ref f)=true/\jH K fd ["e"] []/\B4 P w K mg base tM 1 f fd ["e"] (Ir C "formula"):=by
 obtain⟨f,fd,m,F⟩:=d.ex;refine⟨f,fd,m,F.kp,F.binds uw,?_⟩;obtain⟨oc,od,kV,kq,pm,an,bh,ct,osl,rfl,lk,kn⟩:=F.ex;have Z:=XT.ec;have m1:=XT.marks ("NoPlan",false) (by simp);have m2:=XT.marks ("NoWay",false) (by simp);have m3:=XT.marks ("NoEnd",false) (by simp);have m4:=XT.marks ("NoFormula",true) (by simp);have m5:=XT.marks ("TooMany",false) (by simp);have m6:=XT.marks ("NoName",false) (by simp);have m7:=XT.marks ("BadNote",false) (by simp);refine Im (N:=["e","marks"]) lk kn jz (λvs H Q E ⟨ea,e,_⟩=>by rw[e];rfl) λA outer s H vs Q E hr ⟨ea,e,hx,hq⟩=>?_;subst e;refine⟨_,g5 (AW (AU (AS (B7 (i:=0) (C:=C) (b:=true) Z T.zcq XT.zve XT.ve))) (kF (jY eO)) tu)
  (g5 (tw (i:=1) jz.nd rfl (Or.inl rfl) (m8 (aO (g9 (i:=0) (C:=C) Z T.zcq m1) (aO (g9 (i:=0) (C:=C) Z T.zcq m2) (aO (g9 (i:=0) (C:=C) Z T.zcq m3) (aO (g9 (i:=0) (C:=C) Z T.zcq m4) c9))))))
  (g5 (tw (i:=1) jz.nd rfl (Or.inl rfl) (A6 HF (pv 1) (m8 (aO (g9 (i:=0) (C:=C) Z T.zcq m5) (aO (g9 (i:=0) (C:=C) Z T.zcq m6) (aO (g9 (i:=0) (C:=C) Z T.zcq m7) c9))))))
  (g5 (AW (pz u4 (Bh Rl PySem.F.slot_list_count PySem.F.type_list_count Ag (pv 1) (aO AR c9)) iS (aD _)) (kF (jY eO)) tu)
  (kF (jY (FA ya (m8 (aO eO (aO eO (aO eO (aO eO (aO eO (aO eO (aO eO c9)))))))) (Bh Rl PySem.F.slot_list_index PySem.F.type_list_index Ah (pv 1) (aO AR c9)) (λ_ _=>rfl))))))),?_⟩
 refine⟨ea,rfl,hx,true,rfl,L2.iteF ?_⟩;refine⟨ea,rfl,hx,ea,rfl,hx,ea,rfl,hx,ea,rfl,hx,(by decide:4<=QC),λp1 n1=>?_⟩;have s1:aI H (cE H p1 (.lst [.bl false,.bl false,.bl false,.bl true])):=aI.updN (λ_ _ e=>e) n1;have G5:=s1 _ _ hx;refine⟨.ref p1,rfl,ea,rfl,G5,ea,rfl,G5,ea,rfl,G5,(by decide:3<=QC),λp2 n2=>?_⟩;have s2:=s1.updN (o:=.lst [.bl false,.bl false,.bl false]) n2;have PJ:cE (cE H p1 (.lst [.bl false,.bl false,.bl false,.bl true])) p2 (.lst [.bl false,.bl false,.bl false]) p1=some (.lst [.bl false,.bl false,.bl false,.bl true]):=by
  rw[aL (bz (aT) n2)];exact aT
 refine⟨p1,p2,[.bl false,.bl false,.bl false,.bl true],[.bl false,.bl false,.bl false],rfl,rfl,PJ,aT,(by decide:7<=QC),λp3 n3=>?_⟩;have s3:=s2.updN (o:=.lst [.bl false,.bl false,.bl false,.bl true,.bl false,.bl false,.bl false]) n3;refine⟨.ref p3,rfl,.inl ⟨rfl,_,.inl (.inl aT)⟩,p3,_,.bl true,rfl,rfl,aT,rfl,rfl,?_⟩;refine⟨rfl,_,rfl,M6 (by decide+kernel) ?_⟩;refine⟨(by decide:7<=QC),λp4 n4=>?_⟩;have s4:=s3.updN (o:=.lst [.str "plan",.str "way",.str "end",.str "formula",.str "many",.str "name",.str "note"]) n4;have h3:∀(H0:Hp) (o o':HO),(cE H0 p3 o) p4=none->cE (cE H0 p3 o) p4 o' p3=some o:=λH0 o o' n=>(aL (bz (aT) n)).trans aT;refine⟨.ref p3,rfl,.inl ⟨rfl,_,.inl (.inl (h3 _ _ _ n4))⟩,p3,_,.bl true,3,rfl,rfl,h3 _ _ _ n4,rfl,rfl,(by decide),rfl,?_,?_⟩
 ·intro m hm
  match m,hm with
  |0,_=>rfl
  |1,_=>rfl
  |2,_=>rfl
 ·exact⟨p4,_,3,.str "formula",rfl,rfl,.inl (.inl aT),rfl,hq _ s4⟩
theorem gx.mark {A:Rk}(e:Option QG)(r:et k A):gx k (A.mark e):=⟨r.dp,r.un⟩
theorem gx.mono1 {A:Rk}(r:gx k A)(h:1<=k):gx 1 A:=⟨by have:=r.dp;lia,by have:=r.un;lia⟩
noncomputable def M7:Ev->R (Bool×Ev):=jT (gB (dz 1 aB (ae (ag 0) ak)))
noncomputable def bX:Ev->SR:=az (gH M7 (λ_=>.exc "NoFormula" .non) bf) (λ_=>.stk)
theorem IH (T:Txt mg)(XF:Aj K mg C "NoFormula" MF)(JL:Fn P w K mg base "is_formula" 3 ["thing"] (dI K 1 aB .S))(d:Df K mg "worth" jx) :
  ∃(f:QX) (fd:Sq),mg "worth"=some (.ref f)/\Rv K (.ref f)=true/\jH K fd ["formula","bits"] []/\iZ P w K mg base (yv P w C) 4 f fd ["formula","bits"] (M4 K 2 C λus=>∃c u,bE .S 2 bX us=.exc c u):=by
 refine Df.fnX (N:=["formula","bits"]) (ps:=["formula","bits"]) (st:=jx) (k:=3) yS .S bX d vV vW rfl (by decide) ?_;intro f bh A outer s0 H E hr;exact ai (bo (fO (de (ar JL (hr.mono (by first|decide|lia)) (aa (aj 0) af)))) (aq (vI XF.cls XF.exc hr.hd (aO eO c9) (λσ H Q h=>h _ _ (by decide) (λ_ _ e=>e)) (λ_ z=>z))) aK) eM
theorem II (T:Txt mg)(XF:Aj K mg C "NoFormula" MF)(JL:Fn P w K mg base "is_formula" 3 ["thing"] (dI K 1 aB .S))(d:Df K mg "plan_of" gj) :
  ∃(f:QX) (fd:Sq),mg "plan_of"=some (.ref f)/\Rv K (.ref f)=true/\jH K fd ["formula"] []/\iZ P w K mg base (yv P w C) 4 f fd ["formula"] (M4 K 1 C λus=>∃c u,bE .S 3 bX us=.exc c u):=by
 refine Df.fnX (N:=["formula","steps","free"]) (ps:=["formula"]) (st:=gj) (k:=3) sW .S bX d jy qT rfl (by decide) ?_;intro f bh A outer s0 H E hr;exact ai (bo (fO (de (ar JL (hr.mono (by first|decide|lia)) (aa (aj 0) af)))) (aq (vI XF.cls XF.exc hr.hd (aO eO c9) (λσ H Q h=>h _ _ (by decide) (λ_ _ e=>e)) (λ_ z=>z))) aK) eM
end
section
variable {t q:U}{b:Bool}
theorem IJ {r:List (Option U)}(e:aB [t]=.ok (.bl b)):M7 (some t::r)=.ok (!b,some t::r):=by
 have h0:dz 1 aB (ae (ag 0) ak) (some t::r)=(aB [t]).bind λz=>.ok (z,some t::r):=rfl;unfold M7 jT gB;rw[h0,e];rfl
theorem GI {r:List (Option U)}(e:aB [t]=.ok (.bl false)):bX (some t::r)=.exc "NoFormula" .non:=by
 unfold bX az gH;rw[IJ e];rfl
theorem M8 (e:aB [t]=.ok (.bl false)):∃c u,bE .S 2 bX [t,q]=.exc c u:=by
 refine⟨"NoFormula",.non,?_⟩;have e0:bX (bu 2 [t,q])=.exc "NoFormula" .non:=GI (r:=[some q]) e;unfold bE;rw[e0]
theorem M9 (e:aB [t]=.ok (.bl false)):∃c u,bE .S 3 bX [t]=.exc c u:=by
 refine⟨"NoFormula",.non,?_⟩;have e0:bX (bu 3 [t])=.exc "NoFormula" .non:=GI (r:=[none,none]) e;unfold bE;rw[e0]
theorem v7 {u:U}:(∃n,u=.int n/\aB [t]=.ok (.bl false)/\aQ [u,t]=.ok (.str "formula"))\/(∃n z,u=.int n/\n≠0/\cR [t]=.ok z/\aQ [u,t]=.ok .non)\/aQ [u,t]=.stk:=by
 cases u with
 |int n=>
  unfold aQ;dsimp only;split
  ·rename_i e;exact .inl ⟨n,rfl,e,rfl⟩
  ·by_cases c:n=0
   ·rw[hV c];exact .inr (.inr rfl)
   ·rw[hU c];split
    ·rename_i z e;exact .inr (.inl ⟨n,z,rfl,c,e,rfl⟩)
    ·exact .inr (.inr rfl)
  ·exact .inr (.inr rfl)
 |_=>exact .inr (.inr rfl)
end
section
variable {w:Rx}{cX:QX}
noncomputable def C8:Ev->SR:=az (gH (gB (aF (eF id) (ag 0) (gC (.int 0)))) (λ_=>.stk) (k8 (dz 1 cR (ae (ag 1) ak)))) (a6 (gC .non))
theorem xJ (T:Txt mg)(XF:Aj K mg cX "NoFormula" MF)(JL:Fn P w K mg base "is_formula" 3 ["thing"] (dI K 1 aB .S))(Qw:Fn P w K mg base "worth" 32 ["formula","bits"] (dI K 2 kM .S))(PL:Fn P w K mg base "plan_of" 33 ["formula"] (dI K 1 cR .S))(d0:Df K mg "worth" jx)(d1:Df K mg "plan_of" gj)(d2:Df K mg "_law_mark" ja)(d:Df K mg "_law_refused" eW):Fn P w K mg base "_law_refused" 34 ["way","thing"] (dI K 2 aQ .S):=by
 obtain⟨f1,fd1,a1,b1,c1,F1⟩:=IH (P:=P) (w:=w) (base:=base) T XF JL d0;obtain⟨f3,fd3,a3,b3,c3,F3⟩:=II (P:=P) (w:=w) (base:=base) T XF JL d1;obtain⟨f2,fd2,a2,b2,c2,F2⟩:=E6 (P:=P) (w:=w) (base:=base) T XF d2;obtain⟨cc,hc,JI⟩:=XF.card;have hl:∀(us:List U) (A:QX->Prop) (H:Hp) (Q:VK),EJ K .S A H (uW 2 aQ us) Q->us.length=2:=λus A H Q h=>by
  unfold uW at h;split at h
  ·assumption
  ·exact h.elim
 refine Df.fn (N:=["way","thing","e"]) (k:=33) d gJ o_ (λvs H Q E ⟨us,A,r,_,h⟩=>by rw[←r.length];exact hl us A H Q h) λf bh A outer s H vs Q E hr ⟨us,A0,r,mu,h⟩=>?_;have l:=hl us A0 H Q h;have own:∀i,i<2->(⟨[false,false,false],false,λ_=>False⟩:Gm).is i=false:=λi hi=>match i,hi with|0,_=>rfl|1,_=>rfl
 match us,l with
 | [un,ut],_=>
  have h9:EJ K .S A0 H (aQ [un,ut]) Q:=h;clear h;have h:=h9;clear h9;rcases v7 (u:=un) (t:=ut) with⟨n,rfl,pm,e⟩|⟨n,z,rfl,nz,hb,e⟩|e
  ·rw[e] at h;unfold aR at r;obtain⟨v0,vr,rfl,q0,r⟩:=r;unfold aR at r;obtain⟨v1,vr,rfl,q1,r⟩:=r;unfold aR at r;subst r;unfold Rp at q0;subst q0;by_cases c:n=0
   ·refine⟨_,g5 (vJ (i:=2) true rfl F1 (hr.mono (by decide)) a1 b1 c1 rfl rfl hc JI gJ.nd (pz ed (pv 0) iS (aD _)) (aO (pv 1) (aO (A_ (aO iS (aO iS (aO iS c9)))) c9)) (λea=>kF (jY (vB F2 (gx.mono1 (gx.mark _ hr) (by decide)) a2 b2 c2 (aO (pv 2) c9))))) sv,?_⟩;subst c;refine⟨.int 0,rfl,rfl,true,rfl,rfl,v1,rfl,(by decide:3<=QC),λp np=>?_⟩;have sp:=ee np (.tup [.int 0,.int 1,.int 1]);refine⟨[ut,.tup [.int 0,.int 1,.int 1]],A0,aR.cons (q1.re mu (eD.same sp) λ_ z=>.inl z) (aR.cons ⟨p,_,rfl,aT,(by decide:3<=QC),aR.cons cy (aR.cons cy (aR.cons cy aR.nil))⟩ aR.nil),λa ha=>?_,rfl,M8 pm,λH' sm ea NL=>⟨.ref ea,rfl,ea,rfl,aT,λH3 s3=>?_⟩⟩
    ·have:=mu a ha;obtain⟨o,eo⟩:=this.ex;rw[sp a o eo,←eo];exact this
    ·exact h (.str "formula") H3 (λb o e=>s3 b o ((sm.updN NL) b o (sp b o e))) (show Rp K H3 A0 (.str "formula") (.str "formula") from tR)
   ·refine⟨_,g5 (vJ (i:=2) false rfl F3 (hr.mono (by decide)) a3 b3 c3 rfl rfl hc JI gJ.nd (pz ed (pv 0) iS (aD _)) (aO (pv 1) c9) (λea=>kF (jY (vB F2 (gx.mono1 (gx.mark _ hr) (by decide)) a2 b2 c2 (aO (pv 2) c9))))) sv,?_⟩;refine⟨.int n,rfl,rfl,false,by simp[c],rfl,v1,rfl,[ut],A0,aR.cons q1 aR.nil,mu,rfl,M9 pm,λH' sm ea NL=>⟨.ref ea,rfl,ea,rfl,aT,λH3 s3=>?_⟩⟩;exact h (.str "formula") H3 (λb o e=>s3 b o ((sm.updN NL) b o e)) (show Rp K H3 A0 (.str "formula") (.str "formula") from tR)
  ·refine (qo (ps:=["way","thing"]) (N:=["way","thing","e"]) (st:=eW) (x:="_law_refused") (k:=33) ⟨[false,false,false],false,λ_=>False⟩ .S C8 rfl own ?_).2 f bh A outer s H vs Q E hr ⟨[.int n,ut],A0,r,mu,?_⟩
   ·intro f bh A outer s0 H E hr;exact ai (E1 (aq (bo (aN ed bW (aj 0) ah (aD _)) eM (aq (kH (ar PL (hr.mono (by decide)) (aa (aj 1) af))))))) (aq (aA g7))
   ·have e2:uW (["way","thing"]:List Str).length (bE .S (["way","thing","e"]:List Str).length C8) [.int n,ut]=.ok .non:=by
     show bE .S 3 C8 [.int n,ut]=_;have e1:dz 1 cR (ae (ag 1) ak) [some (.int n),some ut,none]=(cR [ut]).bind λz=>.ok (z,[some (.int n),some ut,none]):=rfl;have e3:gB (aF (eF id) (ag 0) (gC (.int 0))) [some (.int n),some ut,none]=.ok (n==0,[some (.int n),some ut,none]):=rfl;have e4:C8 [some (.int n),some ut,none]=.rt .non [some (.int n),some ut,none]:=by
      unfold C8 az gH;rw[e3,beq_eq_false_iff_ne.mpr nz];show (match SR.of (dz 1 cR (ae (ag 1) ak) [some (.int n),some ut,none]) (λx=>.nx x.2) with|.nx ρ'=>a6 (gC .non) ρ'|r=>r)=_;rw[e1,hb];rfl
     unfold bE;rw[show bu 3 [.int n,ut]=[some (.int n),some ut,none] from rfl,e4]
    rw[e2,←e];exact h
  ·rw[e] at h;exact h.elim
end
end Hc
namespace Hc
open L2
section
variable {w:Rx}
theorem v8 (T:Txt mg)  (ir:Df K mg "is_whole" i8):Fn P w K mg base "is_whole" 1 ["thing"] (dI K 1 g_ .S):=by
 refine Df.fnD (N:=["thing"]) (ps:=["thing"]) (st:=i8) (k:=0) xx .S lE ir vP vQ rfl (by decide) ?_;intro f bh A outer s0 H E hr;have hu:=hr.units;have iE:=br hr;exact (aq (aA (j2 (ha:=(d6 (T:="int") (by decide) (aj 0) T.zcq T.zjq tP)) (hb:=(lC (xf (d6 (T:="bool") (by decide) (aj 0) T.zcq T.ziq pB)))))))
theorem uy (T:Txt mg)  (gE:Df K mg "exchanged" fU):Fn P w K mg base "exchanged" 1 ["many","piles","sources"] (dI K 3 cG .S):=by
 refine Df.fnD (N:=["many","piles","sources","order","pile","source","place","origin"]) (ps:=["many","piles","sources"]) (st:=fU) (k:=0) vL .S ka gE d7 uu rfl (by decide) ?_;intro f bh A outer s0 H E hr;have hu:=hr.units;have iE:=br hr;exact (ai (gc (i:=3) d7.nd (ml rfl (aa (aj 0) af) T.zhq T.zgq))
 (ai (g8 Ru rfl (B0 (aa (aj 1) (aa (aj 2) af)) T.znq) (BK rfl (l5 (bj (i:=4) d7.nd) (l5 (bj (i:=5) d7.nd) yg)))
 (aq (g8 Ru rfl (B0 (aa (aj 4) (aa (aH av aw (aj 1) (aj 5) (λ_ _=>rfl)) af)) T.znq) (BK rfl (l5 (bj (i:=6) d7.nd) (l5 (bj (i:=7) d7.nd) yg)))
 (aq (tX (i:=3) (aj 7) (aj 6))))))
 (aq (aA (fP eA i7 (by rfl) T.zfq eC (aa (fm 3) af))))))
theorem pb (T:Txt mg)  (cT:Df K mg "arrangements" bM):∀n,Fn P w K mg base "arrangements" (n+1) ["numbers"] (dI K 1 (fu n) .O):=by
 intro n
 induction n with
 |zero=>
  refine Df.fnD (N:=["numbers","told","number","rest"]) (ps:=["numbers"]) (st:=bM) (k:=0) kb .O (ft 0) cT dq jN rfl (by decide) ?_;intro f bh A outer s0 H E hr;have hu:=hr.units;have iE:=br hr;exact eM
 |succ n dW=>
  refine Df.fnD (N:=["numbers","told","number","rest"]) (ps:=["numbers"]) (st:=bM) (k:=n+1) kb .O (ft (n+1)) cT dq jN rfl (by decide) ?_;intro f bh A outer s0 H E hr;have hu:=hr.units;have iE:=br hr;exact (ai (bo (aN (c_ hu) (cM (f:=id)) (aM bb bD (by rfl) T.zkq cf (aa (aj 0) af)) ah (aD _)) (aq (l6 (bG (aa (aP af) af)))) aK)
 (ai (gc (i:=1) dq.nd (bG af))
 (ai (g8 Ru rfl (dC (aj 0)) (bj (i:=2) dq.nd)
 (ai (nC (i:=3) (ao bM) ["numbers","told","number","rest"] ["other","number"] [none,some 2] dq.nd rfl (dC (aj 0)) (λY=>⟨(bj (i:=0) (show (["other","number"]:List Str).Nodup by decide+kernel)),(mf (aN (Bu hu) (cM (f:=not)) (aj 0) (aj 1) (aD _))),(aj 0)⟩))
 (aq (kH (nA (i:=1) Rl S9 S_ uc lD (aa (iU (ao bM) ["numbers","told","number","rest"] ["more","number"] [none,some 2] rfl (dC (m1:=.O) (ar dW (rm hr) (aa (aj 3) af))) (λY=>⟨(bj (i:=0) (show (["more","number"]:List Str).Nodup by decide+kernel)),eE,(aV aW aX (aP (aa (aj 1) af)) (aj 0))⟩)) af))))))
 (aq (yh (i:=1) (hi:=by decide))))))
theorem v9 (T:Txt mg)(ky:Fn P w K mg base "exchanged" 1 ["many","piles","sources"] (dI K 3 cG .S))(dW:∀n,Fn P w K mg base "arrangements" (n+1) ["numbers"] (dI K 1 (fu n) .O))(iu:Df K mg "pile_mix" ij):Fn P w K mg base "pile_mix" 8 ["many","piles"] (dI K 2 ic .S):=by
 obtain⟨gN,zbq⟩:=T.zbq;refine Df.fnD (N:=["many","piles"]) (ps:=["many","piles"]) (st:=ij) (k:=7) xy .S lG iu vR vS rfl (by decide) ?_;intro f bh A outer s0 H E hr;have hu:=hr.units;have iE:=br hr;exact (ai (bo (aN u5 qt (aM bb bD (by rfl) T.zkq cf (aa (aj 1) af)) (l0 (i:=4) rfl zbq) (aD _)) (aq (xq λ_=>⟨_,_,rfl⟩)) aK)
 (aq (aA (fP eA i7 (by rfl) T.zfq eC (aa (iU (ao ij) ["many","piles"] ["sources","many","piles"] [none,some 0,some 1] rfl (dC (m1:=.O) (ar (dW 6) (rm hr) (aa (ml rfl (aa (aM bb bD (by rfl) T.zkq cf (aa (aj 1) af)) af) T.zhq T.zgq) af))) (λY=>⟨(bj (i:=0) (show (["sources","many","piles"]:List Str).Nodup by decide+kernel)),eE,(ar ky (rm hr) (aa (aj 1) (aa (aj 2) (aa (aj 0) af))))⟩)) af)))))
theorem xK (T:Txt mg)  (jd:Df K mg "pair_at" kN):Fn P w K mg base "pair_at" 1 ["number"] (dI K 1 gU .S):=by
 refine Df.fnD (N:=["number"]) (ps:=["number"]) (st:=kN) (k:=0) Ap .S sU jd xD xE rfl (by decide) ?_;intro f bh A outer s0 H E hr;have hu:=hr.units;have iE:=br hr;exact (aq (aA (aP (aa (aV jZ iJ ah (aj 0)) (aa (aV aW aX (aV jZ iJ ah (aj 0)) ah) af)))))
theorem Av (T:Txt mg)  (kz:Df K mg "turned" kO):Fn P w K mg base "turned" 1 ["pair"] (dI K 1 dk .S):=by
 refine Df.fnD (N:=["pair"]) (ps:=["pair"]) (st:=kO) (k:=0) C6 .S qL kz As Au rfl (by decide) ?_;intro f bh A outer s0 H E hr;have hu:=hr.units;have iE:=br hr;exact (aq (aA (aP (aa (aH av aw (aj 0) ah (λ_ _=>rfl)) (aa (aH av aw (aj 0) ah (λ_ _=>rfl)) af)))))
theorem mO (T:Txt mg)(lP:Fn P w K mg base "pile_mix" 8 ["many","piles"] (dI K 2 ic .S))(cU:Df K mg "mixed_and_seen" dA):Fn P w K mg base "mixed_and_seen" 9 ["many","piles","plans"] (dI K 3 cu .S):=by
 refine Df.fnD (N:=["many","piles","plans"]) (ps:=["many","piles","plans"]) (st:=dA) (k:=8) nO .S fT cU mI mJ rfl (by decide) ?_;intro f bh A outer s0 H E hr;have hu:=hr.units;have iE:=br hr;exact (aq (aA (aP (aa aJ (aa (ar lP (rm hr) (aa (aj 0) (aa (aj 1) af))) (aa (aP (aa aJ (aa (aP (aa (aH av aw (aH av aw (aj 1) ah (λ_ _=>rfl)) ah (λ_ _=>rfl)) af)) (aa (aP (aa (aP (aa (aP (aa ah af)) (aa (aH av aw (aj 2) ah (λ_ _=>rfl)) af))) (aa (aP (aa (aP (aa ah af)) (aa (aH av aw (aj 2) ah (λ_ _=>rfl)) af))) af))) af)))) af))))))
theorem xM (T:Txt mg)  (je:Df K mg "turning" gy):Fn P w K mg base "turning" 1 ["one","others"] (dI K 2 nP .S):=by
 refine Df.fnD (N:=["one","others"]) (ps:=["one","others"]) (st:=gy) (k:=0) Aq .S sV je xF xG rfl (by decide) ?_;intro f bh A outer s0 H E hr;have hu:=hr.units;have iE:=br hr;exact (aq (aA (aP (aa (aV aW aX (aP (aa (aH av aw (aj 0) ah (λ_ _=>rfl)) af)) (fP eA i7 (by rfl) T.zfq eC (aa (iU (ao gy) ["one","others"] ["pair"] [none] rfl (dC (aj 1)) (λY=>⟨(bj (i:=0) (show (["pair"]:List Str).Nodup by decide+kernel)),eE,(aH av aw (aj 0) ah (λ_ _=>rfl))⟩)) af))) (aa (aV aW aX (aP (aa (aH av aw (aj 0) ah (λ_ _=>rfl)) af)) (fP eA i7 (by rfl) T.zfq eC (aa (iU (ao gy) ["one","others"] ["pair"] [none] rfl (dC (aj 1)) (λY=>⟨(bj (i:=0) (show (["pair"]:List Str).Nodup by decide+kernel)),eE,(aH av aw (aj 0) ah (λ_ _=>rfl))⟩)) af))) af)))))
theorem v_ (T:Txt mg)  (iw:Df K mg "choosing" gW):Fn P w K mg base "choosing" 1 ["one","low","high"] (dI K 3 jt .S):=by
 refine Df.fnD (N:=["one","low","high"]) (ps:=["one","low","high"]) (st:=gW) (k:=0) xA .S qM iw vT vU rfl (by decide) ?_;intro f bh A outer s0 H E hr;have hu:=hr.units;have iE:=br hr;exact (aq (aA (aP (aa (aV aW aX (aP (aa (aH av aw (aj 0) ah (λ_ _=>rfl)) af)) (aj 1)) (aa (aV aW aX (aP (aa (aH av aw (aj 0) ah (λ_ _=>rfl)) af)) (aj 2)) af)))))
theorem xN (T:Txt mg)(lQ:Fn P w K mg base "is_whole" 1 ["thing"] (dI K 1 g_ .S))(jf:Df K mg "is_made" kP):Fn P w K mg base "is_made" 2 ["thing"] (dI K 1 bp .S):=by
 refine Df.fnD (N:=["thing"]) (ps:=["thing"]) (st:=kP) (k:=1) Ar .S bY jf xH xI rfl (by decide) ?_;intro f bh A outer s0 H E hr;have hu:=hr.units;have iE:=br hr;exact (ai (bo (DW.dt (k7 (fO (de (d6 (T:="tuple") (by decide) (aj 0) T.zcq T.zfq eC))) (lB (aN (c_ hu) (cM (f:=id)) (aM bb bD (by rfl) T.zkq cf (aa (aj 0) af)) ah (aD _))))) (aq (aA jJ)) aK)
 (ai (bo (aN (c_ hu) (cM (f:=id)) (aH av aw (aj 0) ah (λ_ _=>rfl)) aJ (aD _)) (aq (aA (j2 (ha:=(fN (c_ hu) (cM (f:=id)) (aM bb bD (by rfl) T.zkq cf (aa (aj 0) af)) ah (aD _))) (hb:=(lC (ar lQ (rm hr) (aa (aH av aw (aj 0) ah (λ_ _=>rfl)) af))))))) aK)
 (ai (bo (aN (c_ hu) (cM (f:=id)) (aH av aw (aj 0) ah (λ_ _=>rfl)) aJ (aD _)) (aq (aA (fN (c_ hu) (cM (f:=id)) (aM bb bD (by rfl) T.zkq cf (aa (aj 0) af)) ah (aD _)))) aK)
 (aq (aA (j2 (ha:=(fN (c_ hu) (cM (f:=id)) (aM bb bD (by rfl) T.zkq cf (aa (aj 0) af)) ah (aD _))) (hb:=(lC (fN (xw hu) uh (aH av aw (aj 0) ah (λ_ _=>rfl)) (aP (aa aJ (aa aJ (aa aJ af)))) (by with_unfolding_all rfl))))))))))
theorem lK (T:Txt mg)  (cK:Df K mg "formulas_within" cB):Fn P w K mg base "formulas_within" 1 ["formulas"] (dI K 1 bZ .O):=by
 refine Df.fnD (N:=["formulas","inner","formula"]) (ps:=["formulas"]) (st:=cB) (k:=0) mG .O fv cK eT lH rfl (by decide) ?_;intro f bh A outer s0 H E hr;have hu:=hr.units;have iE:=br hr;exact (ai (gc (i:=1) eT.nd (bG af))
 (ai (g8 Ru rfl (dC (aj 0)) (bj (i:=2) eT.nd)
 (aq (bo (aN u4 pL (aH av aw (aj 2) ah (λ_ _=>rfl)) aJ (aD _)) (aq (kH (nA (i:=1) Rl S9 S_ uc lD (aa (b9 b_ eh (aj 2) (cP ah) cO) af)))) aK)))
 (aq (yh (i:=1) (hi:=by decide)))))
theorem rX (T:Txt mg)(nW:Fn P w K mg base "is_made" 2 ["thing"] (dI K 1 bp .S))(fF:Fn P w K mg base "formulas_within" 1 ["formulas"] (dI K 1 bZ .O))(fG:Df K mg "is_formula" dS):Fn P w K mg base "is_formula" 3 ["thing"] (dI K 1 aB .S):=by
 obtain⟨mW,zdq⟩:=T.zdq;obtain⟨ff,zaq⟩:=T.zaq;refine Df.fnD (N:=["thing","level","depth","bits"]) (ps:=["thing"]) (st:=dS) (k:=2) uj .S ju fG dB rS rfl (by decide) ?_;intro f bh A outer s0 H E hr;have hu:=hr.units;have iE:=br hr;exact (ai (a5 (i:=1) dB.nd (bG (aa (aj 0) af)))
 (ai (a5 (i:=2) dB.nd ah)
 (ai (gc (i:=3) dB.nd (bG af))
 (ai (BL Ru (aN u5 qt (aM bb bD (by rfl) T.zkq cf (aa (aj 1) af)) ah (aD _))
 (ai (Ie (i:=2) Hn dB.nd ah)
 (ai (bo (DW.dt (k7 (aN u5 qt (aj 2) (l0 (i:=20) rfl zaq) (aD _)) (lB (aN u5 qt (aM bb bD (by rfl) T.zkq cf (aa (aj 1) af)) (l0 (i:=3) rfl zdq) (aD _))))) (aq (aA jJ)) aK)
 (ai (bo (fO (de (aM (zI rfl) ET (by rfl) T.zpq HN (aa (iU (ao dS) ["thing","level","depth","bits"] ["part"] [none] rfl (dC (aj 1)) (λY=>⟨(bj (i:=0) (show (["part"]:List Str).Nodup by decide+kernel)),eE,(ar nW (rm hr) (aa (aj 0) af))⟩)) af)))) (aq (aA jJ)) aK)
 (ai (kH (nA (i:=3) Rl S9 S_ uc lD (aa (iU (ao dS) ["thing","level","depth","bits"] ["part"] [none] rfl (dC (aj 1)) (λY=>⟨(bj (i:=0) (show (["part"]:List Str).Nodup by decide+kernel)),(mf (aN (c_ hu) (cM (f:=id)) (aH av aw (aj 0) ah (λ_ _=>rfl)) aJ (aD _))),(aH av aw (aj 0) ah (λ_ _=>rfl))⟩)) af)))
 (aq (a5 (i:=1) dB.nd (ar fF (rm hr) (aa (aj 1) af)))))))))
 (aq (aA (j2 (ha:=(fN Fy fit_le (aM bb bD (by rfl) T.zkq cf (aa (fm 3) af)) (l0 (i:=3) rfl zdq) (aD _))) (hb:=(lC (fN (c_ hu) (cM (f:=id)) (aM ji nH (by rfl) T.zeq nj (aa (fm 3) af)) (ml rfl (aa (aM bb bD (by rfl) T.zkq cf (aa (fm 3) af)) af) T.zhq T.zgq) (aD _)))))))))))
theorem wa (T:Txt mg)  (fZ:Df K mg "reckoned" eU):∀n,Fn P w K mg base "reckoned" (n+1) ["formula","bits"] (dI K 2 (cN n) .S):=by
 intro n
 induction n with
 |zero=>
  refine Df.fnD (N:=["formula","bits","parts"]) (ps:=["formula","bits"]) (st:=eU) (k:=0) qN .S (dO 0) fZ kg oQ rfl (by decide) ?_;intro f bh A outer s0 H E hr;have hu:=hr.units;have iE:=br hr;exact eM
 |succ n iy=>
  refine Df.fnD (N:=["formula","bits","parts"]) (ps:=["formula","bits"]) (st:=eU) (k:=n+1) qN .S (dO (n+1)) fZ kg oQ rfl (by decide) ?_;intro f bh A outer s0 H E hr;have hu:=hr.units;have iE:=br hr;exact (ai (bo (aN ed bW (aH av aw (aj 0) ah (λ_ _=>rfl)) aJ (aD _)) (aq (aA (aH av aw (aj 1) (aH av aw (aj 0) ah (λ_ _=>rfl)) (λ_ _=>rfl)))) aK)
 (ai (nC (i:=2) (ao eU) ["formula","bits","parts"] ["part","bits"] [none,some 1] kg.nd rfl (dC (b9 b_ eh (aj 0) (cP ah) cO)) (λY=>⟨(bj (i:=0) (show (["part","bits"]:List Str).Nodup by decide+kernel)),eE,(ar iy (rm hr) (aa (aj 0) (aa (aj 1) af)))⟩))
 (ai (bo (aN ed bW (aH av aw (aj 0) ah (λ_ _=>rfl)) aJ (aD _)) (aq (aA (aV tx pF ah (aH av aw (aj 2) ah (λ_ _=>rfl))))) aK)
 (ai (bo (aN ed bW (aH av aw (aj 0) ah (λ_ _=>rfl)) aJ (aD _)) (aq (aA (aM (Ao rfl) C5 (by rfl) T.zmq By (aa (aj 2) af)))) aK)
 (ai (bo (aN ed bW (aH av aw (aj 0) ah (λ_ _=>rfl)) aJ (aD _)) (aq (aA (aM (Am rfl) C1 (by rfl) T.zlq Bx (aa (aj 2) af)))) aK)
 (aq (aA (aV lx jn (aM (Al rfl) CZ (by rfl) T.zqq HP (aa (aj 2) af)) ah))))))))
theorem C9 (T:Txt mg)(bO:Fn P w K mg base "is_formula" 3 ["thing"] (dI K 1 aB .S))(iy:∀n,Fn P w K mg base "reckoned" (n+1) ["formula","bits"] (dI K 2 (cN n) .S))(kT:Df K mg "worth" jx):Fn P w K mg base "worth" 32 ["formula","bits"] (dI K 2 kM .S):=by
 refine Df.fnD (N:=["formula","bits"]) (ps:=["formula","bits"]) (st:=jx) (k:=31) yS .S uk kT vV vW rfl (by decide) ?_;intro f bh A outer s0 H E hr;have hu:=hr.units;have iE:=br hr;exact (ai (bo (fO (de (ar bO (rm hr) (aa (aj 0) af)))) (aq (xq λ_=>⟨_,_,rfl⟩)) aK)
 (aq (aA (ar (iy 30) (rm hr) (aa (aj 0) (aa (aj 1) af))))))
theorem wc (T:Txt mg)(gZ:Fn P w K mg base "pair_at" 1 ["number"] (dI K 1 gU .S))(dv:Fn P w K mg base "turned" 1 ["pair"] (dI K 1 dk .S))(f7:Df K mg "steps_of" ik):∀n,Fn P w K mg base "steps_of" (n+2) ["formula","against"] (dI K 2 (dQ n) .S):=by
 intro n
 induction n with
 |zero=>
  refine Df.fnD (N:=["formula","against","pair","gate"]) (ps:=["formula","against"]) (st:=ik) (k:=1) qO .S (dP 0) f7 iN oR rfl (by decide) ?_;intro f bh A outer s0 H E hr;have hu:=hr.units;have iE:=br hr;exact eM
 |succ n di=>
  refine Df.fnD (N:=["formula","against","pair","gate"]) (ps:=["formula","against"]) (st:=ik) (k:=n+2) qO .S (dP (n+1)) f7 iN oR rfl (by decide) ?_;intro f bh A outer s0 H E hr;have hu:=hr.units;have iE:=br hr;exact (ai (bo (aN ed bW (aH av aw (aj 0) ah (λ_ _=>rfl)) aJ (aD _)) (ai (a5 (i:=2) iN.nd (ar gZ (rm hr) (aa (aH av aw (aj 0) ah (λ_ _=>rfl)) af)))
 (aq (aA (bG (aa (j3 (hc:=(de (aj 1))) (ha:=(ar dv (rm hr) (aa (aj 2) af))) (hb:=(aj 2))) af))))) aK)
 (ai (bo (aN ed bW (aH av aw (aj 0) ah (λ_ _=>rfl)) aJ (aD _)) (aq (aA (ar di (rm hr) (aa (aH av aw (aj 0) ah (λ_ _=>rfl)) (aa (xf (aj 1)) af))))) aK)
 (ai (bo (aN ed bW (aH av aw (aj 0) ah (λ_ _=>rfl)) aJ (aD _)) (aq (aA (aV aW aX (aV aW aX (ar di (rm hr) (aa (aH av aw (aj 0) ah (λ_ _=>rfl)) (aa (aj 1) af))) (ar di (rm hr) (aa (aH av aw (aj 0) ah (λ_ _=>rfl)) (aa jJ af)))) (bG (aa aJ af))))) aK)
 (ai (a5 (i:=3) iN.nd (j3 (hc:=(aN u4 pL (fN ed bW (aH av aw (aj 0) ah (λ_ _=>rfl)) aJ (aD _)) (aj 1) (aD _))) (ha:=aJ) (hb:=aJ)))
 (aq (aA (aV aW aX (aV aW aX (ar di (rm hr) (aa (aH av aw (aj 0) ah (λ_ _=>rfl)) (aa (aj 1) af))) (ar di (rm hr) (aa (aH av aw (aj 0) ah (λ_ _=>rfl)) (aa (aj 1) af)))) (bG (aa (aj 3) af)))))))))
theorem we (T:Txt mg)(dv:Fn P w K mg base "turned" 1 ["pair"] (dI K 1 dk .S))(nX:Fn P w K mg base "turning" 1 ["one","others"] (dI K 2 nP .S))(jE:Fn P w K mg base "choosing" 1 ["one","low","high"] (dI K 3 jt .S))(iz:Df K mg "piles_of" i9):Fn P w K mg base "piles_of" 2 ["gate","one","other","free"] (dI K 4 ie .S):=by
 refine Df.fnD (N:=["gate","one","other","free"]) (ps:=["gate","one","other","free"]) (st:=i9) (k:=1) xB .S qP iz vX vY rfl (by decide) ?_;intro f bh A outer s0 H E hr;have hu:=hr.units;have iE:=br hr;exact (ai (bo (aN ed bW (aj 0) aJ (aD _)) (aq (aA (ar nX (rm hr) (aa (aj 1) (aa (aP (aa (aj 2) af)) af))))) aK)
 (ai (bo (aN ed bW (aj 0) aJ (aD _)) (aq (aA (ar jE (rm hr) (aa (aj 1) (aa (aj 3) (aa (aj 2) af)))))) aK)
 (aq (aA (ar jE (rm hr) (aa (aj 1) (aa (aj 2) (aa (ar dv (rm hr) (aa (aj 3) af)) af))))))))
theorem qU (T:Txt mg)(dv:Fn P w K mg base "turned" 1 ["pair"] (dI K 1 dk .S))(eJ:Df K mg "pair_behind" eV):Fn P w K mg base "pair_behind" 2 ["gate","piles","other","seen"] (dI K 4 eH .S):=by
 refine Df.fnD (N:=["gate","piles","other","seen"]) (ps:=["gate","piles","other","seen"]) (st:=eV) (k:=1) rR .S k_ eJ qR qS rfl (by decide) ?_;intro f bh A outer s0 H E hr;have hu:=hr.units;have iE:=br hr;exact (ai (bo (aN ed bW (aj 0) aJ (aD _)) (aq (aA (j3 (hc:=(aN ed bW (aj 3) ah (aD _))) (ha:=(ar dv (rm hr) (aa (aj 2) af))) (hb:=(aj 2))))) aK)
 (aq (aA (b9 b_ eh (aH av aw (aj 1) (aj 3) (λ_ _=>rfl)) (cP ah) cO))))
theorem uz (T:Txt mg)(dv:Fn P w K mg base "turned" 1 ["pair"] (dI K 1 dk .S))(f9:Fn P w K mg base "mixed_and_seen" 9 ["many","piles","plans"] (dI K 3 cu .S))(lR:Fn P w K mg base "piles_of" 2 ["gate","one","other","free"] (dI K 4 ie .S))(iX:Fn P w K mg base "pair_behind" 2 ["gate","piles","other","seen"] (dI K 4 eH .S))(eX:Df K mg "plan_from" fV):∀n,Fn P w K mg base "plan_from" (n+10) ["many","steps","pairs","free"] (dI K 4 (bg n) .S):=by
 intro n
 induction n with
 |zero=>
  refine Df.fnD (N:=["many","steps","pairs","free","step","one","other","piles","plans","seen","told","freed"]) (ps:=["many","steps","pairs","free"]) (st:=fV) (k:=9) oN .S (c0 0) eX bN mK rfl (by decide) ?_;intro f bh A outer s0 H E hr;have hu:=hr.units;have iE:=br hr;exact eM
 |succ n eY=>
  refine Df.fnD (N:=["many","steps","pairs","free","step","one","other","piles","plans","seen","told","freed"]) (ps:=["many","steps","pairs","free"]) (st:=fV) (k:=n+10) oN .S (c0 (n+1)) eX bN mK rfl (by decide) ?_;intro f bh A outer s0 H E hr;have hu:=hr.units;have iE:=br hr;exact (ai (bo (aN ed bW (aM bb bD (by rfl) T.zkq cf (aa (aj 1) af)) ah (aD _)) (aq (aA (aP (aa aJ (aa (aH av aw (aj 2) ah (λ_ _=>rfl)) af))))) aK)
 (ai (a5 (i:=4) bN.nd (aH av aw (aj 1) ah (λ_ _=>rfl)))
 (ai (bo (de (d6 (T:="tuple") (by decide) (aj 4) T.zcq T.zfq eC)) (aq (aA (ar eY (rm hr) (D4 (ax (aj 0) (ax (b9 b_ eh (aj 1) (cP ah) cO) (ax (aV aW aX (aj 2) (bG (aa (aj 4) af))) (ax (aj 3) gf)))))))) aK)
 (ai (a5 (i:=5) bN.nd (aH av aw (aj 2) (qf ly jo ah) (λ_ _=>rfl)))
 (ai (a5 (i:=6) bN.nd (aH av aw (aj 2) (qf ly jo ah) (λ_ _=>rfl)))
 (ai (a5 (i:=7) bN.nd (ar lR (rm hr) (D4 (ax (aj 4) (ax (aj 5) (ax (aj 6) (ax (aj 3) gf)))))))
 (ai (gc (i:=8) bN.nd (bG af))
 (ai (g8 Ru rfl (dC (aP (aa ah (aa ah af)))) (bj (i:=9) bN.nd)
 (ai (a5 (i:=10) bN.nd (ar iX (rm hr) (D4 (ax (aj 4) (ax (aj 7) (ax (aj 6) (ax (aj 9) gf)))))))
 (ai (a5 (i:=11) bN.nd (j3 (hc:=(aN ed bW (aj 9) ah (aD _))) (ha:=(ar dv (rm hr) (aa (aj 5) af))) (hb:=(aj 5))))
 (aq (kH (nA (i:=8) Rl Ur Us sC qr (aa (ar eY (rm hr) (D4 (ax (aj 0) (ax (b9 b_ eh (aj 1) (cP ah) cO) (ax (aV aW aX (b9 b_ eh (aj 2) cO (cP (qf ly jo ah))) (bG (aa (aj 10) af))) (ax (aj 11) gf)))))) af)))))))
 (E3 8 (aq (aA (ar f9 (rm hr) (aa (aj 0) (aa (aj 7) (aa (aj 8) af)))))))))))))))
theorem xO (T:Txt mg)(gZ:Fn P w K mg base "pair_at" 1 ["number"] (dI K 1 gU .S))(bO:Fn P w K mg base "is_formula" 3 ["thing"] (dI K 1 aB .S))(di:∀n,Fn P w K mg base "steps_of" (n+2) ["formula","against"] (dI K 2 (dQ n) .S))(eY:∀n,Fn P w K mg base "plan_from" (n+10) ["many","steps","pairs","free"] (dI K 4 (bg n) .S))(g0:Df K mg "plan_of" gj):Fn P w K mg base "plan_of" 33 ["formula"] (dI K 1 cR .S):=by
 refine Df.fnD (N:=["formula","steps","free"]) (ps:=["formula"]) (st:=gj) (k:=32) sW .S nQ g0 jy qT rfl (by decide) ?_;intro f bh A outer s0 H E hr;have hu:=hr.units;have iE:=br hr;exact (ai (bo (fO (de (ar bO (rm hr) (aa (aj 0) af)))) (aq (xq λ_=>⟨_,_,rfl⟩)) aK)
 (ai (a5 (i:=1) jy.nd (ar (di 30) (rm hr) (aa (aj 0) (aa jJ af))))
 (ai (a5 (i:=2) jy.nd (aM bb bD (by rfl) T.zkq cf (aa (iU (ao gj) ["formula","steps","free"] ["step"] [none] rfl (dC (aj 1)) (λY=>⟨(bj (i:=0) (show (["step"]:List Str).Nodup by decide+kernel)),(mf (de (d6 (T:="tuple") (by decide) (aj 0) T.zcq T.zfq eC))),(aj 0)⟩)) af)))
 (aq (aA (ar (eY 10) (rm hr) (D4 (ax (aV aW aX (aV jZ iJ ah (aj 2)) ah) (ax (aj 1) (ax (bG af) (ax (ar gZ (rm hr) (aa (aj 2) af)) gf)))))))))))
theorem pd (T:Txt mg)  (dX:Df K mg "_law_cell_at" fW):Fn P w K mg base "_law_cell_at" 1 ["script","k"] (dI K 2 cS .S):=by
 refine Df.fnD (N:=["script","k"]) (ps:=["script","k"]) (st:=fW) (k:=0) qQ .S fw dX o8 o9 rfl (by decide) ?_;intro f bh A outer s0 H E hr;have hu:=hr.units;have iE:=br hr;exact (ai (bo (aN xY ud (aj 1) (aM bb bD (by rfl) T.zkq cf (aa (aj 0) af)) (aD _)) (aq (aA (aH av aw (aj 0) (aj 1) (λ_ _=>rfl)))) aK)
 (aq (aA ah)))
theorem rY (T:Txt mg)(iA:Fn P w K mg base "_law_cell_at" 1 ["script","k"] (dI K 2 cS .S))(fH:Df K mg "_law_state" gX):Fn P w K mg base "_law_state" 2 ["script","k"] (dI K 2 fA .O):=by
 refine Df.fnD (N:=["script","k","cell"]) (ps:=["script","k"]) (st:=gX) (k:=1) um .O gP fH lh rT rfl (by decide) ?_;intro f bh A outer s0 H E hr;have hu:=hr.units;have iE:=br hr;exact (ai (a5 (i:=2) lh.nd (ar iA (rm hr) (aa (aj 0) (aa (aj 1) af))))
 (ai (bo (aN J5 Ih (aj 2) (aV A7 yn ah ah) (aD _)) (aq (l6 (bG (aa (aV tx pF (aj 2) (aV A7 yn ah ah)) (aa jJ af))))) aK)
 (aq (l6 (bG (aa (aV lx jn (aj 2) ah) (aa jJ af)))))))
theorem uA (T:Txt mg)  (gF:Df K mg "_law_take" i_):Fn P w K mg base "_law_take" 1 ["state","many"] (yf K 2 aS):=by
 refine Df.fnI (N:=["state","many","found","mixed"]) (ps:=["state","many"]) (st:=i_) (k:=0) vM iM gF gR uv rfl rfl (by decide) ?_;intro f bh A outer s0 H E hr;have hu:=hr.units;have iE:=br hr;exact (ai (bo (de (aH av aw (fm 0) ah (λ_ _=>rfl))) (ai (a5 (i:=2) gR.nd (aV lx jn (aH av aw (fm 0) ah (λ_ _=>rfl)) (aj 1)))
 (ai (tX (i:=0) (aV sF vq (aH av aw (fm 0) ah (λ_ _=>rfl)) (aj 1)) ah)
 (aq (aA (aj 2))))) aK)
 (ai (tX (i:=0) (aV lx jn (aV aW aX (aV jZ iJ (aH av aw (fm 0) ah (λ_ _=>rfl)) ah) ah) ah) ah)
 (ai (a5 (i:=3) gR.nd (aV lx jn (aV aW aX (aV aW aX (aV jZ iJ (aH av aw (fm 0) ah (λ_ _=>rfl)) (aH av aw (fm 0) ah (λ_ _=>rfl))) (aV jZ iJ ah (aH av aw (fm 0) ah (λ_ _=>rfl)))) ah) ah))
 (ai (a5 (i:=3) gR.nd (aV lx jn (aV aW aX (aV jZ iJ (aj 3) (aj 3)) (aV jZ iJ ah (aj 3))) ah))
 (aq (aA (aV lx jn (aV sF vq (aj 3) ah) (aj 1))))))))
theorem rZ (T:Txt mg)(ba:Fn P w K mg base "_law_take" 1 ["state","many"] (yf K 2 aS))(fI:Df K mg "_law_order" fX):Fn P w K mg base "_law_order" 2 ["state","many"] (yf K 2 fB):=by
 refine Df.fnI (N:=["state","many","left"]) (ps:=["state","many"]) (st:=fX) (k:=1) jv jw fI lj rV rfl rfl (by decide) ?_;intro f bh A outer s0 H E hr;have hu:=hr.units;have iE:=br hr;exact (ai (gc (i:=2) lj.nd (ml rfl (aa (aj 1) af) T.zhq T.zgq))
 (aq (aA (fP eA i7 (by rfl) T.zfq eC (aa (Ia (ao fX) ["state","many","left"] ["k","left","state"] [none,some 2,some 0] rfl (i4 (aa (aj 1) af) T.zgq) (λY=>⟨(bj (i:=0) (show (["k","left","state"]:List Str).Nodup by decide+kernel)),eE,(nA (i:=1) Rl PySem.F.slot_list_pop PySem.F.type_list_pop Bj zU (aa (bK (i:=2) ba (rm hr) (aa (aM bb bD (by rfl) T.zkq cf (aa (fm 1) af)) af)) af))⟩)) af)))))
theorem pe (T:Txt mg)(ba:Fn P w K mg base "_law_take" 1 ["state","many"] (yf K 2 aS))(cV:Df K mg "_law_formula" dU):∀n,Fn P w K mg base "_law_formula" (n+2) ["state","bits"] (yf K 2 (bQ n)):=by
 intro n
 induction n with
 |zero=>
  refine Df.fnI (N:=["state","bits","found","cut_at","parts","turn"]) (ps:=["state","bits"]) (st:=dU) (k:=1) kc (dR 0) cV bH jO rfl rfl (by decide) ?_;intro f bh A outer s0 H E hr;have hu:=hr.units;have iE:=br hr;exact eM
 |succ n cW=>
  refine Df.fnI (N:=["state","bits","found","cut_at","parts","turn"]) (ps:=["state","bits"]) (st:=dU) (k:=n+2) kc (dR (n+1)) cV bH jO rfl rfl (by decide) ?_;intro f bh A outer s0 H E hr;have hu:=hr.units;have iE:=br hr;exact (ai (bo (aN (c_ hu) (cM (f:=id)) (aM bb bD (by rfl) T.zkq cf (aa (aj 1) af)) ah (aD _)) (aq (a5 (i:=2) bH.nd (aP (aa aJ (aa (aH av aw (aj 1) ah (λ_ _=>rfl)) af))))) (ai (a5 (i:=3) bH.nd (aV aW aX ah (bK (i:=0) ba (rm hr) (aa (aV tx pF (aM bb bD (by rfl) T.zkq cf (aa (aj 1) af)) ah) af))))
 (ai (a5 (i:=4) bH.nd (bG (aa (bK (i:=0) cW (rm hr) (aa (b9 b_ eh (aj 1) cO (cP (aj 3))) af)) (aa (bK (i:=0) cW (rm hr) (aa (b9 b_ eh (aj 1) (cP (aj 3)) cO) af)) af))))
 (aq (a5 (i:=2) bH.nd (aP (aa (aH av aw (bG (aa aJ (aa aJ (aa aJ af)))) (bK (i:=0) ba (rm hr) (aa ah af)) (λ_ _=>rfl)) (aa (aH av aw (aj 4) ah (λ_ _=>rfl)) (aa (aH av aw (aj 4) ah (λ_ _=>rfl)) af)))))))))
 (ai (g8 Ru rfl (i4 (aa (aH av aw (bG (D4 (ax ah (ax ah (ax ah (ax ah (ax ah (ax ah gf)))))))) (bK (i:=0) ba (rm hr) (aa ah af)) (λ_ _=>rfl)) af) T.zgq) (bj (i:=5) bH.nd)
 (aq (a5 (i:=2) bH.nd (aP (aa aJ (aa (aj 2) af))))))
 (aq (aA (aj 2)))))
theorem ki (T:Txt mg)(ba:Fn P w K mg base "_law_take" 1 ["state","many"] (yf K 2 aS))(jF:Fn P w K mg base "_law_order" 2 ["state","many"] (yf K 2 fB))(cW:∀n,Fn P w K mg base "_law_formula" (n+2) ["state","bits"] (yf K 2 (bQ n)))(cb:Df K mg "_law_some_formula" cC):Fn P w K mg base "_law_some_formula" 9 ["state"] (yf K 1 cQ):=by
 refine Df.fnI (N:=["state","bits"]) (ps:=["state"]) (st:=cC) (k:=8) kY ei cb gA kh rfl rfl (by decide) ?_;intro f bh A outer s0 H E hr;have hu:=hr.units;have iE:=br hr;exact (ai (a5 (i:=1) gA.nd (bK (i:=0) jF (rm hr) (aa (aV aW aX ah (bK (i:=0) ba (rm hr) (aa ah af))) af)))
 (aq (aA (bK (i:=0) (cW 6) (rm hr) (aa (aj 1) af)))))
theorem r_ (T:Txt mg)  (d_:Df K mg "_law_worth" fY):∀n,Fn P w K mg base "_law_worth" (n+1) ["formula","bits"] (dI K 2 (cI n) .S):=by
 intro n
 induction n with
 |zero=>
  refine Df.fnD (N:=["formula","bits","count"]) (ps:=["formula","bits"]) (st:=fY) (k:=0) mH .S (cH 0) d_ iW lr rfl (by decide) ?_;intro f bh A outer s0 H E hr;have hu:=hr.units;have iE:=br hr;exact eM
 |succ n dj=>
  refine Df.fnD (N:=["formula","bits","count"]) (ps:=["formula","bits"]) (st:=fY) (k:=n+1) mH .S (cH (n+1)) d_ iW lr rfl (by decide) ?_;intro f bh A outer s0 H E hr;have hu:=hr.units;have iE:=br hr;exact (ai (bo (aN ed bW (aH av aw (aj 0) ah (λ_ _=>rfl)) aJ (aD _)) (aq (aA (aH av aw (aj 1) (aH av aw (aj 0) ah (λ_ _=>rfl)) (λ_ _=>rfl)))) aK)
 (ai (bo (aN ed bW (aH av aw (aj 0) ah (λ_ _=>rfl)) aJ (aD _)) (aq (aA (aV tx pF ah (ar dj (rm hr) (aa (aH av aw (aj 0) ah (λ_ _=>rfl)) (aa (aj 1) af)))))) aK)
 (ai (a5 (i:=2) iW.nd (aV aW aX (ar dj (rm hr) (aa (aH av aw (aj 0) ah (λ_ _=>rfl)) (aa (aj 1) af))) (ar dj (rm hr) (aa (aH av aw (aj 0) ah (λ_ _=>rfl)) (aa (aj 1) af)))))
 (aq (aA (fP zx ES (by rfl) T.zjq tP (aa (fN (xw hu) uh (aj 2) (E5 hu Ob OV Ob (aH av aw (aj 0) ah (λ_ _=>rfl))) (by with_unfolding_all rfl)) af)))))))
theorem pf (T:Txt mg)  (cY:Df K mg "_law_bits_in" eS):∀n,Fn P w K mg base "_law_bits_in" (n+1) ["formula"] (dI K 1 (bS n) .O):=by
 intro n
 induction n with
 |zero=>
  refine Df.fnD (N:=["formula","found","part"]) (ps:=["formula"]) (st:=eS) (k:=0) ke .O (bR 0) cY dr jP rfl (by decide) ?_;intro f bh A outer s0 H E hr;have hu:=hr.units;have iE:=br hr;exact eM
 |succ n dY=>
  refine Df.fnD (N:=["formula","found","part"]) (ps:=["formula"]) (st:=eS) (k:=n+1) ke .O (bR (n+1)) cY dr jP rfl (by decide) ?_;intro f bh A outer s0 H E hr;have hu:=hr.units;have iE:=br hr;exact (ai (bo (aN ed bW (aH av aw (aj 0) ah (λ_ _=>rfl)) aJ (aD _)) (aq (l6 (bG (aa (aH av aw (aj 0) ah (λ_ _=>rfl)) af)))) aK)
 (ai (a5 (i:=1) dr.nd (bG af))
 (ai (g8 Ru rfl (dC (b9 b_ eh (aj 0) (cP ah) cO)) (bj (i:=2) dr.nd)
 (aq (a5 (i:=1) dr.nd (aV aW aX (aj 1) (ar dY (rm hr) (aa (aj 2) af))))))
 (aq (l6 (aM ji nH (by rfl) T.zeq nj (aa (aj 1) af)))))))
theorem nS (T:Txt mg)  (dw:Df K mg "_law_all_bits" c7):Fn P w K mg base "_law_all_bits" 1 ["count"] (dI K 1 eN .S):=by
 refine Df.fnD (N:=["count","found","k"]) (ps:=["count"]) (st:=c7) (k:=0) o7 .S jM dw d8 nR rfl (by decide) ?_;intro f bh A outer s0 H E hr;have hu:=hr.units;have iE:=br hr;exact (ai (a5 (i:=1) d8.nd (bG (aa (aP af) af)))
 (ai (g8 Ru rfl (i4 (aa (aj 0) af) T.zgq) (bj (i:=2) d8.nd)
 (aq (a5 (i:=1) d8.nd (aV aW aX (iU (ao c7) ["count","found","k"] ["row"] [none] rfl (dC (aj 1)) (λY=>⟨(bj (i:=0) (show (["row"]:List Str).Nodup by decide+kernel)),eE,(aV aW aX (aj 0) (aP (aa ah af)))⟩)) (iU (ao c7) ["count","found","k"] ["row"] [none] rfl (dC (aj 1)) (λY=>⟨(bj (i:=0) (show (["row"]:List Str).Nodup by decide+kernel)),eE,(aV aW aX (aj 0) (aP (aa ah af)))⟩))))))
 (aq (aA (aj 1)))))
theorem uB (T:Txt mg)  (gG:Df K mg "_law_deep" jb):Fn P w K mg base "_law_deep" 1 ["formula","deep"] (dI K 2 cg .S):=by
 refine Df.fnD (N:=["formula","deep","turn"]) (ps:=["formula","deep"]) (st:=jb) (k:=0) vN .S kf gG jA ux rfl (by decide) ?_;intro f bh A outer s0 H E hr;have hu:=hr.units;have iE:=br hr;exact (ai (g8 Ru rfl (i4 (aa (aj 1) af) T.zgq) (bj (i:=2) jA.nd)
 (aq (a5 (i:=0) jA.nd (aP (aa aJ (aa (aj 0) af))))))
 (aq (aA (aj 0))))
theorem uC (T:Txt mg)(ba:Fn P w K mg base "_law_take" 1 ["state","many"] (yf K 2 aS))(eZ:Df K mg "_law_bent" il):∀n,Fn P w K mg base "_law_bent" (n+2) ["state","formula"] (yf K 2 (bB n)):=by
 intro n
 induction n with
 |zero=>
  refine Df.fnI (N:=["state","formula","way","odds","odd","some"]) (ps:=["state","formula"]) (st:=il) (k:=1) oO (cJ 0) eZ dg mL rfl rfl (by decide) ?_;intro f bh A outer s0 H E hr;have hu:=hr.units;have iE:=br hr;exact eM
 |succ n fc=>
  refine Df.fnI (N:=["state","formula","way","odds","odd","some"]) (ps:=["state","formula"]) (st:=il) (k:=n+2) oO (cJ (n+1)) eZ dg mL rfl rfl (by decide) ?_;intro f bh A outer s0 H E hr;have hu:=hr.units;have iE:=br hr;exact (ai (bo (DW.dt (k7 (fO (de (d6 (T:="tuple") (by decide) (aj 1) T.zcq T.zfq eC))) (k7 (aN (c_ hu) (cM (f:=id)) (aj 1) (aP af) (aD _)) (lB (fO (de (d6 (T:="str") (by decide) (aH av aw (aj 1) ah (λ_ _=>rfl)) T.zcq T.zoq HM))))))) (aq (aA g7)) aK)
 (ai (a5 (i:=2) dg.nd (bK (i:=0) ba (rm hr) (aa ah af)))
 (ai (a5 (i:=3) dg.nd (bG (D4 (ax (aP (aa aJ (aa ah af))) (ax (aP (aa aJ (aa ah af))) (ax (aP (aa aJ (aa ah af))) (ax (aP (aa aJ (aa (qf ly jo ah) af))) (ax (aP (aa aJ (aa jJ af))) (ax (aP (aa aJ (aa g7 af))) (ax g7 (ax aJ (ax ah gf))))))))))))
 (ai (a5 (i:=4) dg.nd (aH av aw (aj 3) (bK (i:=0) ba (rm hr) (aa ah af)) (λ_ _=>rfl)))
 (ai (a5 (i:=5) dg.nd (bG (D4 (ax (fP tK BS (by rfl) T.zhq yc (aa (aj 1) af)) (ax (aV aW aX (aj 1) (aP (aa (aj 4) af))) (ax (b9 b_ eh (aj 1) cO (cP (qf ly jo ah))) (ax (aV aW aX (aP (aa (C3 (aH av aw (aj 1) ah (λ_ _=>rfl))) af)) (b9 b_ eh (aj 1) (cP ah) cO)) gf)))))))
 (ai (a5 (i:=5) dg.nd (aV aW aX (aj 5) (bG (aa (aV aW aX (aP (aa (aj 4) af)) (b9 b_ eh (aj 1) (cP ah) cO)) (aa (aj 4) af)))))
 (ai (bo (aN xY ud (aj 2) ah (aD _)) (aq (aA (aH av aw (aj 5) (aj 2) (λ_ _=>rfl)))) aK)
 (ai (bo (DW.dt (k7 (aN (c_ hu) (cM (f:=id)) (aH av aw (aj 1) ah (λ_ _=>rfl)) aJ (aD _)) (lB (aN (c_ hu) (cM (f:=id)) (aj 2) ah (aD _))))) (aq (aA (aV aW aX (aV aW aX (b9 b_ eh (aj 1) cO (cP ah)) (aP (aa (aj 4) af))) (b9 b_ eh (aj 1) (cP ah) cO)))) aK)
 (aq (aA (aV aW aX (b9 b_ eh (aj 1) cO (cP (qf ly jo ah))) (aP (aa (bK (i:=0) fc (rm hr) (aa (aH av aw (aj 1) (qf ly jo ah) (λ_ _=>rfl)) af)) af)))))))))))))
theorem uD (T:Txt mg)  (e_:Df K mg "_law_look" gz):∀n,Fn P w K mg base "_law_look" (n+1) ["thing","deep"] (dI K 2 (aY n) .S):=by
 intro n
 induction n with
 |zero=>
  refine Df.fnD (N:=["thing","deep","word","number","good","parts"]) (ps:=["thing","deep"]) (st:=gz) (k:=0) oP .S (bC 0) e_ d9 mM rfl (by decide) ?_;intro f bh A outer s0 H E hr;have hu:=hr.units;have iE:=br hr;exact eM
 |succ n fb=>
  refine Df.fnD (N:=["thing","deep","word","number","good","parts"]) (ps:=["thing","deep"]) (st:=gz) (k:=n+1) oP .S (bC (n+1)) e_ d9 mM rfl (by decide) ?_;intro f bh A outer s0 H E hr;have hu:=hr.units;have iE:=br hr;exact (ai (bo (DW.dt (k7 (aN u5 qt (aj 1) ah (aD _)) (k7 (fO (de (d6 (T:="tuple") (by decide) (aj 0) T.zcq T.zfq eC))) (lB (aN xY ud (aM bb bD (by rfl) T.zkq cf (aa (aj 0) af)) ah (aD _)))))) (aq (aA g7)) aK)
 (ai (a5 (i:=2) d9.nd (aH av aw (aj 0) ah (λ_ _=>rfl)))
 (ai (bo (DW.dt (xc (aN (c_ hu) (cM (f:=id)) (aj 2) aJ (aD _)) (tS (aN (c_ hu) (cM (f:=id)) (aM bb bD (by rfl) T.zkq cf (aa (aj 0) af)) ah (aD _))))) (ai (a5 (i:=3) d9.nd (aH av aw (aj 0) ah (λ_ _=>rfl)))
 (ai (a5 (i:=4) d9.nd (j2 (ha:=(d6 (T:="int") (by decide) (aj 3) T.zcq T.zjq tP)) (hb:=(j2 (ha:=(xf (d6 (T:="bool") (by decide) (aj 3) T.zcq T.ziq pB))) (hb:=(lC (BG Fy fit_le xY ud ah (aj 3) ah)))))))
 (aq (aA (j3 (hc:=(de (aj 4))) (ha:=(bG (aa (aj 3) af))) (hb:=g7)))))) aK)
 (ai (bo (DW.dt (xc (aN (c_ hu) (cM (f:=id)) (aj 2) aJ (aD _)) (tS (aN (c_ hu) (cM (f:=id)) (aM bb bD (by rfl) T.zkq cf (aa (aj 0) af)) ah (aD _))))) (aq (aA (ar fb (rm hr) (aa (aH av aw (aj 0) ah (λ_ _=>rfl)) (aa (aV aW aX (aj 1) ah) af))))) aK)
 (ai (bo (DW.dt (xc (aN (xw hu) uh (aj 2) (bG (aa aJ (aa aJ (aa aJ af)))) (by with_unfolding_all rfl)) (tS (aN (c_ hu) (cM (f:=id)) (aM bb bD (by rfl) T.zkq cf (aa (aj 0) af)) ah (aD _))))) (ai (nC (i:=5) (ao gz) ["thing","deep","word","number","good","parts"] ["part","deep"] [none,some 1] d9.nd rfl (dC (b9 b_ eh (aj 0) (cP ah) cO)) (λY=>⟨(bj (i:=0) (show (["part","deep"]:List Str).Nodup by decide+kernel)),eE,(ar fb (rm hr) (aa (aj 0) (aa (aV aW aX (aj 1) ah) af)))⟩))
 (aq (bo (aN (An hu) uh g7 (aj 5) (by with_unfolding_all rfl)) (aq (aA (aV aW aX (aH av aw (aj 5) ah (λ_ _=>rfl)) (aH av aw (aj 5) ah (λ_ _=>rfl))))) aK))) aK)
 (aq (aA g7)))))))
theorem wg (T:Txt mg)(fb:∀n,Fn P w K mg base "_law_look" (n+1) ["thing","deep"] (dI K 2 (aY n) .S))(iB:Df K mg "_law_due" kQ):Fn P w K mg base "_law_due" 26 ["thing"] (dI K 1 eR .S):=by
 refine Df.fnD (N:=["thing","found"]) (ps:=["thing"]) (st:=kQ) (k:=25) xC .S ig iB oS vZ rfl (by decide) ?_;intro f bh A outer s0 H E hr;have hu:=hr.units;have iE:=br hr;exact (ai (a5 (i:=1) oS.nd (ar (fb 24) (rm hr) (aa (aj 0) (aa ah af))))
 (aq (aA (j2 (ha:=(fN Eg BR (aj 1) g7 (aD _))) (hb:=(lC (fN (c_ hu) (cM (f:=id)) (aM ji nH (by rfl) T.zeq nj (aa (aj 1) af)) (ml rfl (aa (aM bb bD (by rfl) T.zkq cf (aa (aj 1) af)) af) T.zhq T.zgq) (aD _))))))))
theorem sd (T:Txt mg)(bO:Fn P w K mg base "is_formula" 3 ["thing"] (dI K 1 aB .S))(pS:Fn P w K mg base "worth" 32 ["formula","bits"] (dI K 2 kM .S))(dj:∀n,Fn P w K mg base "_law_worth" (n+1) ["formula","bits"] (dI K 2 (cI n) .S))(dY:∀n,Fn P w K mg base "_law_bits_in" (n+1) ["formula"] (dI K 1 (bS n) .O))(gK:Fn P w K mg base "_law_all_bits" 1 ["count"] (dI K 1 eN .S))(lS:Fn P w K mg base "_law_due" 26 ["thing"] (dI K 1 eR .S))(dZ:Fn P w K mg base "_law_refused" 34 ["way","thing"] (dI K 2 aQ .S))(fJ:Df K mg "_law_right" gY):Fn P w K mg base "_law_right" 35 ["thing"] (dI K 1 bL .S):=by
 refine Df.fnD (N:=["thing","found","bits","told"]) (ps:=["thing"]) (st:=gY) (k:=34) uo .S gQ fJ gm rW rfl (by decide) ?_;intro f bh A outer s0 H E hr;have hu:=hr.units;have iE:=br hr;exact (ai (a5 (i:=1) gm.nd (ar bO (rm hr) (aa (aj 0) af)))
 (ai (bo (DW.dt (k7 (fO (de (d6 (T:="bool") (by decide) (aj 1) T.zcq T.ziq pB))) (lB (aN u4 pL (aj 1) (ar lS (rm hr) (aa (aj 0) af)) (aD _))))) (aq (aA jJ)) aK)
 (ai (bo (fO (de (aj 1))) (aq (aA (j2 (ha:=(fN ed bW (ar dZ (rm hr) (aa ah (aa (aj 0) af))) aJ (aD _))) (hb:=(lC (fN ed bW (ar dZ (rm hr) (aa ah (aa (aj 0) af))) aJ (aD _))))))) aK)
 (ai (g8 Ru rfl (dC (m1:=.S) (ar gK (rm hr) (aa (aM bb bD (by rfl) T.zkq cf (aa (ar (dY 30) (rm hr) (aa (aj 0) af)) af)) af))) (bj (i:=2) gm.nd)
 (ai (a5 (i:=3) gm.nd (ar pS (rm hr) (aa (aj 0) (aa (aj 2) af))))
 (aq (bo (DW.dt (k7 (fO (de (d6 (T:="int") (by decide) (aj 3) T.zcq T.zjq tP))) (k7 (de (d6 (T:="bool") (by decide) (aj 3) T.zcq T.ziq pB)) (lB (aN u4 pL (aj 3) (ar (dj 30) (rm hr) (aa (aj 0) (aa (aj 2) af))) (aD _)))))) (aq (aA jJ)) aK))))
 (aq (aA (fN Hu ER (ar dZ (rm hr) (aa ah (aa (aj 0) af))) g7 (aD _))))))))
theorem IK (T:Txt mg){cX:QX}(XF:Aj K mg cX "NoFormula" MF)(FL:D1 K "law" "law" ur f fd)(ir:Df K mg "is_whole" i8)(gE:Df K mg "exchanged" fU)(cT:Df K mg "arrangements" bM)(iu:Df K mg "pile_mix" ij)(jd:Df K mg "pair_at" kN)(kz:Df K mg "turned" kO)(cU:Df K mg "mixed_and_seen" dA)(je:Df K mg "turning" gy)(iw:Df K mg "choosing" gW)(jf:Df K mg "is_made" kP)(cK:Df K mg "formulas_within" cB)(fG:Df K mg "is_formula" dS)(fZ:Df K mg "reckoned" eU)(kT:Df K mg "worth" jx)(f7:Df K mg "steps_of" ik)(iz:Df K mg "piles_of" i9)(eJ:Df K mg "pair_behind" eV)(eX:Df K mg "plan_from" fV)(g0:Df K mg "plan_of" gj)(dX:Df K mg "_law_cell_at" fW)(fH:Df K mg "_law_state" gX)(gF:Df K mg "_law_take" i_)(fI:Df K mg "_law_order" fX)(cV:Df K mg "_law_formula" dU)(cb:Df K mg "_law_some_formula" cC)(d_:Df K mg "_law_worth" fY)(cY:Df K mg "_law_bits_in" eS)(dw:Df K mg "_law_all_bits" c7)(kA:Df K mg "_law_mark" ja)(gG:Df K mg "_law_deep" jb)(eZ:Df K mg "_law_bent" il)(e_:Df K mg "_law_look" gz)(iB:Df K mg "_law_due" kQ)(iC:Df K mg "_law_refused" eW)(fJ:Df K mg "_law_right" gY)(hp:∀ns:List Int,ns.length<=63->vO [.scr (ns.map .int)]=.ok (.bl true)):iZ P w K mg base tM 36 f fd ["script"] (vn K):=by
 have lQ:=v8 (P:=P) (w:=w) (base:=base) T  ir;have ky:=uy (P:=P) (w:=w) (base:=base) T  gE;have dW:=pb (P:=P) (w:=w) (base:=base) T  cT;have lP:=v9 (P:=P) (w:=w) (base:=base) T ky dW iu;have gZ:=xK (P:=P) (w:=w) (base:=base) T  jd;have dv:=Av (P:=P) (w:=w) (base:=base) T  kz;have f9:=mO (P:=P) (w:=w) (base:=base) T lP cU;have nX:=xM (P:=P) (w:=w) (base:=base) T  je;have jE:=v_ (P:=P) (w:=w) (base:=base) T  iw;have nW:=xN (P:=P) (w:=w) (base:=base) T lQ jf;have fF:=lK (P:=P) (w:=w) (base:=base) T  cK;have bO:=rX (P:=P) (w:=w) (base:=base) T nW fF fG;have iy:=wa (P:=P) (w:=w) (base:=base) T  fZ;have pS:=C9 (P:=P) (w:=w) (base:=base) T bO iy kT;have di:=wc (P:=P) (w:=w) (base:=base) T gZ dv f7;have lR:=we (P:=P) (w:=w) (base:=base) T dv nX jE iz;have iX:=qU (P:=P) (w:=w) (base:=base) T dv eJ;have eY:=uz (P:=P) (w:=w) (base:=base) T dv f9 lR iX eX;have AH:=xO (P:=P) (w:=w) (base:=base) T gZ bO di eY g0;have iA:=pd (P:=P) (w:=w) (base:=base) T  dX;have uP:=rY (P:=P) (w:=w) (base:=base) T iA fH;have ba:=uA (P:=P) (w:=w) (base:=base) T  gF;have jF:=rZ (P:=P) (w:=w) (base:=base) T ba fI;have cW:=pe (P:=P) (w:=w) (base:=base) T ba cV;have k4:=ki (P:=P) (w:=w) (base:=base) T ba jF cW cb;have dj:=r_ (P:=P) (w:=w) (base:=base) T  d_;have dY:=pf (P:=P) (w:=w) (base:=base) T  cY;have gK:=nS (P:=P) (w:=w) (base:=base) T  dw;have iP:=uB (P:=P) (w:=w) (base:=base) T  gG;have fc:=uC (P:=P) (w:=w) (base:=base) T ba eZ;have fb:=uD (P:=P) (w:=w) (base:=base) T  e_;have lS:=wg (P:=P) (w:=w) (base:=base) T fb iB;have dZ:=xJ (P:=P) (w:=w) (base:=base) T XF bO pS AH kT g0 kA iC;have uQ:=sd (P:=P) (w:=w) (base:=base) T bO pS dj dY gK lS dZ fJ;refine Ic (f:=vO) ?_ hp;refine D1.okD (N:=["script","k","state","formula","things"]) (ps:=["script"]) (st:=ur) (k:=35) K6 .S C7 FL lJ rfl (by decide) ?_;intro f bh A outer s0 H E hr;have hu:=hr.units;have iE:=br hr;exact (ai (g8 Ru rfl (i4 (aa (aM (zu rfl) BU (by rfl) T.zlq Bx (aa ah (aa (aM (zw rfl) BV (by rfl) T.zmq By (aa (aM bb bD (by rfl) T.zkq cf (aa (aj 0) af)) (aa ah af))) af))) af) T.zgq) (bj (i:=1) lJ.nd)
 (ai (gc (i:=2) lJ.nd (ar uP (rm hr) (aa (aj 0) (aa (aj 1) af))))
 (ai (a5 (i:=3) lJ.nd (bK (i:=2) k4 (rm hr) af))
 (ai (gc (i:=4) lJ.nd (bG (aa (aj 3) (aa (bK (i:=2) (fc 20) (rm hr) (aa (aj 3) af)) (aa (bK (i:=2) (fc 20) (rm hr) (aa (aj 3) af)) af)))))
 (ai (kH (nA (i:=4) Rl Ur Us sC qr (aa (bK (i:=2) (fc 20) (rm hr) (aa (bK (i:=2) (fc 20) (rm hr) (aa (aP (aa aJ (aa (aj 3) af))) af)) af)) af)))
 (ai (gc (i:=4) lJ.nd (IC (j:=4) tY tZ (bG (D4 (ax (ar iP (rm hr) (aa (aj 3) (aa (aV aW aX ah (bK (i:=2) ba (rm hr) (aa ah af))) af))) (ax (ar iP (rm hr) (aa (aP (aa aJ (aa ah af))) (aa ah af))) (ax g7 (ax ah gf))))))))
 (ai (gc (i:=4) lJ.nd (aV tY tZ (fm 4) (bG (D4 (ax (ar iP (rm hr) (aa (aP (aa aJ (aa ah af))) (aa ah af))) (ax (ar iP (rm hr) (aa (aP (aa aJ (aa ah af))) (aa ah af))) (ax (aP (aa aJ (aa (aj 3) (aa (aj 3) af)))) (ax (aP af) gf))))))))
 (aq (bo (aN (Bu hu) (cM (f:=not)) (iU (ao ur) ["script","k","state","formula","things"] ["thing"] [none] rfl (dC (fm 4)) (λY=>⟨(bj (i:=0) (show (["thing"]:List Str).Nodup by decide+kernel)),(mf (fO (de (ar uQ (rm hr) (aa (aj 0) af))))),(aj 0)⟩)) (bG af) (aD _)) (aq (aA jJ)) aK)))))))))
 (aq (aA jJ)))
end
inductive jQ (K:QB)(x:Str)(st:Si):Prop
 |mk {f:QX} {od an:Option QX} {sl:Array (Option QG)} {oc kV dc pm cd ct:QG}:Q4 K QT x=some (some (.ref f))->K.lookup f=some ⟨oc,od,.func (Rt x x (eK st) (bV st) (ao st) .none kV dc pm an cd ct),sl⟩->Tr K cd x=true->Rv K (.ref f)=true->jQ K x st
theorem bT {st:Si}(q:jQ K x st)(X:K.In h)(G:h.Ns QT mg):Df K mg x st:=by
 obtain⟨a,l,c,k⟩:=q;exact⟨_,_,Rz X G a,Bl (st:=st) l c k⟩
theorem all_mk {w:Rx}{fa:QX}(X:K.In h)(G:h.Ns QT mg)(PM:mg "law"=some (.ref fa))(q0:jQ K "is_whole" i8)(q1:jQ K "exchanged" fU)(q2:jQ K "arrangements" bM)(q3:jQ K "pile_mix" ij)(q4:jQ K "pair_at" kN)(q5:jQ K "turned" kO)(q6:jQ K "mixed_and_seen" dA)(q7:jQ K "turning" gy)(q8:jQ K "choosing" gW)(q9:jQ K "is_made" kP)(PN:jQ K "formulas_within" cB)(PQ:jQ K "is_formula" dS)(PR:jQ K "reckoned" eU)(PV:jQ K "worth" jx)(PX:jQ K "steps_of" ik)(PY:jQ K "piles_of" i9)(PZ:jQ K "pair_behind" eV)(P0:jQ K "plan_from" fV)(P1:jQ K "plan_of" gj)(P2:jQ K "_law_cell_at" fW)(P4:jQ K "_law_state" gX)(P5:jQ K "_law_take" i_)(P6:jQ K "_law_order" fX)(P7:jQ K "_law_formula" dU)(P8:jQ K "_law_some_formula" cC)(P9:jQ K "_law_worth" fY)(P_:jQ K "_law_bits_in" eS)(Qa:jQ K "_law_all_bits" c7)(Qb:jQ K "_law_mark" ja)(Qc:jQ K "_law_deep" jb)(Qd:jQ K "_law_bent" il)(Qe:jQ K "_law_look" gz)(Qf:jQ K "_law_due" kQ)(Qg:jQ K "_law_refused" eW)(Qh:jQ K "_law_right" gY)(Qi:jQ K "law" ur)(zpq:Q4 K QT "all"=some none)(ziq:Q4 K QT "bool"=some none)(zjq:Q4 K QT "int"=some none)(zcq:Q4 K QT "isinstance"=some none)(zkq:Q4 K QT "len"=some none)(zhq:Q4 K QT "list"=some none)(zlq:Q4 K QT "max"=some none)(zmq:Q4 K QT "min"=some none)(zgq:Q4 K QT "range"=some none)(zeq:Q4 K QT "sorted"=some none)(zoq:Q4 K QT "str"=some none)(zqq:Q4 K QT "sum"=some none)(zfq:Q4 K QT "tuple"=some none)(znq:Q4 K QT "zip"=some none){mW:Tok}(zdq:Q4 K QT "MOST_BITS"=some (some (.int 3 mW))){ff:Tok}(zaq:Q4 K QT "MOST_FORMULAS_WITHIN"=some (some (.int 20 ff))){gN:Tok}(zbq:Q4 K QT "MOST_PILES_MIXED"=some (some (.int 4 gN))){wD:QX}(rG:Q4 K QT "NoPlan"=some (some (.ref wD))){ze:QX}(uR:Q4 K QT "NoWay"=some (some (.ref ze))){zf:QX}(uS:Q4 K QT "NoEnd"=some (some (.ref zf))){aZ:QX}(iQ:Q4 K QT "NoFormula"=some (some (.ref aZ))){tf:QX}(nY:Q4 K QT "TooMany"=some (some (.ref tf))){wF:QX}(rH:Q4 K QT "NoName"=some (some (.ref wF))){tj:QX}(nZ:Q4 K QT "BadNote"=some (some (.ref tj))){oW:QX}(kC:Q4 K QT "CardError"=some (some (.ref oW)))(DY:PySem.W.excIn K aZ yw "ValueError.__new__"=true)(Ju:R6 K (.ref aZ) "__getattribute__"=some (some (.builtin "BaseException.__getattribute__")))(Jv:R6 K (.ref aZ) "__getattr__"=some none)(Jw:R6 K (.ref aZ) "__class__"=some (some (.builtin "object.__class__")))(Jx:Uk K (.builtin "object.__class__") "__get__"=some (some (.builtin "getset_descriptor.__get__")))(Jy:PySem.W.takesIn K (.builtin "object.__class__")=some true)(Fw:PySem.W.mroIn K aZ (.type "object")=some true)(Jz:PySem.W.mroIn K aZ (.type "BaseException")=some true)(xU:PySem.W.exmOne K (.ref aZ) (.ref oW)=some true)(JA:RG K (.ref aZ) (.type "ValueError")=some true)(DZ:Q4 K QT "ValueError"=some none)(rJ:RG K (.ref aZ) (.ref wD)=some false)(uT:RG K (.ref aZ) (.ref ze)=some false)(uU:RG K (.ref aZ) (.ref zf)=some false)(kD:RG K (.ref aZ) (.ref aZ)=some true)(n8:RG K (.ref aZ) (.ref tf)=some false)(rK:RG K (.ref aZ) (.ref wF)=some false)(n9:RG K (.ref aZ) (.ref tj)=some false)(hp:∀ns:List Int,ns.length<=63->vO [.scr (ns.map .int)]=.ok (.bl true))
  : ∃fd:Sq,(∀(s:QP) (v:QG),BindsTo s fd ⟨[v],[]⟩ [("script",v)])/\∀base:S2,K.In base->base.Ns QT mg->iZ PySem.Challenge.pw_hushcards_k55_formulas_known w K mg base tM 36 fa fd ["script"] (vn K):=by
 obtain @⟨f_,od_,an35,sl_,oc_,kV35,dc35,pm35,cd35,ct35,a35,l35,c35,k35⟩:=Qi;have e:=PM.symm.trans (Rz X G a35);cases e;have T:Txt mg:=⟨Q8 X G zpq,Q8 X G ziq,Q8 X G zjq,Q8 X G zcq,Q8 X G zkq,Q8 X G zhq,Q8 X G zlq,Q8 X G zmq,Q8 X G zgq,Q8 X G zeq,Q8 X G zoq,Q8 X G zqq,Q8 X G zfq,Q8 X G znq,⟨_,Rz X G zdq⟩,⟨_,Rz X G zaq⟩,⟨_,Rz X G zbq⟩⟩;have ir:=bT q0 X G;have gE:=bT q1 X G;have cT:=bT q2 X G;have iu:=bT q3 X G;have jd:=bT q4 X G;have kz:=bT q5 X G;have cU:=bT q6 X G;have je:=bT q7 X G;have iw:=bT q8 X G;have jf:=bT q9 X G;have cK:=bT PN X G;have fG:=bT PQ X G;have fZ:=bT PR X G;have kT:=bT PV X G;have f7:=bT PX X G;have iz:=bT PY X G;have eJ:=bT PZ X G;have eX:=bT P0 X G;have g0:=bT P1 X G;have dX:=bT P2 X G;have fH:=bT P4 X G;have gF:=bT P5 X G;have fI:=bT P6 X G;have cV:=bT P7 X G;have cb:=bT P8 X G;have d_:=bT P9 X G;have cY:=bT P_ X G;have dw:=bT Qa X G;have kA:=bT Qb X G;have gG:=bT Qc X G;have eZ:=bT Qd X G;have e_:=bT Qe X G;have iB:=bT Qf X G;have iC:=bT Qg X G;have fJ:=bT Qh X G;have FL:=Bl (st:=ur) l35 c35 k35;refine⟨Rt "law" "law" (eK ur) (bV ur) (ao ur) .none kV35 dc35 pm35 an35 cd35 ct35,λs v=>.of_eq rfl,λbase _ _=>?_⟩;have XF:Aj K mg aZ "NoFormula" MF:=⟨Rz X G iQ,DY,⟨Iq Fw,Ju,Jv,Jw,Jx,Jy,Fw,Jz⟩,⟨_,Rz X G kC,xU⟩,JA,Q8 X G DZ,by
  intro p hp;simp only[MF,QN,Rm,or_false] at hp;rcases hp with rfl|rfl|rfl|rfl|rfl|rfl|rfl
  ·exact⟨_,Rz X G rG,rJ⟩
  ·exact⟨_,Rz X G uR,uT⟩
  ·exact⟨_,Rz X G uS,uU⟩
  ·exact⟨_,Rz X G iQ,kD⟩
  ·exact⟨_,Rz X G nY,n8⟩
  ·exact⟨_,Rz X G rH,rK⟩
  ·exact⟨_,Rz X G nZ,n9⟩⟩
 exact IK (P:=PySem.Challenge.pw_hushcards_k55_formulas_known) (w:=w) (base:=base) T XF FL ir gE cT iu jd kz cU je iw jf cK fG fZ kT f7 iz eJ eX g0 dX fH gF fI cV cb d_ cY dw kA gG eZ e_ iB iC fJ hp
end Hc
namespace Hc
open L2
end Hc
namespace Hc
open L2
theorem GJ {f:Bool->Bool}{u w:U}:eF f u w=(ID u w).bind λb=>.ok (.bl (f b)):=nr rfl
theorem yT {a b:Int}:ID (.int a) (.int b)=.ok (a==b):=nr rfl
theorem C_ {a b:Bool}:ID (.bl a) (.bl b)=.ok (a==b):=nr rfl
theorem yU {a b:Str}:ID (.str a) (.str b)=.ok (a==b):=nr rfl
theorem bJ:type_of% @Rb.{0,0}/\type_of% @Sh.{0,0}/\type_of% @QL.{0}/\type_of% @RW.{0}/\type_of% @TB.{0}/\type_of% @SJ.{0}/\type_of% @List.replicate_succ.{0}/\type_of% @List.replicate_zero.{0}/\type_of% @List.getElem?_cons_zero.{0}/\type_of% @RK.{0}/\type_of% @Tf.{0}/\type_of% @Th.{0}/\type_of% @Option.getD_some.{0}/\type_of% @Tw.{0}/\type_of% @if_true.{1}/\type_of% @if_false.{1}/\type_of% @Ua/\type_of% @FU/\type_of% @Bool.not_true/\type_of% @Bool.not_false/\type_of% @GJ/\type_of% @yT/\type_of% @C_/\type_of% @yU:=
 ⟨@Rb.{0,0},@Sh.{0,0},@QL.{0},@RW.{0},@TB.{0},@SJ.{0},@List.replicate_succ.{0},@List.replicate_zero.{0},@List.getElem?_cons_zero.{0},@RK.{0},@Tf.{0},@Th.{0},@Option.getD_some.{0},@Tw.{0},@if_true.{1},@if_false.{1},@Ua,@FU,@Bool.not_true,@Bool.not_false,@GJ,@yT,@C_,@yU⟩
end Hc
namespace Hc
open L2
theorem NS:(0:Nat)<=QC/\(1:Nat)<=QC/\(2:Nat)<=QC/\(3:Nat)<=QC/\(4:Nat)<=QC/\(5:Nat)<=QC/\(6:Nat)<=QC/\(10:Nat)<=QC/\(16:Nat)<=QC/\(18:Nat)<=QC/\(22:Nat)<=QC:=by decide
theorem Pzz:type_of% @au∧type_of% @bJ∧type_of% @NS:=⟨@au,@bJ,@NS⟩
theorem K7:iK (.lst us) [.lst ws]=if us.length+ws.length<=QC then .ok (.non,.lst (us++ws)) else .stk:=nr rfl
theorem wj (us:List U)(k:Nat):gu us none (some (k:Int))=us.take k:=by
 unfold gu;rw[HT.sIx_none,HT.sIx_nat,Sn,Nat.sub_zero];rcases Nat.le_total k us.length with h|h
 ·rw[Nat.min_eq_left h]
 ·rw[Nat.min_eq_right h,Tz,So h]
theorem qV (us:List U)(k:Nat):gu us (some (k:Int)) none=us.drop k:=by
 unfold gu;rw[HT.sIx_none,HT.sIx_nat];rcases Nat.le_total k us.length with h|h
 ·rw[Nat.min_eq_left h,So (by rw[Sj];lia)]
 ·rw[Nat.min_eq_right h,S0,List.drop_of_length_le h,List.take_nil]
def xP (s:U):Prop:=∃v b,s=.lst [.int v,.bl b]/\0<=v/\(b=false->v<2147483647)
theorem iO {s:U}{m:Int}(h:xP s)(h0:0<m)(h1:m<18446744073709551616):∃r s',aS [s,.int m]=.ok (.int r,s')/\0<=r/\r<m/\xP s':=by
 obtain⟨v,b,rfl,hv,hb⟩:=h;cases b with
 |true=>
  refine⟨v % m,.lst [.int (v / m),.bl true],?_,Ti _ (by lia),Su _ h0,v / m,true,rfl,Int.ediv_nonneg hv (by lia),λh=>nomatch h⟩;simp only[Pzz,bu,Nat.reduceAdd,Nat.reduceSub,aS,iM,hG h0,yN h0 h1,yO]
 |false=>
  have g1:0<=(v*48271+29) % 2147483647:=Ti _ (by decide);have g2:(v*48271+29) % 2147483647<2147483647:=Su _ (by decide);have c1:nD v 48271=true:=Iz (by decide) (by decide);have d1:decide ((0:Int)<2147483647)=true:=by decide
  have d2:decide ((0:Int)<2147483629)=true:=by decide
  have d3:decide ((0:Int)<2147483587)=true:=by decide
  have e8:zQ (((((v*48271+29) % 2147483647)*((v*48271+29) % 2147483647)+39373*((v*48271+29) % 2147483647)+7) % 2147483629*((((v*48271+29) % 2147483647)*((v*48271+29) % 2147483647)+39373*((v*48271+29) % 2147483647)+7) % 2147483629)+16807*((((v*48271+29) % 2147483647)*((v*48271+29) % 2147483647)+39373*((v*48271+29) % 2147483647)+7) % 2147483629)) % 2147483587) 8=true:=yN (by decide) (by decide);have c2:nD ((v*48271+29) % 2147483647) ((v*48271+29) % 2147483647)=true:=uf g1 (by lia);have c3:nD 39373 ((v*48271+29) % 2147483647)=true:=uf (by decide) (by decide);generalize hs:(v*48271+29) % 2147483647=s1 at *;have g3:0<=(s1*s1+39373*s1+7) % 2147483629:=Ti _ (by decide);have g4:(s1*s1+39373*s1+7) % 2147483629<2147483629:=Su _ (by decide);have c4:nD ((s1*s1+39373*s1+7) % 2147483629) ((s1*s1+39373*s1+7) % 2147483629)=true:=uf g3 (by lia);have c5:nD 16807 ((s1*s1+39373*s1+7) % 2147483629)=true:=uf (by decide) (by decide);refine⟨((s1*s1+39373*s1+7) % 2147483629*((s1*s1+39373*s1+7) % 2147483629)+16807*((s1*s1+39373*s1+7) % 2147483629)) % 2147483587 / 8 % m,.lst [.int s1,.bl false],?_,Ti _ (by lia),Su _ h0,s1,false,rfl,g1,λ_=>g2⟩
  ·simp only[Pzz,bu,Nat.reduceAdd,Nat.reduceSub,aS,iM,hG h0,c1,d1,d2,d3,hs,c2,c3,c4,c5,e8,yO]
theorem Dd {us:List U}{u:U}{k:Int}(hu:u=.scr (ns.map .int)\/u=.lst (ns.map .int))(h0:0<=k):∃s,fA [u,.int k]=.ok s/\xP s:=by
 obtain⟨k,rfl⟩:∃n:Nat,k=n:=⟨k.toNat,(by lia)⟩;have oV:∃c:Int,cS [u,.int k]=.ok (.int c):=by
  by_cases hk:k<ns.length
  ·refine⟨ns[k],?_⟩;have d:decide ((k:Int)<((ns.map U.int).length:Nat))=true:=by rw[QI];exact hG (by lia)
   have e:jI (ns.map U.int) (k:Int)=some (.int ns[k]):=by rw[sO,QV,Qy hk];rfl
   rcases hu with rfl|rfl<;>simp only[Pzz,bu,Nat.reduceAdd,Nat.reduceSub,cS,fw,d,e]
  ·refine⟨0,?_⟩;have d:decide ((k:Int)<((ns.map U.int).length:Nat))=false:=by rw[QI];exact hJ (by lia)
   rcases hu with rfl|rfl<;>simp only[Pzz,bu,Nat.reduceAdd,Nat.reduceSub,cS,fw,d]
 obtain⟨c,hc⟩:=oV;have OD:EN 10 18=true:=by decide
 have OE:(10:Int) ^ (18:Int).toNat=1000000000000000000:=by decide
 have dm:decide ((0:Int)<2147483647)=true:=by decide
 by_cases h:1000000000000000000<=c
 ·refine⟨.lst [.int (c-1000000000000000000),.bl true],?_,_,true,rfl,(by lia),λh=>nomatch h⟩;simp only[Pzz,bu,Nat.reduceAdd,Nat.reduceSub,fA,gP,hc,OD,OE,hG h,hV]
 ·refine⟨.lst [.int (c % 2147483647),.bl false],?_,_,false,rfl,Ti _ (by decide),λ_=>Su _ (by decide)⟩;simp only[Pzz,bu,Nat.reduceAdd,Nat.reduceSub,fA,gP,hc,OD,OE,hJ h,dm,hV]
theorem qW {α:Type}:∀(l:List α) (i:Nat) (h:i<l.length),(l[i]::l.eraseIdx i).Perm l
 |x::l,0,_=>List.Perm.refl _
 |x::l,i+1,h=>by
  have h':i<l.length:=by simpa using h
  show (l[i]::x::l.eraseIdx i).Perm (x::l);exact (List.Perm.swap _ _ _).trans (List.Perm.cons x (qW l i h'))
theorem mP {α β:Type}(f:α->β):∀(l:List α) (i:Nat),(l.map f).eraseIdx i=(l.eraseIdx i).map f
 | [],_=>rfl
 |_::_,0=>rfl
 |x::l,i+1=>by
  show f x::(l.map f).eraseIdx i=f x::(l.eraseIdx i).map f;rw[mP f l i]
theorem IL {k:Int}{y:U}(h1:Uo k us.length=some j)(h2:us[j]? = some y)(h3:0<=k)(h4:k<1000000000):nJ (.lst us) [.int k]=.ok (y,.lst (us.eraseIdx j)):=by
 unfold nJ;dsimp only;rw[hV (by lia),h1];dsimp only;rw[h2]
def yV (n:Nat)(os:List Int):Prop:=os.Perm (bw n)
theorem De {s:U}(h:xP s)(h1:m<=1000):∃(os:List Int) (s':U),fB [s,.int m]=.ok (.tup (os.map .int),s')/\yV m os/\xP s':=by
 obtain⟨ys,⟨left,s'⟩,e,l,os,hr,hp,hs'⟩:=vD (G:=jv) (js:=[none,some 2,some 0]) (sg:=fh 0) (ge:=gM "list" 1 nJ (ae (nq 2 2 aS (ae (gb dD (ae (ag 1) ak)) ak)) ak))
  (λx:List Int×U=>[some x.2,some (.int m),some (.lst (x.1.map .int))]) m (λys x=>∃os:List Int,ys=os.map .int/\(os++x.1).Perm (bw m)/\xP x.2)
  (λdone u x hd h00=>by
   obtain⟨os,hr,hp,hs⟩:=h00;obtain⟨left,s⟩:=x;have hl:0<left.length:=by
    have:=hp.length_eq;rw[QE,df] at this;have h2:done.length=os.length:=by rw[hr,QI]
    dsimp only at this;lia
   have Jm:left.length<=m:=by
    have:=hp.length_eq;rw[QE,df] at this;dsimp only at this;lia
   obtain⟨r,s',b1,b2,b3,b4⟩:=iO (m:=left.length) hs (by lia) (by lia);obtain⟨k,rfl⟩:∃n:Nat,r=n:=⟨r.toNat,(by lia)⟩;have hk:k<left.length:=(by lia)
   refine⟨[some u,some (.lst (left.map .int)),some s],.int left[k],[some u,some (.lst ((left.eraseIdx k).map .int)),some s'],(left.eraseIdx k,s'),rfl,?_,rfl,os++[left[k]],by rw[hr,RX];rfl,?_,b4⟩
   ·have hx:Uo (k:Int) (left.map U.int).length=some k:=by
     unfold Uo;rw[QI];simp;lia
    have hy:(left.map U.int)[k]? = some (.int left[k]):=by rw[QV,Qy hk];rfl
    have pp:=IL hx hy (by lia) (by lia);rw[mP] at pp;simp only[Pzz,bu,Nat.reduceAdd,Nat.reduceSub,QI,b1,pp]
   ·rw[Rj];refine List.Perm.trans (SK os ?_) hp;exact qW left k hk) (b6 0 m) [] (bw m,s) (by rw[fQ];simp) ⟨[],rfl,List.Perm.refl _,h⟩
 rw[fQ] at l;have ln:os.length=m:=by
  have:=congrArg List.length hr;rw[SJ,QI] at this;lia
 have le:left=[]:=by
  have:=hp.length_eq;rw[QE,df] at this;dsimp only at this;exact List.eq_nil_of_length_eq_zero (by lia)
 subst le;rw[Q1] at hp;rw[SJ] at hr;dsimp only at e;refine⟨os,s',?_,hp,hs'⟩;rw[hr] at e;simp only[Pzz,bu,Nat.reduceAdd,Nat.reduceSub,fB,jw,ue m (by lia),mw m (by lia),j8] at e ⊢;simp only[Pzz,bu,Nat.reduceAdd,Nat.reduceSub,e]
inductive Fm where
 |bit (n:Int)
 |neg (f:Fm)
 |two (w:Str) (f g:Fm)
noncomputable def Fm.u:Fm->U
 | .bit n=>.tup [.str "bit",.int n]
 | .neg f=>.tup [.str "not",f.u]
 | .two w f g=>.tup [.str w,f.u,g.u]
noncomputable def Fm.bits:Fm->List Int
 | .bit n=>[n]
 | .neg f=>f.bits
 | .two _ f g=>f.bits++g.bits
noncomputable def Fm.dep:Fm->Nat
 | .bit _=>1
 | .neg f=>f.dep+1
 | .two _ f g=>max f.dep g.dep+1
abbrev Dg (w:Str):Prop:=w="all"\/w="any"\/w="one"
def Fm.ok:Fm->Prop
 | .bit _=>True
 | .neg f=>f.ok
 | .two w f g=>Dg w/\f.ok/\g.ok
noncomputable def cz:Nat->Fm->Fm
 |0,f=>f
 |n+1,f=>.neg (cz n f)
theorem qX (n:Nat)(f:Fm):(cz n f).bits=f.bits/\(cz n f).dep=f.dep+n/\(f.ok->(cz n f).ok):=by
 induction n with
 |zero=>exact⟨rfl,rfl,λh=>h⟩
 |succ n ih=>exact⟨ih.1,by show (cz n f).dep+1=_;rw[ih.2.1];lia,ih.2.2⟩
noncomputable def L9:Ev->SR:=a_ 2 (a4 (ae (gC (.str "not")) (ae (ag 2) ak)))
noncomputable def wm:Ev->SR:=az (kX (l7 (ae (aF cq (bF (ae (gC (.int 0)) (ae (gC (.int 0)) (ae (gC (.int 0)) (ae (gC (.int 1)) (ae (gC (.int 1)) (ae (gC (.int 2)) ak))))))) (nq 2 0 aS (ae (gC (.int 6)) ak))) ak)) (fh 5) L9) (a6 (ag 2))
theorem E7 {s:U}{b o3 o4:Option U}(F:Fm)(v:Nat):∃o5,fq (fh 5) L9 (b6 0 v) [some s,b,some F.u,o3,o4,none]=.nx [some s,b,some (cz v F).u,o3,o4,o5]:=by
 obtain⟨ρ',e,o,rfl⟩:=gT (sg:=fh 5) (s:=L9) (us:=b6 0 v) (λi ρ=>∃o:Option U,ρ=[some s,b,some (cz i F).u,o3,o4,o])
  (λi v ρ hv h00=>by
   obtain⟨o,hρ⟩:=h00;subst hρ;refine⟨_,_,rfl,.inl (by
    unfold L9;simp only[Pzz,bu,Nat.reduceAdd,Nat.reduceSub,Th,Tf];rfl),some v,rfl⟩) (ρ:=[some s,b,some F.u,o3,o4,none]) ⟨none,rfl⟩
 rw[fQ] at e;exact⟨o,e⟩
theorem IM {t:Int}(h0:0<=t)(h1:t<6):∃v:Nat,v<=2/\cq (.lst [.int 0,.int 0,.int 0,.int 1,.int 1,.int 2]) (.int t)=.ok (.int v):=by
 have:t=0\/t=1\/t=2\/t=3\/t=4\/t=5:=(by lia)
 rcases this with rfl|rfl|rfl|rfl|rfl|rfl
 ·exact⟨0,(by lia),rfl⟩
 ·exact⟨0,(by lia),rfl⟩
 ·exact⟨0,(by lia),rfl⟩
 ·exact⟨1,(by lia),rfl⟩
 ·exact⟨1,(by lia),rfl⟩
 ·exact⟨2,(by lia),rfl⟩
theorem yW {s:U}{b o3 o4:Option U}(F:Fm)(hs:xP s):∃(v:Nat) (s':U) (o5:Option U),wm [some s,b,some F.u,o3,o4,none]=.rt (cz v F).u [some s',b,some (cz v F).u,o3,o4,o5]/\v<=2/\xP s':=by
 obtain⟨t,s1,e1,t0,t1,hs1⟩:=iO (m:=6) hs (by decide) (by decide);obtain⟨v,hv,e2⟩:=IM t0 t1;obtain⟨o5,e3⟩:=E7 (s:=s1) (b:=b) (o3:=o3) (o4:=o4) F v;refine⟨v,s1,o5,?_,hv,hs1⟩;unfold wm;simp only[Pzz,bu,Nat.reduceAdd,Nat.reduceSub,e1,e2,ue v (by lia),e3]
theorem K8 (n:Nat):dR (n+1)=az (gH (gB (aF (mX id) (gb dD (ae (ag 1) ak)) (gC (.int 1)))) (a_ 2 (a4 (ae (gC (.str "bit")) (ae (aF cq (ag 1) (gC (.int 0))) ak)))) (az (a_ 3 (aF cF (gC (.int 1)) (nq 2 0 aS (ae (aF vp (gb dD (ae (ag 1) ak)) (gC (.int 1))) ak))))
 (az (a_ 4 (bF (ae (nq 2 0 (bQ n) (ae (qg oi (ag 1) dN (dE (ag 3))) ak)) (ae (nq 2 0 (bQ n) (ae (qg oi (ag 1) (dE (ag 3)) dN) ak)) ak))))
 (a_ 2 (a4 (ae (aF cq (bF (ae (gC (.str "all")) (ae (gC (.str "any")) (ae (gC (.str "one")) ak)))) (nq 2 0 aS (ae (gC (.int 3)) ak))) (ae (aF cq (ag 4) (gC (.int 0))) (ae (aF cq (ag 4) (gC (.int 1))) ak)))))))) wm:=rfl
theorem Dh {t:Int}(h0:0<=t)(h1:t<3):∃w:Str,Dg w/\cq (.lst [.str "all",.str "any",.str "one"]) (.int t)=.ok (.str w):=by
 have:t=0\/t=1\/t=2:=(by lia)
 rcases this with rfl|rfl|rfl
 ·exact⟨_,.inl rfl,rfl⟩
 ·exact⟨_,.inr (.inl rfl),rfl⟩
 ·exact⟨_,.inr (.inr rfl),rfl⟩
theorem lL:∀(k:Nat) (bs:List Int) (s:U),1<=bs.length->bs.length<=k->bs.length<=3->xP s->∃(F:Fm) (s':U),bQ k [s,.tup (bs.map .int)]=.ok (F.u,s')/\F.bits=bs/\F.ok/\F.dep<=3*bs.length/\xP s'
 |0,bs,s,h1,h2,_,_=>by lia
 |k+1,bs,s,h1,h2,h3,hs=>by
  by_cases c1:bs.length=1
  ·obtain⟨b,rfl⟩:=List.length_eq_one_iff.mp c1;obtain⟨v,s',o5,e,hv,hs'⟩:=yW (b:=some (.tup [.int b])) (o3:=none) (o4:=none) (.bit b) hs;have N:=qX v (.bit b);refine⟨cz v (.bit b),s',?_,N.1,N.2.2 True.intro,?_,hs'⟩
   ·have e:wm [some s,some (.tup [.int b]),some (.tup [.str "bit",.int b]),none,none,none]=.rt (cz v (.bit b)).u [some s',some (.tup [.int b]),some (cz v (.bit b)).u,none,none,o5]:=e;rw[bQ,K8];have b1:(((1:Nat):Int)==1)=true:=rfl;simp only[Pzz,bu,Nat.reduceAdd,Nat.reduceSub,Rb,Sh,QL,RW,a9,id,b1,e]
   ·rw[N.2.1];show 1+v<=3*1;lia
  ·obtain⟨t,s1,e1,t0,t1,hs1⟩:=iO (m:=(bs.length:Int)-1) hs (by lia) (by lia);obtain⟨c,hc⟩:∃c:Nat,1+t=c:=⟨(1+t).toNat,(by lia)⟩;have l1:(bs.take c).length=c:=by rw[R0];lia
   have l2:(bs.drop c).length=bs.length-c:=Sj;obtain⟨F,s2,e2,f1,f2,f3,cv⟩:=lL k (bs.take c) s1 (by lia) (by lia) (by lia) hs1;obtain⟨G,s3,e3,g1,g2,g3,hs3⟩:=lL k (bs.drop c) s2 (by lia) (by lia) (by lia) cv;obtain⟨q,s4,e4,q0,q1,hs4⟩:=iO (m:=3) hs3 (by decide) (by decide);obtain⟨w,hw,e5⟩:=Dh q0 q1;obtain⟨v,s',o5,e,hv,hs'⟩:=yW (b:=some (.tup (bs.map .int))) (o3:=some (.int c)) (o4:=some (.lst [F.u,G.u])) (.two w F G) hs4;have N:=qX v (.two w F G);refine⟨cz v (.two w F G),s',?_,?_,N.2.2 ⟨hw,f2,g2⟩,?_,hs'⟩
   ·have e:wm [some s4,some (.tup (bs.map .int)),some (.tup [.str w,F.u,G.u]),some (.int c),some (.lst [F.u,G.u]),none]=.rt (cz v (.two w F G)).u [some s',some (.tup (bs.map .int)),some (cz v (.two w F G)).u,some (.int c),some (.lst [F.u,G.u]),o5]:=e;rw[List.map_take] at e2;rw[List.map_drop] at e3;have b1:(((bs.length:Nat):Int)==1)=false:=beq_eq_false_iff_ne.mpr (by lia);rw[bQ,K8];simp only[Pzz,bu,Nat.reduceAdd,Nat.reduceSub,QI,a9,id,b1,e1,hc,wj,qV,e2,e3,e4,e5,e]
   ·rw[N.1];show F.bits++G.bits=bs;rw[f1,g1,List.take_append_drop]
   ·rw[N.2.1];show max F.dep G.dep+1+v<=3*bs.length;lia
theorem E8 {s:U}(hs:xP s):∃(F:Fm) (s':U) (n:Nat),cQ [s]=.ok (F.u,s')/\F.ok/\yV n F.bits/\1<=n/\n<=3/\F.dep<=9/\xP s':=by
 obtain⟨t,s1,e1,t0,t1,hs1⟩:=iO (m:=3) hs (by decide) (by decide);obtain⟨n,hn⟩:∃n:Nat,1+t=n:=⟨(1+t).toNat,(by lia)⟩;obtain⟨os,s2,e2,ho,cv⟩:=De (m:=n) hs1 (by lia);have l:os.length=n:=by have:=ho.length_eq;rwa [df] at this
 obtain⟨F,s3,e3,f1,f2,f3,hs3⟩:=lL 6 os s2 (by lia) (by lia) (by lia) cv;refine⟨F,s3,n,?_,f2,by rw[f1];exact ho,(by lia),(by lia),(by lia),hs3⟩;simp only[Pzz,bu,Nat.reduceAdd,Nat.reduceSub,cQ,ei,e1,hn,e2,e3]
theorem sX:(QM "bit"==QM "bit")=true/\(QM "not"==QM "bit")=false/\(QM "not"==QM "not")=true/\(QM "all"==QM "bit")=false/\(QM "all"==QM "not")=false/\(QM "all"==QM "all")=true/\(QM "any"==QM "bit")=false/\(QM "any"==QM "not")=false/\(QM "any"==QM "all")=false/\(QM "any"==QM "any")=true/\(QM "one"==QM "bit")=false/\(QM "one"==QM "not")=false/\(QM "one"==QM "all")=false/\(QM "one"==QM "any")=false/\(QM "one"==QM "one")=true/\(QM "all"==QM "one")=false/\(QM "any"==QM "one")=false:=by decide
noncomputable def Od (w:Str)(a b:Int):Int:=if w="all" then min a b else if w="any" then max a b else (a+b) % 2
noncomputable def Fm.wo (rs:List Int):Fm->Int
 | .bit n=>rs.getD n.toNat 0
 | .neg f=>1-f.wo rs
 | .two w f g=>Od w (f.wo rs) (g.wo rs)
theorem qY {rs:List Int}(h:∀r∈rs,r=0\/r=1):∀F:Fm,(∀n∈F.bits,0<=n/\n<rs.length)->F.wo rs=0\/F.wo rs=1
 | .bit n,hb=>by
  have:=hb n (by unfold Fm.bits;exact Rq.mpr rfl);have hl:n.toNat<rs.length:=(by lia)
  unfold Fm.wo;rw[RB,Qy hl];exact h _ (List.getElem_mem hl)
 | .neg f,hb=>by
  have:=qY h f hb;unfold Fm.wo;lia
 | .two w f g,hb=>by
  have h1:=qY h f (λn hn=>hb n (Rc _ hn));have h2:=qY h g (λn hn=>hb n (QQ _ hn));unfold Fm.wo Od;split
  ·lia
  ·split
   ·lia
   ·lia
theorem uE (n:Nat):bE .S 3 (dO n)=cN n:=rfl
theorem qZ (n:Nat):bE .S 3 (cH n)=cI n:=rfl
theorem Di {rs:List Int}{n:Int}(h0:0<=n)(h1:n<rs.length):jI (rs.map U.int) n=some (.int (rs.getD n.toNat 0)):=by
 obtain⟨m,rfl⟩:∃m:Nat,n=m:=⟨n.toNat,(by lia)⟩;have hm:m<rs.length:=(by lia)
 rw[sO,QV,Qy hm,Sf,RB,Qy hm];rfl
theorem mQ {rs:List Int}(h:∀r∈rs,r=0\/r=1):∀(F:Fm) (k:Nat),F.ok->F.dep<=k->(∀n∈F.bits,0<=n/\n<rs.length)->cI k [F.u,.tup (rs.map .int)]=.ok (.int (F.wo rs))
 | .bit n,0,_,hd,_=>by unfold Fm.dep at hd;lia
 | .neg f,0,_,hd,_=>by unfold Fm.dep at hd;lia
 | .two w f g,0,_,hd,_=>by unfold Fm.dep at hd;lia
 | .bit n,k+1,_,hd,hb=>by
  have hn:=hb n (by unfold Fm.bits;exact Rq.mpr rfl);have e:=Di hn.1 hn.2;rw[cI,cH,qZ];unfold Fm.u Fm.wo;simp only[Pzz,bu,Nat.reduceAdd,Nat.reduceSub,sX,id,e]
 | .neg f,k+1,ho,hd,hb=>by
  have e:=mQ h f k ho (by unfold Fm.dep at hd;lia) hb;rw[cI,cH,qZ];unfold Fm.u Fm.wo;simp only[Pzz,bu,Nat.reduceAdd,Nat.reduceSub,sX,id,e]
 | .two w f g,k+1,ho,hd,hb=>by
  have h1:=qY h f (λn hn=>hb n (Rc _ hn));have h2:=qY h g (λn hn=>hb n (QQ _ hn));have e1:=mQ h f k ho.2.1 (by unfold Fm.dep at hd;lia) (λn hn=>hb n (Rc _ hn));have e2:=mQ h g k ho.2.2 (by unfold Fm.dep at hd;lia) (λn hn=>hb n (QQ _ hn));rw[cI,cH,qZ];unfold Fm.u Fm.wo;rcases ho.1 with rfl|rfl|rfl<;>simp only[Pzz,bu,Nat.reduceAdd,Nat.reduceSub,sX,id,e1,e2]<;>rcases h1 with h1|h1<;>rcases h2 with h2|h2<;>rw[h1,h2]<;>kernel_rfl
theorem Dj {a b:U}:gu [a,b] (some 1) none=[b]:=nr rfl
theorem q_ {a b c:U}:gu [a,b,c] (some 1) none=[b,c]:=nr rfl
theorem E9 {f:U->R (Option U)}{u y:U}(h:f u=.ok (some y)):md f [u]=.ok [y]:=by unfold md;rw[h];rfl
theorem Aw {f:U->R (Option U)}{u v y z:U}(h1:f u=.ok (some y))(h2:f v=.ok (some z)):md f [u,v]=.ok [y,z]:=by
 unfold md;rw[h1];show (md f [v]).bind _=_;rw[E9 h2];rfl
theorem xQ {a u r:U}{x:Int}(e:cN k [u,r]=.ok (.int x)):zO [none,some 1] (fh 0) jU (dz 2 (cN k) (ae (ag 0) (ae (ag 1) ak))) [some a,some r,none] u=.ok (some (.int x)):=by
 simp only[Pzz,bu,Nat.reduceAdd,Nat.reduceSub,e]
theorem pM {rs:List Int}(h:∀r∈rs,r=0\/r=1):∀(F:Fm) (k:Nat),F.ok->F.dep<=k->(∀n∈F.bits,0<=n/\n<rs.length)->cN k [F.u,.tup (rs.map .int)]=.ok (.int (F.wo rs))
 | .bit n,0,_,hd,_=>by unfold Fm.dep at hd;lia
 | .neg f,0,_,hd,_=>by unfold Fm.dep at hd;lia
 | .two w f g,0,_,hd,_=>by unfold Fm.dep at hd;lia
 | .bit n,k+1,_,hd,hb=>by
  have hn:=hb n (by unfold Fm.bits;exact Rq.mpr rfl);have e:=Di hn.1 hn.2;rw[cN,dO,uE];unfold Fm.u Fm.wo;simp only[Pzz,bu,Nat.reduceAdd,Nat.reduceSub,sX,id,e]
 | .neg f,k+1,ho,hd,hb=>by
  have e:=pM h f k ho (by unfold Fm.dep at hd;lia) hb;rw[cN,dO,uE];unfold Fm.u Fm.wo;simp only[Pzz,bu,Nat.reduceAdd,Nat.reduceSub,sX,id,Dj,E9 (xQ e)]
 | .two w f g,k+1,ho,hd,hb=>by
  have h1:=qY h f (λn hn=>hb n (Rc _ hn));have h2:=qY h g (λn hn=>hb n (QQ _ hn));have e1:=pM h f k ho.2.1 (by unfold Fm.dep at hd;lia) (λn hn=>hb n (Rc _ hn));have e2:=pM h g k ho.2.2 (by unfold Fm.dep at hd;lia) (λn hn=>hb n (QQ _ hn));rw[cN,dO,uE];unfold Fm.u Fm.wo;rcases ho.1 with rfl|rfl|rfl<;>simp only[Pzz,bu,Nat.reduceAdd,Nat.reduceSub,sX,id,q_,Aw (xQ e1) (xQ e2)]<;>rcases h1 with h1|h1<;>rcases h2 with h2|h2<;>rw[h1,h2]<;>kernel_rfl
noncomputable def iI (p:Int×Int):U:=.tup [.int p.1,.int p.2]
noncomputable def Fm.st:Fm->Bool->List U
 | .bit n,a=>[if a then iI (2*n+1,2*n) else iI (2*n,2*n+1)]
 | .neg f,a=>f.st (!a)
 | .two w f g,a=>if w="one" then f.st a++g.st false++[.str "one"] else f.st a++g.st a++[.str (if ((w=="all") != a)=true then "all" else "any")]
theorem ip:∀(F:Fm) (a:Bool),(F.st a).length+1=2*F.bits.length
 | .bit n,a=>rfl
 | .neg f,a=>ip f (!a)
 | .two w f g,a=>by
  have h1:=ip f a;have h2:=ip g a;have h3:=ip g false;unfold Fm.st Fm.bits;rw[QE];split
  ·simp only[QE,QL,RW];lia
  ·simp only[QE,QL,RW];lia
theorem ra (n:Nat):bE .S 4 (dP n)=dQ n:=rfl
theorem NB:not (true==false)=true/\not (true==true)=false/\not (false==true)=true/\not (false==false)=false:=by decide
theorem rb {n:Int}(h0:0<=n)(h1:n<=3):gU [.int n]=.ok (iI (2*n,2*n+1)):=by
 have:n=0\/n=1\/n=2\/n=3:=(by lia)
 rcases this with rfl|rfl|rfl|rfl<;>kernel_rfl
theorem sY {p:Int×Int}:dk [iI p]=.ok (iI (p.2,p.1)):=by
 unfold iI;simp only[Pzz,bu,Nat.reduceAdd,Nat.reduceSub,dk,qL]
theorem kj:∀(F:Fm) (a:Bool) (k:Nat),F.ok->F.dep<=k->F.bits.length<=1000->(∀n∈F.bits,0<=n/\n<=3)->dQ k [F.u,.bl a]=.ok (.lst (F.st a))
 | .bit n,_,0,_,hd,_,_=>by unfold Fm.dep at hd;lia
 | .neg f,_,0,_,hd,_,_=>by unfold Fm.dep at hd;lia
 | .two w f g,_,0,_,hd,_,_=>by unfold Fm.dep at hd;lia
 | .bit n,a,k+1,_,hd,_,hb=>by
  have hn:=hb n (by unfold Fm.bits;exact Rq.mpr rfl);have e:=rb hn.1 hn.2;rw[dQ,dP,ra];unfold Fm.u Fm.st;cases a<;>simp only[Pzz,bu,Nat.reduceAdd,Nat.reduceSub,sX,id,e,sY]
 | .neg f,a,k+1,ho,hd,hl,hb=>by
  have e:=kj f (!a) k ho (by unfold Fm.dep at hd;lia) hl hb;rw[dQ,dP,ra];unfold Fm.u Fm.st;simp only[Pzz,bu,Nat.reduceAdd,Nat.reduceSub,sX,id,e]
 | .two w f g,a,k+1,ho,hd,hl,hb=>by
  have hl:(f.bits++g.bits).length<=1000:=hl;rw[QE] at hl;have e1:=kj f a k ho.2.1 (by unfold Fm.dep at hd;lia) (by lia) (λn hn=>hb n (Rc _ hn));have e2:=kj g a k ho.2.2 (by unfold Fm.dep at hd;lia) (by lia) (λn hn=>hb n (QQ _ hn));have e3:=kj g false k ho.2.2 (by unfold Fm.dep at hd;lia) (by lia) (λn hn=>hb n (QQ _ hn));have l1:=ip f a;have l2:=ip g a;have l3:=ip g false;rw[dQ,dP,ra];unfold Fm.u Fm.st;have S:QC=16777216:=rfl;have z1:(f.st a).length+(g.st a).length<=QC:=(by lia)
  have z2:(f.st a++g.st a).length+1<=QC:=by rw[QE];lia
  have z3:(f.st a).length+(g.st false).length<=QC:=(by lia)
  have z4:(f.st a++g.st false).length+1<=QC:=by rw[QE];lia
  rcases ho.1 with rfl|rfl|rfl
  ·rw[hU (by decide)];cases a<;>simp only[Pzz,bu,Nat.reduceAdd,Nat.reduceSub,sX,id,e1,e2,NB,z1,z2]<;>rfl
  ·rw[hU (by decide)];cases a<;>simp only[Pzz,bu,Nat.reduceAdd,Nat.reduceSub,sX,id,e1,e2,NB,z1,z2]<;>rfl
  ·rw[hV rfl];simp only[Pzz,bu,Nat.reduceAdd,Nat.reduceSub,sX,id,e1,e3,z3,z4]
noncomputable def PT (p:List Int):U:=.tup (p.map .int)
noncomputable def PU (ps:List (List Int)):U:=.tup (ps.map PT)
noncomputable def IP (q:List (Int×Int))(x:Int):Int:=q.foldl (λv z=>if z.1=x then z.2 else v) x
noncomputable def wq (q:List (Int×Int))(x v:Int):Int:=q.foldl (λv z=>if z.1=x then z.2 else v) v
noncomputable def JG (ps:List (List Int))(src:List Int):List (Int×Int):=(ps.zip src).flatMap λz=>z.1.zip (ps.getD z.2.toNat [])
noncomputable def mv (m:Nat)(q:List (Int×Int)):List Int:=(bw m).map (IP q)
noncomputable def cA (o:List Int)(q:List (Int×Int)):List Int:=q.foldl (λo z=>o.set z.1.toNat z.2) o
theorem jB:∀(q:List (Int×Int)) (o:List Int),(cA o q).length=o.length
 | [],_=>rfl
 |z::q,o=>by
  show (cA (o.set z.1.toNat z.2) q).length=_;rw[jB q,RJ]
theorem rf:∀(q:List (Int×Int)) (o:List Int) (i:Nat) (v:Int),(∀z∈q,0<=z.1)->o[i]? = some v->(cA o q)[i]? = some (wq q i v)
 | [],_,_,_,_,h=>h
 |z::q,o,i,v,hz,h=>by
  have hi:i<o.length:=(QH.mp h).1;have h0:=hz z QZ;show (cA (o.set z.1.toNat z.2) q)[i]? = some (wq q i (if z.1=i then z.2 else v));refine rf q _ i _ (λy hy=>hz y (QW _ hy)) ?_;by_cases c:z.1=i
  ·rw[hV c,c];show (o.set ((i:Int).toNat) z.2)[i]? = some z.2;rw[Sf,RY hi]
  ·rw[hU c,QY (by lia)];exact h
theorem rg (h:i<m):(bw m)[i]? = some (i:Int):=by
 unfold bw;rw[QV,List.getElem?_range h];rfl
theorem Ax (m:Nat)(q:List (Int×Int))(h:∀z∈q,0<=z.1):cA (bw m) q=mv m q:=by
 apply List.ext_getElem?;intro i;by_cases c:i<m
 ·rw[rf q (bw m) i i h (rg c)];unfold mv;rw[QV,rg c];rfl
 ·rw[Sa.mpr (by rw[jB,df];lia),Sa.mpr (by unfold mv;rw[QI,df];lia)]
theorem rj (o:List Int)(q r:List (Int×Int)):cA o (q++r)=cA (cA o q) r:=by
 unfold cA;rw[List.foldl_append]
theorem Oe {a b:U}:oh 2 (fo (fh i) (fo (fh j) og)) (.tup [a,b]) ρ=.ok ((ρ.set i (some a)).set j (some b)):=nr rfl
noncomputable def K9 (us:List U)(ρ:Ev):R (List U×Ev):=match us with
 | [u,w]=>match Aa u,Aa w with
  |some us,some ws=>.ok (SH (λa b=>.tup [a,b]) us ws,ρ)
  |_,_=>.stk
 |_=>.stk
theorem GK {ga:Ev->R (List U×Ev)}:Ab ga ρ=(ga ρ).bind λx=>K9 x.1 x.2:=nr rfl
theorem yX:K9 [.tup us,.tup ws] ρ=.ok (SH (λa b=>.tup [a,b]) us ws,ρ):=nr rfl
theorem IQ {p q:List Int}{u:U}(h:(SH (λa b=>U.tup [a,b]) (p.map U.int) (q.map U.int))[j]? = some u):∃x y,p[j]? = some x/\q[j]? = some y/\u=.tup [.int x,.int y]:=by
 rw[R5,QV,QV] at h;cases e1:p[j]? with
 |none=>rw[e1] at h;cases h
 |some x=>
  cases e2:q[j]? with
  |none=>rw[e1,e2] at h;cases h
  |some y=>
   rw[e1,e2] at h;exact⟨x,y,rfl,rfl,(Q0 h).symm⟩
theorem se {p q:List Int}{x y:Int}(h1:p[j]? = some x)(h2:q[j]? = some y):(p.zip q).take (j+1)=(p.zip q).take j++[(x,y)]:=by
 have e:(p.zip q)[j]? = some (x,y):=by
  rw[List.zip,R5,h1,h2]
 rw[List.take_succ,e];rfl
theorem K_ {w:U}{x:Int}(h0:0<=x)(h1:x<us.length):KS i w (.int x) ρ (some (some (.lst us)))=.nx (ρ.set i (some (.lst (us.set x.toNat w)))):=by
 refine F_ ?_;unfold tG;rw[hV h0,hV h1]
theorem E_ {ps:List (List Int)}{src:List Int}{z:Int×Int}(h:z∈JG ps src):∃p∈ps,z.1∈p:=by
 unfold JG at h;obtain⟨⟨p,s⟩,h1,h2⟩:=List.mem_flatMap.mp h;exact⟨p,(SA h1).1,(SA h2).1⟩
theorem mR {ps:List (List Int)}{src:List Int}(hm:m<=1000)(LL:∀p∈ps,∀x∈p,0<=x/\x<m)(NM:∀s∈src,0<=s/\s<ps.length) :
  cG [.int m,PU ps,.tup (src.map .int)]=.ok (.tup ((mv m (JG ps src)).map .int)):=by
 let T:=λn=>((ps.zip src).take n).flatMap λz=>z.1.zip (ps.getD z.2.toNat [])
 obtain⟨ρ',e1,a,b,c,d,rfl⟩:=gT (us:=SH (λa b=>U.tup [a,b]) (ps.map PT) (src.map U.int)) (sg:=oh 2 (fo (fh 4) (fo (fh 5) og)))
  (s:=kX (Ab (ae (ag 4) (ae (aF cq (ag 1) (ag 5)) ak))) (oh 2 (fo (fh 6) (fo (fh 7) og))) (qp 3 (ag 7) (ag 6)))
  (λn ρ=>∃a b c d:Option U,ρ=[some (.int m),some (PU ps),some (.tup (src.map .int)),some (.lst ((cA (bw m) (T n)).map .int)),a,b,c,d])
  (λi u ρ hu h00=>by
   obtain⟨a,b,c,d,hr⟩:=h00;subst hr;have hz:∃p s,ps[i]? = some p/\src[i]? = some s/\u=.tup [PT p,.int s]:=by
    rw[R5,QV,QV] at hu;cases e1:ps[i]? with
    |none=>rw[e1] at hu;cases hu
    |some x=>
     cases e2:src[i]? with
     |none=>rw[e1,e2] at hu;cases hu
     |some y=>
      rw[e1,e2] at hu;exact⟨x,y,rfl,rfl,(Q0 hu).symm⟩
   obtain⟨p,s,hp,hs,rfl⟩:=hz;have Qj:=Rf hp;have Qx:=NM s (Rf hs);obtain⟨k,rfl⟩:∃k:Nat,s=k:=⟨s.toNat,(by lia)⟩;have hk:k<ps.length:=(by lia)
   have ek:jI (ps.map PT) (k:Int)=some (PT ps[k]):=by
    rw[sO,QV,Qy hk];rfl
   have gd:ps.getD k []=ps[k]:=by rw[RB,Qy hk];rfl
   have t1:T (i+1)=T i++p.zip ps[k]:=by
    show ((ps.zip src).take (i+1)).flatMap _=_;have e:(ps.zip src)[i]? = some (p,(k:Int)):=by rw[List.zip,R5,hp,hs]
    rw[List.take_succ,e,List.flatMap_append];show _++(p.zip (ps.getD ((k:Int).toNat) [])++[])=_;rw[Sf,gd,Q1]
   obtain⟨ρ2,e2,c',d',rfl⟩:=gT (us:=SH (λa b=>U.tup [a,b]) (p.map U.int) (ps[k].map U.int)) (sg:=oh 2 (fo (fh 6) (fo (fh 7) og))) (s:=qp 3 (ag 7) (ag 6))
    (λj ρ=>∃c d:Option U,ρ=[some (.int m),some (PU ps),some (.tup (src.map .int)),some (.lst ((cA (cA (bw m) (T i)) ((p.zip ps[k]).take j)).map .int)),some (PT p),some (.int k),c,d])
    (λj u ρ hu h00=>by
     obtain⟨c,d,hr⟩:=h00;subst hr;obtain⟨x,y,hx,hy,rfl⟩:=IQ hu;have bx:=LL p Qj x (Rf hx);refine⟨_,[some (.int m),some (PU ps),some (.tup (src.map .int)),some (.lst ((cA (cA (bw m) (T i)) ((p.zip ps[k]).take (j+1))).map .int)),some (PT p),some (.int k),some (.int x),some (.int y)],Oe,.inl ?_,_,_,rfl⟩;have ln:x<(((cA (cA (bw m) (T i)) ((p.zip ps[k]).take j)).map U.int).length:Nat):=by rw[QI,jB,jB,df];lia
     simp only[Pzz,bu,Nat.reduceAdd,Nat.reduceSub,K_ bx.1 ln];rw[se hx hy,rj];have es:((cA (cA (bw m) (T i)) ((p.zip ps[k]).take j)).map U.int).set x.toNat (.int y)=(cA (cA (cA (bw m) (T i)) ((p.zip ps[k]).take j)) [(x,y)]).map U.int:=by
      rw[←List.map_set];rfl
     rw[es])
    (ρ:=[some (.int m),some (PU ps),some (.tup (src.map .int)),some (.lst ((cA (bw m) (T i)).map .int)),some (PT p),some (.int k),c,d]) ⟨c,d,rfl⟩
   refine⟨_,_,Oe,.inl ?_,some (PT p),some (.int k),c',d',rfl⟩;have ko:(p.zip ps[k]).take (SH (λa b=>U.tup [a,b]) (p.map U.int) (ps[k].map U.int)).length=p.zip ps[k]:=by
    refine So ?_;rw[S7,QI,QI,List.length_zip];exact QJ _
   rw[ko,←rj,←t1] at e2;simp only[Pzz,bu,Nat.reduceAdd,Nat.reduceSub,PU,ek,GK,PT,yX];simp only[PU,PT] at e2;exact e2)
  (ρ:=[some (.int m),some (PU ps),some (.tup (src.map .int)),some (.lst ((bw m).map .int)),none,none,none,none]) ⟨_,_,_,_,rfl⟩
 have hT:T (SH (λa b=>U.tup [a,b]) (ps.map PT) (src.map U.int)).length=JG ps src:=by
  show ((ps.zip src).take _).flatMap _=_;rw[So (by rw[S7,QI,QI,List.length_zip];exact QJ _)];rfl
 rw[hT,Ax] at e1
 ·simp only[PU] at e1;simp only[Pzz,bu,Nat.reduceAdd,Nat.reduceSub,cG,ka,PU,mw m (by lia),j8,GK,yX,e1]
 ·intro z hz;obtain⟨p,hp,hx⟩:=E_ hz;exact (LL p hp _ hx).1
theorem M_:fu 6 [.lst [.int 0,.int 1]]=.ok (.lst [.tup [.int 0,.int 1],.tup [.int 1,.int 0]]):=by kernel_rfl
theorem Na:yK [.int ((2:Nat):Int)] ρ=.ok (.lst [.int 0,.int 1],ρ):=mw 2 (by lia)
theorem IS {p q:List Int}(hm:m<=1000)(hp:∀x∈p,0<=x/\x<m)(hq:∀x∈q,0<=x/\x<m):∃z,ic [.int m,PU [p,q]]=.ok z:=by
 have LL:∀y∈[p,q],∀x∈y,0<=x/\x<m:=λy hy=>by
  rcases QN.mp hy with rfl|hy
  ·exact hp
  ·rw[Rq.mp hy];exact hq
 have e1:=mR (m:=m) (ps:=[p,q]) (src:=[0,1]) hm LL (λs hs=>by simp at hs;rcases hs with rfl|rfl<;>simp);have e2:=mR (m:=m) (ps:=[p,q]) (src:=[1,0]) hm LL (λs hs=>by simp at hs;rcases hs with rfl|rfl<;>simp);have e1:cG [.int m,PU [p,q],.tup [.int 0,.int 1]]=_:=e1;have e2:cG [.int m,PU [p,q],.tup [.int 1,.int 0]]=_:=e2;have l1:∀{u z:U},cG [.int m,PU [p,q],u]=.ok z->zO [none,some 0,some 1] (fh 0) jU (dz 3 cG (ae (ag 1) (ae (ag 2) (ae (ag 0) ak)))) [some (.int m),some (PU [p,q])] u=.ok (some z):=λe=>by
  simp only[Pzz,bu,Nat.reduceAdd,Nat.reduceSub,e]
 have l2:=Aw (l1 e1) (l1 e2);have pu:PU [p,q]=.tup [PT p,PT q]:=rfl;rw[pu] at l2 ⊢;have g:decide ((4:Int)<((2:Nat):Int))=false:=by decide
 refine⟨.tup [.tup ((mv m (JG [p,q] [0,1])).map .int),.tup ((mv m (JG [p,q] [1,0])).map .int)],?_⟩;simp only[Pzz,bu,Nat.reduceAdd,Nat.reduceSub,ic,lG,g,Na,M_,l2]
theorem Fb {x:Int}{p q:List Int}{a b:U}(hm:m<=1000)(hp:∀y∈x::p,0<=y/\y<m)(hq:∀x∈q,0<=x/\x<m):∃z,cu [.int m,PU [x::p,q],.lst [a,b]]=.ok z:=by
 obtain⟨z,e⟩:=IS hm hp hq;have pu:PU [x::p,q]=.tup [.tup (.int x::p.map .int),.tup (q.map .int)]:=rfl;rw[pu] at e ⊢;refine⟨.tup [.str "mix",z,.tup [.str "look",.tup [.int x],.tup [.tup [.tup [.int 0],a],.tup [.tup [.int 1],b]]]],?_⟩;simp only[Pzz,bu,Nat.reduceAdd,Nat.reduceSub,cu,fT,e]
noncomputable def jC (w:Str)(o t f:Int×Int):List Int×List Int:=if w="one" then ([o.1,t.1],[o.2,t.2]) else if w="all" then ([o.1,f.1,f.2],[o.2,t.1,t.2]) else ([o.1,t.1,t.2],[o.2,f.2,f.1])
theorem Dk {w:Str}{o f:Int×Int}(hw:Dg w):ie [.str w,iI o,iI t,iI f]=.ok (PU [(jC w o t f).1,(jC w o t f).2]):=by
 rcases hw with rfl|rfl|rfl<;>kernel_rfl
theorem Ay {w:Str}{o f:Int×Int}(hw:Dg w)(j:Int)(hj:j=0\/j=1):∃p:Int×Int,eH [.str w,PU [(jC w o t f).1,(jC w o t f).2],iI t,.int j]=.ok (iI p)/\(p=t\/p=(t.2,t.1)\/p=f\/p=(f.2,f.1)):=by
 rcases hj with rfl|rfl
 ·rcases hw with rfl|rfl|rfl
  ·exact⟨f,by kernel_rfl,.inr (.inr (.inl rfl))⟩
  ·exact⟨t,by kernel_rfl,.inl rfl⟩
  ·exact⟨t,by kernel_rfl,.inl rfl⟩
 ·rcases hw with rfl|rfl|rfl
  ·exact⟨t,by kernel_rfl,.inl rfl⟩
  ·exact⟨(f.2,f.1),by kernel_rfl,.inr (.inr (.inr rfl))⟩
  ·exact⟨(t.2,t.1),by kernel_rfl,.inr (.inl rfl)⟩
def Pr (m:Nat)(p:Int×Int):Prop:=(0<=p.1/\p.1<m)/\0<=p.2/\p.2<m
def D5 (m k:Nat)(rest:List U)(pairs:List (Int×Int)):Prop:=∀f,Pr m f->∃z,bg k [.int m,.lst rest,.lst (pairs.map iI),iI f]=.ok z
theorem GL (n:Nat):bE .S 12 (c0 n)=bg n:=rfl
theorem Dl {p:Int×Int}:iL "tuple" (iI p) ρ=.ok (.bl true,ρ):=by unfold iI;exact nr rfl
theorem IT {p:Int×Int}{ps:List (Int×Int)}:D5 m (k+1) [] (p::ps):=λf _=>by
 refine⟨.tup [.str "end",iI p],?_⟩;have b:(((0:Nat):Int)==0)=true:=rfl;rw[bg,c0,GL];simp only[Pzz,bu,Nat.reduceAdd,Nat.reduceSub,id,b]
theorem rl {a:U}:gu (a::us) (some 1) none=us:=qV (a::us) 1
theorem Dm {p:Int×Int}{rest:List U}{ps:List (Int×Int)}(hl:ps.length<=1000)(h:D5 m k rest (ps++[p])):D5 m (k+1) (iI p::rest) ps:=λf hf=>by
 obtain⟨z,e⟩:=h f hf;refine⟨z,?_⟩;have S:QC=16777216:=rfl;rw[RX] at e;have e:bg k [.int m,.lst rest,.lst (ps.map iI++[iI p]),iI f]=.ok z:=e;have b:(((rest.length+1:Nat):Int)==0)=false:=beq_eq_false_iff_ne.mpr (by lia);have z1:(ps.map iI).length+1<=QC:=by rw[QI];lia
 rw[bg,c0,GL];simp only[Pzz,bu,Nat.reduceAdd,Nat.reduceSub,id,b,rl,Dl,z1,e]
theorem Dn {a b:U}:gu (us++[a,b]) none (some (-2))=us:=by
 have l:(us++[a,b]).length=us.length+2:=by simp
 have e:HT.sIx (us++[a,b]).length (us++[a,b]).length (some (-2))=us.length:=by
  rw[l];unfold HT.sIx;dsimp only;rw[hV (by decide)];lia
 unfold gu;rw[HT.sIx_none,e,Sn,Nat.sub_zero,List.take_left]
theorem La {a b:U}:jI (us++[a,b]) (-2)=some a:=by
 have l:(us++[a,b]).length=us.length+2:=by simp
 have e:tG (us++[a,b]).length (-2)=some us.length:=by
  unfold tG;rw[l,hU (by decide),hV (by lia)];congr 1;lia
 unfold jI;rw[e];show (us++[a,b])[us.length]? = _;rw[RA (QJ _),Nat.sub_self];rfl
theorem Lb {a b:U}:jI (us++[a,b]) (-1)=some b:=by
 have l:(us++[a,b]).length=us.length+2:=by simp
 have e:tG (us++[a,b]).length (-1)=some (us.length+1):=by
  unfold tG;rw[l,hU (by decide),hV (by lia)];congr 1;lia
 unfold jI;rw[e];show (us++[a,b])[us.length+1]? = _;rw[RA (by lia),Nat.add_sub_cancel_left];rfl
noncomputable def L_ (k:Nat):Ev->SR:=(az (a_ 10 (dz 4 eH (ae (ag 4) (ae (ag 7) (ae (ag 6) (ae (ag 9) ak))))))
 (az (a_ 11 (FG (gB (aF (eF id) (ag 9) (gC (.int 1)))) (dz 1 dk (ae (ag 5) ak)) (ag 5)))
 (k8 (gM "list" 8 kK (ae (dz 4 (bg k) (ae (ag 0) (ae (qg oi (ag 1) (dE (gC (.int 1))) dN) (ae (aF cF (qg oi (ag 2) dN (dE (xh nE (gC (.int 2))))) (bF (ae (ag 10) ak))) (ae (ag 11) ak))))) ak)))))
theorem Nb (k:Nat):c0 (k+1)=(az (gH (gB (aF (eF id) (gb dD (ae (ag 1) ak)) (gC (.int 0)))) (a6 (a4 (ae (gC (.str "end")) (ae (aF cq (ag 2) (gC (.int 0))) ak)))) bf)
 (az (a_ 4 (aF cq (ag 1) (gC (.int 0))))
 (az (gH (gB (gw "tuple" (ag 4))) (a6 (dz 4 (bg k) (ae (ag 0) (ae (qg oi (ag 1) (dE (gC (.int 1))) dN) (ae (aF cF (ag 2) (bF (ae (ag 4) ak))) (ae (ag 3) ak)))))) bf)
 (az (a_ 5 (aF cq (ag 2) (xh nE (gC (.int 2)))))
 (az (a_ 6 (aF cq (ag 2) (xh nE (gC (.int 1)))))
 (az (a_ 7 (dz 4 ie (ae (ag 4) (ae (ag 5) (ae (ag 6) (ae (ag 3) ak))))))
 (az (a_ 8 (bF ak))
 (az (kX (gO (a4 (ae (gC (.int 0)) (ae (gC (.int 1)) ak)))) (fh 9) (L_ k))
 (xu 8 (a6 (dz 3 cu (ae (ag 0) (ae (ag 7) (ae (ag 8) ak)))))))))))))):=rfl
noncomputable abbrev eG (m:Nat)(w:Str)(rest:List U)(ps:List (Int×Int))(o t f:Int×Int)(dn:List U)(a b c:Option U):Ev:=[some (.int m),some (.lst (.str w::rest)),some (.lst (ps.map iI++[iI o,iI t])),some (iI f),some (.str w),some (iI o),some (iI t),some (PU [(jC w o t f).1,(jC w o t f).2]),some (.lst dn),a,b,c]
theorem xR {z:U}:kK (.lst us) [z]=if us.length<QC then .ok (.non,.lst (us++[z])) else .stk:=nr rfl
theorem yY {w:Str}{rest:List U}{ps:List (Int×Int)}{o f:Int×Int}{dn:List U}{b c:Option U}(hw:Dg w)(hl:ps.length<=1000)(hd:dn.length<=5)(ho:Pr m o)(ht:Pr m t)(hf:Pr m f)(h:∀p,Pr m p->D5 m k rest (ps++[p]))(j:Int)(hj:j=0\/j=1) :
  ∃z b' c',L_ k (eG m w rest ps o t f dn (some (.int j)) b c)=.nx (eG m w rest ps o t f (dn++[z]) (some (.int j)) b' c'):=by
 obtain⟨p,e1,hp⟩:=Ay (o:=o) (t:=t) (f:=f) hw j hj;have OF:Pr m p:=by
  rcases hp with rfl|rfl|rfl|rfl
  ·exact ht
  ·exact⟨ht.2,ht.1⟩
  ·exact hf
  ·exact⟨hf.2,hf.1⟩
 have S:QC=16777216:=rfl;have z1:(ps.map iI).length+1<=QC:=by rw[QI];lia
 have z2:dn.length<QC:=(by lia)
 rcases hj with rfl|rfl
 ·obtain⟨z,e2⟩:=h p OF o ho;rw[RX] at e2;have e2:bg k [.int m,.lst rest,.lst (ps.map iI++[iI p]),iI o]=.ok z:=e2;refine⟨z,some (iI p),some (iI o),?_⟩;have b0:((0:Int)==1)=false:=rfl;unfold L_;simp only[Pzz,bu,Nat.reduceAdd,Nat.reduceSub,id,e1,b0,rl,Dn,z1,e2,xR,z2]
 ·obtain⟨z,e2⟩:=h p OF (o.2,o.1) ⟨ho.2,ho.1⟩;rw[RX] at e2;have e2:bg k [.int m,.lst rest,.lst (ps.map iI++[iI p]),iI (o.2,o.1)]=.ok z:=e2;refine⟨z,some (iI p),some (iI (o.2,o.1)),?_⟩;have b0:((1:Int)==1)=true:=rfl;unfold L_;simp only[Pzz,bu,Nat.reduceAdd,Nat.reduceSub,id,e1,b0,sY,rl,Dn,z1,e2,xR,z2]
theorem IU {w:Str}{o f:Int×Int}(hw:Dg w)(ho:Pr m o)(ht:Pr m t)(hf:Pr m f):∃x p,(jC w o t f).1=x::p/\(∀y∈(jC w o t f).1,0<=y/\y<(m:Int))/\∀y∈(jC w o t f).2,0<=y/\y<(m:Int):=by
 obtain⟨⟨o1,o2⟩,o3,o4⟩:=ho;obtain⟨⟨t1,t2⟩,t3,t4⟩:=ht;obtain⟨⟨f1,f2⟩,f3,f4⟩:=hf;rcases hw with rfl|rfl|rfl
 ·refine⟨o.1,[f.1,f.2],rfl,λy hy=>?_,λy hy=>?_⟩
  ·have hy:y∈[o.1,f.1,f.2]:=hy;simp only[QN,Rm,or_false] at hy;lia
  ·have hy:y∈[o.2,t.1,t.2]:=hy;simp only[QN,Rm,or_false] at hy;lia
 ·refine⟨o.1,[t.1,t.2],rfl,λy hy=>?_,λy hy=>?_⟩
  ·have hy:y∈[o.1,t.1,t.2]:=hy;simp only[QN,Rm,or_false] at hy;lia
  ·have hy:y∈[o.2,f.2,f.1]:=hy;simp only[QN,Rm,or_false] at hy;lia
 ·refine⟨o.1,[t.1],rfl,λy hy=>?_,λy hy=>?_⟩
  ·have hy:y∈[o.1,t.1]:=hy;simp only[QN,Rm,or_false] at hy;lia
  ·have hy:y∈[o.2,t.2]:=hy;simp only[QN,Rm,or_false] at hy;lia
theorem Fc {s:Ev->SR}{ρ2:Ev}{u v:U}(h1:s (ρ.set i (some u))=.nx ρ1)(h2:s (ρ1.set i (some v))=.nx ρ2):fq (fh i) s [u,v] ρ=.nx ρ2:=by
 show (match s (ρ.set i (some u)) with
   | .nx ρ2=>fq (fh i) s [v] ρ2
   | .ct ρ2=>fq (fh i) s [v] ρ2
   | .bk ρ2=>.nx ρ2
   |r=>r)=_
 rw[h1];show (match s (ρ1.set i (some v)) with
   | .nx ρ2=>fq (fh i) s [] ρ2
   | .ct ρ2=>fq (fh i) s [] ρ2
   | .bk ρ2=>.nx ρ2
   |r=>r)=_
 rw[h2];rfl
noncomputable def Nc (i:Nat):SR->SR
 | .nx ρ'=>.nx (ρ'.set i none)
 | .bk ρ'=>.bk (ρ'.set i none)
 | .ct ρ'=>.ct (ρ'.set i none)
 | .rt u ρ'=>.rt u (ρ'.set i none)
 |r=>r
theorem Lc {g:Ev->SR}:xu i g ρ=Nc i (g ρ):=nr (by unfold xu Nc;cases g ρ<;>rfl)
theorem Fd {w:Str}{rest:List U}{ps:List (Int×Int)}{o:Int×Int}(hm:m<=1000)(hw:Dg w)(hl:ps.length<=1000)(ho:Pr m o)(ht:Pr m t)(h:∀p,Pr m p->D5 m k rest (ps++[p])):D5 m (k+1) (.str w::rest) (ps++[o,t]):=λf hf=>by
 obtain⟨z1,b1,c1,e1⟩:=yY (dn:=[]) (b:=none) (c:=none) hw hl (by simp) ho ht hf h 0 (.inl rfl);obtain⟨z2,b2,c2,e2⟩:=yY (dn:=[]++[z1]) (b:=b1) (c:=c1) hw hl (by simp) ho ht hf h 1 (.inr rfl);have ef:=Fc (ρ:=eG m w rest ps o t f [] none none none) (i:=9) (u:=.int 0) (v:=.int 1) e1 e2;obtain⟨x,p,hx,h1,h2⟩:=IU hw ho ht hf;rw[hx] at h1;obtain⟨z,es⟩:=Fb (a:=z1) (b:=z2) hm h1 h2;rw[←hx] at es;refine⟨z,?_⟩;rw[RX];show bg (k+1) [.int m,.lst (.str w::rest),.lst (ps.map iI++[iI o,iI t]),iI f]=_;have b:(((rest.length+1:Nat):Int)==0)=false:=beq_eq_false_iff_ne.mpr (by lia);rw[bg,Nb];simp only[Pzz,bu,Nat.reduceAdd,Nat.reduceSub,id,b,in_str,La,Lb,Dk hw];unfold eG at ef;rw[ef];simp only[Pzz,bu,Nat.reduceAdd,Nat.reduceSub,Lc,Nc,es]
theorem yZ {m:Nat}(hm:m<=1000):∀(F:Fm) (a:Bool) (k:Nat) (rest:List U) (ps:List (Int×Int)),F.ok->(∀n∈F.bits,0<=n/\2*n+1<(m:Int))->ps.length+F.bits.length<=1000->(∀p,Pr m p->D5 m k rest (ps++[p]))->D5 m (k+(F.st a).length) (F.st a++rest) ps
 | .bit n,a,k,rest,ps,_,hb,hl,h=>by
  have hn:=hb n (by unfold Fm.bits;exact Rq.mpr rfl);have hl:ps.length+1<=1000:=hl;cases a with
  |true=>exact Dm (p:=(2*n+1,2*n)) (by lia) (h _ ⟨⟨by dsimp only;lia,by dsimp only;lia⟩,by dsimp only;lia,by dsimp only;lia⟩)
  |false=>exact Dm (p:=(2*n,2*n+1)) (by lia) (h _ ⟨⟨by dsimp only;lia,by dsimp only;lia⟩,by dsimp only;lia,by dsimp only;lia⟩)
 | .neg f,a,k,rest,ps,ho,hb,hl,h=>yZ hm f (!a) k rest ps ho hb hl h
 | .two w f g,a,k,rest,ps,ho,hb,hl,h=>by
  have hl:ps.length+(f.bits++g.bits).length<=1000:=hl;rw[QE] at hl;have lf:1<=f.bits.length:=by have:=ip f a;lia
  have lg:1<=g.bits.length:=by have:=ip g a;lia
  have main:∀(a2:Bool) (v:Str),Dg v->D5 m (k+(f.st a++g.st a2++[U.str v]).length) (f.st a++g.st a2++[U.str v]++rest) ps:=λa2 v hv=>by
   have h1:∀o,Pr m o->D5 m (k+1+(g.st a2).length) (g.st a2++(.str v::rest)) (ps++[o]):=λo hO=>
    yZ hm g a2 (k+1) (.str v::rest) (ps++[o]) ho.2.2 (λn hn=>hb n (QQ _ hn)) (by rw[QE];show ps.length+1+_<=_;lia) λt hT=>by
     rw[Rj];exact Fd hm hv (by lia) hO hT h
   have h2:=yZ hm f a (k+1+(g.st a2).length) (g.st a2++(.str v::rest)) ps ho.2.1 (λn hn=>hb n (Rc _ hn)) (by lia) h1;have e1:k+(f.st a++g.st a2++[U.str v]).length=k+1+(g.st a2).length+(f.st a).length:=by
    simp only[QE,QL,RW];lia
   have e2:f.st a++g.st a2++[U.str v]++rest=f.st a++(g.st a2++(U.str v::rest)):=by simp
   rw[e1,e2];exact h2
  unfold Fm.st;split
  ·exact main false "one" (.inr (.inr rfl))
  ·refine main a _ ?_;split
   ·exact .inl rfl
   ·exact .inr (.inl rfl)
theorem uF {f:U->R (Option U)}:∀{xs ys zs ws:List U},md f xs=.ok ys->md f zs=.ok ws->md f (xs++zs)=.ok (ys++ws)
 | [],ys,zs,ws,h1,h2=>by
  have:ys=[]:=by unfold md at h1;cases h1;rfl
  subst this;exact h2
 |x::xs,ys,zs,ws,h1,h2=>by
  rw[TB];unfold md at h1 ⊢;cases e:f x with
  |ok o=>
   cases e2:md f xs with
   |ok vs=>
    rw[e,e2] at h1;cases h1;rw[uF e2 h2];cases o<;>rfl
   |exc c u=>rw[e,e2] at h1;cases h1
   |stk=>rw[e,e2] at h1;cases h1
  |exc c u=>rw[e] at h1;cases h1
  |stk=>rw[e] at h1;cases h1
noncomputable def GN (ρ:Ev):U->R (Option U):=zO [none] (fh 0) (gB (gw "tuple" (ag 0))) (ag 0) ρ
theorem GO {p:Int×Int}:GN ρ (iI p)=.ok (some (iI p)):=by
 unfold GN;simp only[Pzz,bu,Nat.reduceAdd,Nat.reduceSub,Dl]
theorem Ld {w:Str}:GN ρ (.str w)=.ok none:=by
 unfold GN;simp only[Pzz,bu,Nat.reduceAdd,Nat.reduceSub,in_str]
theorem IV {w:Str}:md (GN ρ) [.str w]=.ok []:=by
 unfold md;rw[Ld];rfl
theorem pN {ρ:Ev}:∀(F:Fm) (a:Bool),∃us,md (GN ρ) (F.st a)=.ok us/\us.length=F.bits.length
 | .bit n,a=>by
  cases a with
  |true=>exact⟨_,E9 GO,rfl⟩
  |false=>exact⟨_,E9 GO,rfl⟩
 | .neg f,a=>pN f (!a)
 | .two w f g,a=>by
  have main:∀a2 v,∃us,md (GN ρ) (f.st a++g.st a2++[.str v])=.ok us/\us.length=(f.bits++g.bits).length:=λa2 v=>by
   obtain⟨us,e1,l1⟩:=pN (ρ:=ρ) f a;obtain⟨vs,e2,l2⟩:=pN (ρ:=ρ) g a2;exact⟨_,uF (uF e1 e2) IV,by rw[Q1,QE,QE,l1,l2]⟩
  unfold Fm.st;split
  ·exact main _ _
  ·exact main _ _
theorem Fe {F:Fm}(ho:F.ok)(hb:yV n F.bits)(h1:1<=n)(h3:n<=3)(hd:F.dep<=30)(hf:aB [F.u]=.ok (.bl true)):∃z,cR [F.u]=.ok z:=by
 have l:F.bits.length=n:=by have:=hb.length_eq;rwa [df] at this
 have hm:∀i∈F.bits,0<=i/\i<(n:Int):=λi hi=>by
  have:=(hb.mem_iff).mp hi;unfold bw at this;obtain⟨j,hj,rfl⟩:=Tu.mp this;have:=Tq.mp hj;exact⟨(by lia),(by lia)⟩
 have e1:=kj F false 30 ho hd (by lia) (λi hi=>by have:=hm i hi;lia);obtain⟨us,e2,l2⟩:=pN (ρ:=[some F.u,some (.lst (F.st false)),none]) F false;have e3:=rb (n:=(n:Int)) (by lia) (by lia);have ls:=ip F false;have K:=yZ (m:=2*n+2) (by lia) F false (10-(F.st false).length) [] [] ho (λi hi=>by have:=hm i hi;lia) (by show 0+_<=_;lia) (λp hp=>by
  have:10-(F.st false).length=(9-(F.st false).length)+1:=(by lia)
  rw[this];exact IT)
 rw[show 10-(F.st false).length+(F.st false).length=10 by lia,Q1] at K;obtain⟨z,e4⟩:=K (2*n,2*n+1) ⟨⟨by dsimp only;lia,by dsimp only;lia⟩,by dsimp only;lia,by dsimp only;lia⟩;refine⟨z,?_⟩;unfold GN at e2;have l3:us.length=n:=(by lia)
 have cm:nD 2 (n:Int)=true:=by
  have:n=1\/n=2\/n=3:=(by lia)
  rcases this with rfl|rfl|rfl<;>kernel_rfl
 rw[show ((2*n+2:Nat):Int)=2*(n:Int)+2 by lia] at e4;have e4:bg 10 [.int (2*(n:Int)+2),.lst (F.st false),.lst [],iI (2*(n:Int),2*(n:Int)+1)]=.ok z:=e4;simp only[Pzz,bu,Nat.reduceAdd,Nat.reduceSub,cR,nQ,hf,e1,e2,l3,e3,cm,e4]
def wt (u:U):Prop:=∃d,dG u=some d/\bP d<=30
theorem Dq {n:Nat}:∀{us:List U} {ds:List D},d5 us=some ds->fL ds<=n->∀x∈us,∃d,dG x=some d/\bP d<=n
 | [],_,_,_,x,hx=>by cases hx
 |u::us,ds,e,l,x,hx=>by
  unfold d5 at e;cases e1:dG u with
  |none=>rw[e1] at e;cases e
  |some d=>
   cases e2:d5 us with
   |none=>rw[e1,e2] at e;cases e
   |some ds'=>
    rw[e1,e2] at e;cases e;unfold fL at l;rcases QN.mp hx with rfl|z
    ·exact⟨d,e1,(by lia)⟩
    ·exact Dq e2 (by lia) x z
theorem dh (h:wt (.tup us)):∀x∈us,wt x:=λx hx=>by
 obtain⟨d,e,l⟩:=h;unfold dG at e;obtain⟨ds,e2,rfl⟩:=Ro.mp e;unfold bP at l;exact Dq e2 (by lia) x hx
noncomputable def oT (s:Str)(u:U):Bool:=match u with
 | .str x=>x==s
 |_=>false
theorem gD {u:U}{s:Str}(h:wt u):jV u (.str s)=.ok (oT s u):=by
 obtain⟨d,e,l⟩:=h;unfold jV;rw[e,show dG (.str s)=some (.str s) by unfold dG;rfl];dsimp only;rw[hV (by lia)];cases u
 case dct=>unfold dG at e;cases e
 case scr=>unfold dG at e;cases e
 case tup us=>
  unfold dG at e;obtain⟨ds,_,rfl⟩:=Ro.mp e;unfold fk;rfl
 case lst us=>
  unfold dG at e;obtain⟨ds,_,rfl⟩:=Ro.mp e;unfold fk;rfl
 all_goals (unfold dG at e;cases e;unfold fk;rfl)
noncomputable def rn (u:U):Bool:=oT "all" u||(oT "any" u||oT "one" u)
theorem ph {u:U}(h:wt u):AM id u (.tup [.str "all",.str "any",.str "one"])=.ok (.bl (rn u))/\AM id u (.lst [.str "all",.str "any",.str "one"])=.ok (.bl (rn u)):=by
 obtain⟨d,e,l⟩:=h;have hs:d5 [.str "all",.str "any",.str "one"]=some [.str "all",.str "any",.str "one"]:=by simp[d5,dG]
 have hd:∀s:Str,fk (.str s) d=oT s u:=by
  intro s;cases u
  case dct=>unfold dG at e;cases e
  case scr=>unfold dG at e;cases e
  case tup us=>
   unfold dG at e;obtain⟨ds,_,rfl⟩:=Ro.mp e;unfold fk;rfl
  case lst us=>
   unfold dG at e;obtain⟨ds,_,rfl⟩:=Ro.mp e;unfold fk;rfl
  case str x=>
   unfold dG at e;cases e;unfold fk oT;exact Bool.beq_comm
  all_goals (unfold dG at e;cases e;unfold fk;rfl)
 have h3:([D.str "all",.str "any",.str "one"].all λd=>decide (bP d<=30))=true:=by simp[bP]
 have key:[D.str "all",.str "any",.str "one"].any (λx=>fk x d)=rn u:=by
  simp only[List.any_cons,List.any_nil,hd,Bool.or_false];rfl
 constructor
 ·unfold AM ug;simp only[S1,e,hs];rw[hV h3,key];rfl
 ·unfold AM ug;simp only[S1,e,hs];rw[hV h3,key];rfl
noncomputable def kd:U->Option (List Int×List U)
 | .tup [w,a]=>if oT "bit" w=true then (match a with|.int n=>some ([n],[])|_=>none) else if oT "not" w=true then some ([],[a]) else none
 | .tup [w,a,b]=>if rn w=true then some ([],[a,b]) else none
 |_=>none
theorem lM {s:Str}{u:U}(h:oT s u=true):u=.str s:=by
 cases u<;>first|(cases h;done)|skip
 exact congrArg U.str (eq_of_beq h)
theorem GP {u:U}(h:rn u=true):∃w,u=.str w/\Dg w:=by
 unfold rn at h;rw[SG,SG] at h;rcases h with h|h|h
 ·exact⟨_,lM h,.inl rfl⟩
 ·exact⟨_,lM h,.inr (.inl rfl)⟩
 ·exact⟨_,lM h,.inr (.inr rfl)⟩
theorem kR {u:U}{p:List Int×List U}(h:kd u=some p):(∃n,u=.tup [.str "bit",.int n]/\p=([n],[]))\/(∃a,u=.tup [.str "not",a]/\p=([],[a]))\/∃w a b,u=.tup [.str w,a,b]/\Dg w/\p=([],[a,b]):=by
 unfold kd at h;split at h
 ·rename_i w a;split at h
  ·rename_i hb;split at h
   ·cases h;exact .inl ⟨_,by rw[lM hb],rfl⟩
   ·cases h
  ·split at h
   ·rename_i hn;cases h;exact .inr (.inl ⟨_,by rw[lM hn],rfl⟩)
   ·cases h
 ·split at h
  ·rename_i hg;cases h;obtain⟨w,rfl,hw⟩:=GP hg;exact .inr (.inr ⟨w,_,_,rfl,hw,rfl⟩)
  ·cases h
 ·cases h
noncomputable def du (g:U->Option (List Int)):List U->Option (List Int)
 | []=>some []
 |u::us=>(g u).bind λx=>(du g us).map (x++·)
noncomputable def lq:Nat->U->Option (List Int)
 |0,_=>none
 |k+1,u=>(kd u).bind λp=>(du (lq k) p.2).map (p.1++·)
theorem y0 {g:U->Option (List Int)}:∀us ws:List U,du g (us++ws)=(du g us).bind λx=>(du g ws).map (x++·)
 | [],ws=>by
  show du g ws=(some []).bind _;rw[S1];cases du g ws<;>rfl
 |u::us,ws=>by
  show ((g u).bind λx=>(du g (us++ws)).map (x++·))=((g u).bind λx=>(du g us).map (x++·)).bind λx=>(du g ws).map (x++·);rw[y0 us ws];cases g u with
  |none=>rfl
  |some x=>
   cases du g us with
   |none=>rfl
   |some y=>
    cases du g ws with
    |none=>rfl
    |some z=>
     simp only[S1,Option.map_some];rw[Rj]
theorem rq:∀{k:Nat} {u:U} {xs:List Int},lq k u=some xs->∃F:Fm,F.u=u/\F.bits=xs/\F.ok/\F.dep<=k
 |0,u,xs,h=>by cases h
 |k+1,u,xs,h=>by
  unfold lq at h;obtain⟨p,h1,h2⟩:=Option.bind_eq_some_iff.mp h;rcases kR h1 with⟨n,rfl,rfl⟩|⟨a,rfl,rfl⟩|⟨w,a,b,rfl,hw,rfl⟩
  ·cases h2;exact⟨.bit n,rfl,rfl,True.intro,by show 1<=_;lia⟩
  ·unfold du du at h2;cases e:lq k a with
   |none=>rw[e] at h2;cases h2
   |some x=>
    rw[e] at h2;cases h2;obtain⟨F,rfl,f2,f3,f4⟩:=rq e;exact⟨.neg F,rfl,by show F.bits=_;rw[f2];simp,f3,by show F.dep+1<=_;lia⟩
  ·unfold du du du at h2;cases e:lq k a with
   |none=>rw[e] at h2;cases h2
   |some x=>
    cases e':lq k b with
    |none=>rw[e,e'] at h2;cases h2
    |some y=>
     rw[e,e'] at h2;cases h2;obtain⟨F,rfl,f2,f3,f4⟩:=rq e;obtain⟨G,rfl,g2,g3,g4⟩:=rq e';exact⟨.two w F G,rfl,by show F.bits++G.bits=_;rw[f2,g2];simp,⟨hw,f3,g3⟩,by show max F.dep G.dep+1<=_;lia⟩
theorem uG:∀F:Fm,1<=F.bits.length:=λF=>by have:=ip F true;lia
noncomputable def good (xs:List Int):Bool:=decide (xs.length<=3)&&decide (jL xs=bw xs.length)
theorem Az (n:Nat):(bw n).Pairwise (·<=·):=by
 unfold bw;rw[List.pairwise_map];exact List.pairwise_lt_range.imp λh=>by lia
theorem kl:jL ns=bw n↔ns.Perm (bw n):=by
 constructor
 ·intro h;rw[←h];exact (eP ns).symm
 ·intro h;exact PySem.W.ksm_same ((eP ns).trans h) (qq ns) (Az n)
theorem AA {xs ys:List Int}(h:xs.Perm ys):good xs=good ys:=by
 unfold good;rw[h.length_eq];congr 1;refine decide_eq_decide.mpr ?_;rw[kl,kl];exact⟨h.symm.trans,h.trans⟩
noncomputable def Dr (o:Option (List Int))(bs:List Int):Bool:=match o with
 |some xs=>good (bs++xs)
 |none=>false
noncomputable def jc (u:U):List Int:=match kd u with
 |some p=>p.1
 |none=>[]
noncomputable def nU (u:U):List U:=match kd u with
 |some p=>p.2
 |none=>[]
theorem rz {k:Nat}:∀us:List U,(∀u∈us,(kd u).isSome=true)->(du (lq (k+1)) us=none/\du (lq k) (us.flatMap nU)=none)\/∃xs ys,du (lq (k+1)) us=some xs/\du (lq k) (us.flatMap nU)=some ys/\xs.Perm (us.flatMap jc++ys)
 | [],_=>.inr ⟨[],[],rfl,rfl,.refl _⟩
 |u::us,h=>by
  have ih:=rz (k:=k) us λv hv=>h v (QW _ hv);have hu:=h u QZ;obtain⟨p,hp⟩:=RE.mp hu;have e1:nU u=p.2:=by unfold nU;rw[hp]
  have e2:jc u=p.1:=by unfold jc;rw[hp]
  have e3:lq (k+1) u=(du (lq k) p.2).map (p.1++·):=by rw[lq,hp];rfl
  rw[SS,SS,y0,e1,e2,du,e3];cases c:du (lq k) p.2 with
  |none=>exact .inl ⟨rfl,rfl⟩
  |some z=>
   rcases ih with⟨i1,i2⟩|⟨xs,ys,i1,i2,i3⟩
   ·rw[i1,i2];exact .inl ⟨rfl,rfl⟩
   ·rw[i1,i2];refine .inr ⟨p.1++z++xs,z++ys,rfl,rfl,?_⟩;refine (SK (p.1++z) i3).trans ?_;rw[Rj,Rj];refine SK _ ?_;rw[←Rj,←Rj];exact List.Perm.append_right _ List.perm_append_comm
theorem y6 {k:Nat}:∀{us:List U} {xs:List Int},du (lq k) us=some xs->us.length<=xs.length
 | [],_,_=>S6 _
 |u::us,xs,h=>by
  unfold du at h;obtain⟨x,h1,h2⟩:=Option.bind_eq_some_iff.mp h;obtain⟨y,h3,rfl⟩:=Ro.mp h2;have:=y6 h3;obtain⟨F,_,f,_⟩:=rq h1;have l:=uG F;rw[f] at l;rw[QL,QE];lia
theorem wu {k:Nat}:∀{us:List U} {u:U},u∈us->kd u=none->du (lq (k+1)) us=none
 |v::us,u,hu,h=>by
  unfold du;rcases QN.mp hu with rfl|hu
  ·have:lq (k+1) u=none:=by rw[lq,h];rfl
   rw[this];rfl
  ·rw[wu hu h];cases lq (k+1) v<;>rfl
theorem wx {u:U}(h:wt u):g_ [u]=.ok (.bl (OU u)):=by
 obtain⟨d,e,_⟩:=h;cases u<;>first|(unfold dG at e;cases e;done)|skip
 all_goals simp only[Pzz,bu,Nat.reduceAdd,Nat.reduceSub,g_,lE]
 all_goals rfl
theorem oU (n:Nat):(((0+1:Nat):Int)==0)=false/\(((1:Nat):Int)==0)=false/\(((2:Nat):Int)==0)=false/\(((3:Nat):Int)==0)=false/\(((1:Nat):Int)==2)=false/\(((2:Nat):Int)==2)=true/\(((3:Nat):Int)==2)=false/\(((1:Nat):Int)==3)=false/\(((2:Nat):Int)==3)=false/\(((3:Nat):Int)==3)=true/\(((n+4:Nat):Int)==0)=false/\(((n+4:Nat):Int)==2)=false/\(((n+4:Nat):Int)==3)=false:=
 ⟨rfl,rfl,rfl,rfl,rfl,rfl,rfl,rfl,rfl,rfl,beq_eq_false_iff_ne.mpr (by lia),beq_eq_false_iff_ne.mpr (by lia),beq_eq_false_iff_ne.mpr (by lia)⟩
theorem OW:(((0:Nat):Int)==0)=true:=rfl
theorem xS {u:U}(h:wt u):bp [u]=.ok (.bl (kd u).isSome):=by
 cases u
 case dct=>obtain⟨d,e,_⟩:=h;unfold dG at e;cases e
 case scr=>obtain⟨d,e,_⟩:=h;unfold dG at e;cases e
 case tup us=>
  match us,h with
  | [],_=>simp only[Pzz,bu,Nat.reduceAdd,Nat.reduceSub,bp,bY,a9,id,OW];rfl
  | [w],h=>
   have w3:=dh h w (by simp);have z:kd (.tup [w])=none:=rfl;rw[z];cases b1:oT "bit" w
   ·cases b2:oT "not" w
    ·simp only[Pzz,bu,Nat.reduceAdd,Nat.reduceSub,bp,bY,a9,id,oU 0,gD w3,b1,b2];rfl
    ·simp only[Pzz,bu,Nat.reduceAdd,Nat.reduceSub,bp,bY,a9,id,oU 0,gD w3,b1,b2];rfl
   ·simp only[Pzz,bu,Nat.reduceAdd,Nat.reduceSub,bp,bY,a9,id,oU 0,gD w3,b1];rfl
  | [w,a],h=>
   have w3:=dh h w (by simp);have a3:=dh h a (by simp);have ia:=wx a3;cases b1:oT "bit" w
   ·cases b2:oT "not" w
    ·simp only[Pzz,bu,Nat.reduceAdd,Nat.reduceSub,bp,bY,a9,id,oU 0,gD w3,b1,b2,kd];rfl
    ·simp only[Pzz,bu,Nat.reduceAdd,Nat.reduceSub,bp,bY,a9,id,oU 0,gD w3,b1,b2,kd];rfl
   ·simp only[Pzz,bu,Nat.reduceAdd,Nat.reduceSub,bp,bY,a9,id,oU 0,gD w3,b1,ia,kd];cases a<;>rfl
  | [w,a,b],h=>
   have w3:=dh h w (by simp);cases b1:oT "bit" w
   ·cases b2:oT "not" w
    ·simp only[Pzz,bu,Nat.reduceAdd,Nat.reduceSub,bp,bY,a9,id,oU 0,gD w3,b1,b2,kd,(ph w3).1];cases rn w<;>rfl
    ·rw[lM b2];kernel_rfl
   ·rw[lM b1];kernel_rfl
  |w::a::b::c::us,h=>
   have w3:=dh h w (by simp);have z:kd (.tup (w::a::b::c::us))=none:=rfl;rw[z];cases b1:oT "bit" w
   ·cases b2:oT "not" w
    ·simp only[Pzz,bu,Nat.reduceAdd,Nat.reduceSub,bp,bY,a9,id,oU us.length,gD w3,b1,b2];rfl
    ·simp only[Pzz,bu,Nat.reduceAdd,Nat.reduceSub,bp,bY,a9,id,oU us.length,gD w3,b1,b2];rfl
   ·simp only[Pzz,bu,Nat.reduceAdd,Nat.reduceSub,bp,bY,a9,id,oU us.length,gD w3,b1];rfl
 all_goals (simp only[Pzz,bu,Nat.reduceAdd,Nat.reduceSub,bp,bY];rfl)
theorem Ds:iK (.lst us) [.tup ws]=if us.length+ws.length<=QC then .ok (.non,.lst (us++ws)) else .stk:=nr rfl
theorem AB (h:∀u∈us,(kd u).isSome=true)(hl:us.length<=1000):bZ [.lst us]=.ok (.lst (us.flatMap nU)):=by
 have S:QC=16777216:=rfl;have step:∀(ws:List U) (ej:List U) (o:Option U),(∀u∈ws,(kd u).isSome=true)->ej.length+2*ws.length<=10000->∃o',fq (fh 2) cw ws [some (.lst us),some (.lst ej),o]=.nx [some (.lst us),some (.lst (ej++ws.flatMap nU)),o']:=by
  intro ws
  induction ws with
  |nil=>intro ej o _ _;exact⟨o,by rw[List.flatMap_nil,Q1];rfl⟩
  |cons u ws ih=>
   intro ej o hk hz;rw[QL] at hz;obtain⟨p,hp⟩:=RE.mp (hk u QZ);have e1:nU u=p.2:=by unfold nU;rw[hp]
   have lp:p.2.length<=2:=by
    rcases kR hp with⟨n,_,rfl⟩|⟨a,_,rfl⟩|⟨w,a,b,_,_,rfl⟩<;>simp
   obtain⟨o',e⟩:=ih (ej++p.2) (some u) (λv hv=>hk v (QW _ hv)) (by rw[QE];lia);refine⟨o',?_⟩;rw[SS,e1,←Rj,←e,mq];have z1:ej.length+1<=QC:=(by lia)
   have z2:ej.length+2<=QC:=(by lia)
   rcases kR hp with⟨n,rfl,rfl⟩|⟨a,rfl,rfl⟩|⟨w,a,b,rfl,hw,rfl⟩
   ·simp only[Pzz,bu,Nat.reduceAdd,Nat.reduceSub,cw,sX,Q1]
   ·simp only[Pzz,bu,Nat.reduceAdd,Nat.reduceSub,cw,sX,Dj,Ds,z1]
   ·rcases hw with rfl|rfl|rfl<;>simp only[Pzz,bu,Nat.reduceAdd,Nat.reduceSub,cw,sX,q_,Ds,z2]
 obtain⟨o',e⟩:=step us [] none h (by show 0+_<=_;lia);rw[SJ] at e;simp only[Pzz,bu,Nat.reduceAdd,Nat.reduceSub,bZ,fv,e]
noncomputable def hI:Ev->R (Bool×Ev):=gB (aF D3 (gb dD (ae (ag 1) ak)) (gC (.int 0)))
noncomputable def bI:Ev->SR:=(az (BP 2 (Kw (λi j=>i+j)) (gC (.int 1)))
 (az (gH (yd (gB (aF D3 (ag 2) (gC (.int 20)))) (gB (aF D3 (gb dD (ae (ag 1) ak)) (gC (.int 3))))) (a6 (gC (.bl false))) bf)
 (az (gH (jT (gB (gb zR (ae (jk (gO (ag 1)) [none] (fh 0) jU (dz 1 bp (ae (ag 0) ak))) ak)))) (a6 (gC (.bl false))) bf)
 (az (k8 (gM "list" 3 iK (ae (jk (gO (ag 1)) [none] (fh 0) (gB (aF (mX id) (aF cq (ag 0) (gC (.int 0))) (gC (.str "bit")))) (aF cq (ag 0) (gC (.int 1)))) ak)))
 (a_ 1 (dz 1 bZ (ae (ag 1) ak)))))))
noncomputable def tI:Ev->SR:=(a6 (qe (aF Kx (gb dD (ae (ag 3) ak)) (gC (.int 3))) (aF (mX id) (gb j7 (ae (ag 3) ak)) (oj (ae (gb dD (ae (ag 3) ak)) ak)))))
theorem Le:ju=(az (a_ 1 (bF (ae (ag 0) ak)))
 (az (a_ 2 (gC (.int 0)))
 (az (a_ 3 (bF ak))
 (az (gI hI bI 1000) tI)))):=rfl
noncomputable abbrev eI (t:U)(us:List U)(d:Int)(bs:List Int):Ev:=[some t,some (.lst us),some (.int d),some (.lst (bs.map .int))]
theorem GQ {t:U}{d:Int}{bs:List Int}:hI (eI t us d bs)=.ok (decide ((0:Int)<((us.length:Nat):Int)),eI t us d bs):=by
 unfold hI;simp only[Pzz,bu,Nat.reduceAdd,Nat.reduceSub,fS]
theorem Dt (ns:List Int):jK (ns.map .int)=some ns:=by
 induction ns with
 |nil=>rfl
 |cons n ns ih=>rw[Rb];unfold jK;rw[ih];rfl
theorem pO (h:ns.length<64):j7 [.lst (ns.map .int)]=.ok (.lst ((jL ns).map .int)):=by
 unfold j7;dsimp only;rw[Dt];dsimp only;rw[hV h]
theorem GR {t:U}{d:Int}{bs:List Int}:∃ρ',tI (eI t us d bs)=.rt (.bl (good bs)) ρ':=by
 refine⟨eI t us d bs,?_⟩;unfold tI good;by_cases h:bs.length<=3
 ·have c:decide (((bs.length:Nat):Int)<=3)=true:=hG (by lia);simp only[Pzz,bu,Nat.reduceAdd,Nat.reduceSub,QI,c,pO (show bs.length<64 by lia),mw bs.length (by lia),j8,yR,id,hG h,Bool.true_and]
 ·have c:decide (((bs.length:Nat):Int)<=3)=false:=hJ (by lia);simp only[Pzz,bu,Nat.reduceAdd,Nat.reduceSub,QI,c,hJ h,Bool.false_and]
theorem Du {xs:List U}{c:U->Bool}:zR [.lst (xs.map λx=>.bl (c x))]=.ok (.bl (xs.all c)):=by
 have e:j6 (xs.map λx=>.bl (c x))=some (xs.map c):=by
  induction xs with
  |nil=>rfl
  |cons x xs ih=>rw[Rb];unfold j6;rw[ih];rfl
 unfold zR;dsimp only;rw[e];dsimp only;rw[List.all_map];rfl
theorem Ff {f:Int->Int->Int}{i j:Int}:Kw f (.int i) (.int j)=.ok (.int (f i j)):=nr rfl
theorem Dv (h:∀u∈us,wt u):md (zO [none] (fh 0) jU (dz 1 bp (ae (ag 0) ak)) ρ) us=.ok (us.map λu=>.bl (kd u).isSome):=
 yQ λu hu=>by simp only[Pzz,bu,Nat.reduceAdd,Nat.reduceSub,xS (h u hu)]
theorem Dx {ρ:Ev}:∀{us:List U},(∀u∈us,(kd u).isSome=true)->md (zO [none] (fh 0) (gB (aF (mX id) (aF cq (ag 0) (gC (.int 0))) (gC (.str "bit")))) (aF cq (ag 0) (gC (.int 1))) ρ) us=.ok ((us.flatMap jc).map .int)
 | [],_=>rfl
 |u::us,h=>by
  obtain⟨p,hp⟩:=RE.mp (h u QZ);have e1:jc u=p.1:=by unfold jc;rw[hp]
  rw[SS,e1,RX];unfold md;rw[Dx λv hv=>h v (QW _ hv)];rcases kR hp with⟨n,rfl,rfl⟩|⟨a,rfl,rfl⟩|⟨w,a,b,rfl,hw,rfl⟩
  ·simp only[Pzz,bu,Nat.reduceAdd,Nat.reduceSub,kL,sX,id]
  ·simp only[Pzz,bu,Nat.reduceAdd,Nat.reduceSub,kL,sX,id]
  ·rcases hw with rfl|rfl|rfl<;>simp only[Pzz,bu,Nat.reduceAdd,Nat.reduceSub,kL,sX,id]
theorem Dy:(us.flatMap jc).length<=us.length:=by
 induction us with
 |nil=>exact QJ _
 |cons u us ih=>
  rw[SS,QE,QL];have:(jc u).length<=1:=by
   unfold jc;cases e:kd u with
   |none=>decide
   |some p=>
    rcases kR e with⟨n,_,rfl⟩|⟨a,_,rfl⟩|⟨w,a,b,_,_,rfl⟩<;>simp
  lia
theorem Fg {u:U}(h:wt u):∀x∈nU u,wt x:=λx hx=>by
 unfold nU at hx;cases e:kd u with
 |none=>rw[e] at hx;cases hx
 |some p=>
  rw[e] at hx;rcases kR e with⟨n,rfl,rfl⟩|⟨a,rfl,rfl⟩|⟨w,a,b,rfl,_,rfl⟩
  ·cases hx
  ·exact dh h x (QW _ hx)
  ·exact dh h x (QW _ hx)
theorem Fh {t:U}:∀(k rL:Nat) (us:List U) (bs:List Int),k<=20->k<rL->(∀u∈us,wt u)->bs.length+3*k<=1000->∃ρ',(gI hI bI rL (eI t us (20-k:Int) bs)).seq tI=.rt (.bl (Dr (du (lq k) us) bs)) ρ':=by
 intro k;have S:QC=16777216:=rfl
 induction k with
 |zero=>
  intro rL us bs _ hf g hb;obtain⟨rL,rfl⟩:∃f,rL=f+1:=⟨rL-1,(by lia)⟩;rw[yJ,GQ];cases us with
  |nil=>
   obtain⟨ρ',e⟩:=GR (t:=t) (us:=[]) (d:=20-((0:Nat):Int)) (bs:=bs);refine⟨ρ',?_⟩;show tI _=_;rw[e];show _=SR.rt (.bl (good (bs++[]))) ρ';rw[Q1]
  |cons u us=>
   have c:decide ((0:Int)<(((u::us).length:Nat):Int))=true:=hG (by rw[QL];lia);have c2:decide ((20:Int)<20-((0:Nat):Int)+1)=true:=hG (by lia);refine⟨[some t,some (.lst (u::us)),some (.int (20-((0:Nat):Int)+1)),some (.lst (bs.map .int))],?_⟩;rw[c];unfold bI;simp only[Pzz,bu,Nat.reduceAdd,Nat.reduceSub,Ff,fS,c2];rfl
 |succ k ih=>
  intro rL us bs hk hf g hb;obtain⟨rL,rfl⟩:∃f,rL=f+1:=⟨rL-1,(by lia)⟩;rw[yJ,GQ];by_cases hz:us=[]
  ·subst hz;obtain⟨ρ',e⟩:=GR (t:=t) (us:=[]) (d:=20-((k+1:Nat):Int)) (bs:=bs);refine⟨ρ',?_⟩;show tI _=_;rw[e];show _=SR.rt (.bl (good (bs++[]))) ρ';rw[Q1]
  have lp:=List.length_pos_iff.mpr hz;have c:decide ((0:Int)<((us.length:Nat):Int))=true:=hG (by lia);have c2:decide ((20:Int)<20-((k+1:Nat):Int)+1)=false:=hJ (by lia);have d2:(20:Int)-((k+1:Nat):Int)+1=20-(k:Int):=(by lia)
  rw[c];by_cases h3:us.length<=3
  ·have c3:decide ((3:Int)<((us.length:Nat):Int))=false:=hJ (by lia);cases ha:us.all λu=>(kd u).isSome with
   |false=>
    obtain⟨u,hu,hn⟩:=List.all_eq_false.mp ha;have hn:kd u=none:=by cases e:kd u with
     |none=>rfl
     |some p=>rw[e] at hn;exact absurd rfl hn
    rw[wu hu hn];refine⟨[some t,some (.lst us),some (.int (20-((k+1:Nat):Int)+1)),some (.lst (bs.map .int))],?_⟩;unfold bI;simp only[Pzz,bu,Nat.reduceAdd,Nat.reduceSub,Ff,fS,c2,c3,Dv g,Du,ha];rfl
   |true=>
    have hm:=Ri.mp ha;have lb:=Dy (us:=us);obtain⟨ρ',e⟩:=ih rL (us.flatMap nU) (bs++us.flatMap jc) (by lia) (by lia) (λx hx=>by
     obtain⟨u,hu,hx⟩:=List.mem_flatMap.mp hx;exact Fg (g u hu) x hx) (by rw[QE];lia)
    refine⟨ρ',?_⟩;have Qk:Dr (du (lq (k+1)) us) bs=Dr (du (lq k) (us.flatMap nU)) (bs++us.flatMap jc):=by
     rcases rz (k:=k) us hm with⟨i1,i2⟩|⟨xs,ys,i1,i2,i3⟩
     ·rw[i1,i2];rfl
     ·rw[i1,i2];show good _=good _;rw[Rj];exact AA (SK _ i3)
    rw[Qk,←e];have z1:(bs.map U.int).length+((us.flatMap jc).map U.int).length<=QC:=by rw[QI,QI];lia
    have c4:decide ((20:Int)<20-(k:Int))=false:=hJ (by lia);have eb:bI (eI t us (20-((k+1:Nat):Int)) bs)=.nx (eI t (us.flatMap nU) (20-(k:Int)) (bs++us.flatMap jc)):=by
     unfold bI eI;rw[RX];simp only[Pzz,bu,Nat.reduceAdd,Nat.reduceSub,Ff,fS,c4,c3,Dv g,Du,ha,Dx hm,K7,z1,AB hm (by lia),d2]
    show ((bI (eI t us (20-((k+1:Nat):Int)) bs)).turn _).seq tI=_;rw[eb];rfl
  ·have c3:decide ((3:Int)<((us.length:Nat):Int))=true:=hG (by lia);have f:Dr (du (lq (k+1)) us) bs=false:=by
    cases e:du (lq (k+1)) us with
    |none=>rfl
    |some xs=>
     have:=y6 e;show good _=false;unfold good;rw[hJ (by rw[QE];lia)];rfl
   rw[f];refine⟨[some t,some (.lst us),some (.int (20-((k+1:Nat):Int)+1)),some (.lst (bs.map .int))],?_⟩;unfold bI;simp only[Pzz,bu,Nat.reduceAdd,Nat.reduceSub,Ff,fS,c2,c3]
noncomputable def AD (u:U):Bool:=Dr (lq 20 u) []
theorem sh {u:U}(h:wt u):aB [u]=.ok (.bl (AD u)):=by
 obtain⟨ρ',e⟩:=Fh (t:=u) 20 1000 [u] [] (by lia) (by lia) (λx hx=>by rw[Rq.mp hx];exact h) (by decide);have e1:du (lq 20) [u]=lq 20 u:=by
  unfold du du;cases lq 20 u with
  |none=>rfl
  |some x=>show some (x++[])=_;rw[Q1]
 rw[e1] at e;rw[aB,Le];have e:(gI hI bI 1000 [some u,some (.lst [u]),some (.int 0),some (.lst [])]).seq tI=.rt (.bl (AD u)) ρ':=e;simp only[Pzz,bu,Nat.reduceAdd,Nat.reduceSub,e]
noncomputable def AN (n:Int):Bool:=decide (0<=n)&&decide (n<3)
noncomputable def cx (o:Option (List Int)):U:=match o with
 |some xs=>if xs.all AN=true then .lst (xs.map .int) else .non
 |none=>.non
theorem Fi:∀F:Fm,F.bits.length<=2 ^ F.dep
 | .bit n=>by show 1<=2 ^ 1;decide
 | .neg f=>by
  have:=Fi f;show f.bits.length<=2 ^ (f.dep+1);rw[Nat.pow_succ];lia
 | .two w f g=>by
  have h1:=Fi f;have h2:=Fi g;show (f.bits++g.bits).length<=2 ^ (max f.dep g.dep+1);have m1:2 ^ f.dep<=2 ^ max f.dep g.dep:=TH (by decide) (by lia);have m2:2 ^ g.dep<=2 ^ max f.dep g.dep:=TH (by decide) (by lia);rw[QE,Nat.pow_succ];lia
theorem IW {u:U}{xs:List Int}(h:lq k u=some xs)(hk:k<=20):xs.length<=1048576:=by
 obtain⟨F,_,rfl,_,d⟩:=rq h;have:=Fi F;have m:2 ^ F.dep<=2 ^ 20:=TH (by decide) (by lia);have:(2:Nat) ^ 20=1048576:=by decide
 lia
theorem mS (n:Nat):bE .S 6 (bC n)=aY n:=rfl
theorem Dz (o:Option (List Int)):∃d,dG (cx o)=some d/\bP d<=30/\fk d .non=i6 (cx o):=by
 unfold cx;split
 ·split
  ·rename_i xs _;refine⟨.lst (xs.map .int),by unfold dG;rw[sP];rfl,by unfold bP;rw[qv];lia,by unfold fk;rfl⟩
  ·exact⟨.non,by unfold dG;rfl,by unfold bP;lia,by unfold fk;rfl⟩
 ·exact⟨.non,by unfold dG;rfl,by unfold bP;lia,by unfold fk;rfl⟩
theorem Fj (o1 o2:Option (List Int)):AM not .non (.lst [cx o1,cx o2])=.ok (.bl (!(i6 (cx o1)||i6 (cx o2)))):=by
 obtain⟨d1,a1,b1,c1⟩:=Dz o1;obtain⟨d2,a2,b2,c2⟩:=Dz o2;have hs:d5 [cx o1,cx o2]=some [d1,d2]:=by
  unfold d5 d5 d5;rw[a1,a2];rfl
 have hn:dG .non=some .non:=by unfold dG;rfl
 unfold AM ug;simp only[S1,hn,hs];have h3:([d1,d2].all λd=>decide (bP d<=30))=true:=by simp[b1,b2]
 rw[hV h3];simp only[List.any_cons,List.any_nil,c1,c2,Bool.or_false]
theorem DB (o1 o2:Option (List Int)):cx (o1.bind λx=>o2.map (x++·))=match cx o1,cx o2 with
  | .lst a,.lst b=>.lst (a++b)
  |_,_=>.non:=by
 cases o1 with
 |none=>cases o2<;>rfl
 |some x=>
  cases o2 with
  |none=>
   show U.non=_;unfold cx;dsimp only;split
   ·rename_i h;cases h
   ·rfl
  |some y=>
   show cx (some (x++y))=_;unfold cx;dsimp only;rw[List.all_append];cases x.all AN<;>cases y.all AN<;>simp
theorem y7 {u:U}{a:List U}(hk:k<=20)(h:cx (lq k u)=.lst a):a.length<=1048576:=by
 cases e:lq k u with
 |none=>rw[e] at h;cases h
 |some xs=>
  rw[e] at h;have:=IW e hk;unfold cx at h;dsimp only at h;split at h
  ·cases h;rw[QI];exact this
  ·cases h
theorem uH (o:Option (List Int)):cx o=.non\/∃a,cx o=.lst a:=by
 unfold cx;split
 ·split
  ·exact .inr ⟨_,rfl⟩
  ·exact .inl rfl
 ·exact .inl rfl
theorem km {a u n:U}{d:Int}{o:Option U}{x y z:Option U}(e:aY k [u,.int (d+1)]=.ok n):zO [none,some 1] (fh 0) jU (dz 2 (aY k) (ae (ag 0) (ae (aF cF (ag 1) (gC (.int 1))) ak))) [some a,some (.int d),o,x,y,z] u=.ok (some n):=by
 simp only[Pzz,bu,Nat.reduceAdd,Nat.reduceSub,e]
theorem Of {w a b:U}:kd (.tup [w,a,b])=if rn w=true then some ([],[a,b]) else none:=rfl
theorem Fo:∀(k:Nat) (u:U),k<=20->wt u->aY (k+4) [u,.int (21-k)]=.ok (cx (lq k u)):=by
 intro k
 induction k with
 |zero=>
  intro u _ h;have c:decide ((20:Int)<21-((0:Nat):Int))=true:=hG (by lia);show aY (3+1) _=_;rw[aY,bC];simp only[Pzz,bu,Nat.reduceAdd,Nat.reduceSub,fS,c];rfl
 |succ k ih=>
  intro u hk h;have S:QC=16777216:=rfl;have c:decide ((20:Int)<21-((k+1:Nat):Int))=false:=hJ (by lia);have d1:(21:Int)-((k+1:Nat):Int)+1=21-(k:Int):=(by lia)
  show aY ((k+4)+1) _=_;cases u
  case dct=>obtain⟨d,e,_⟩:=h;unfold dG at e;cases e
  case scr=>obtain⟨d,e,_⟩:=h;unfold dG at e;cases e
  case tup us=>
   match us,h with
   | [],_=>
    have z:cx (lq (k+1) (.tup []))=.non:=rfl;rw[z,aY,bC];have c2:decide (((0:Nat):Int)<2)=true:=rfl;simp only[Pzz,bu,Nat.reduceAdd,Nat.reduceSub,fS,c,c2]
   | [w],h=>
    have z:cx (lq (k+1) (.tup [w]))=.non:=rfl;rw[z,aY,bC];have c2:decide (((1:Nat):Int)<2)=true:=rfl;simp only[Pzz,bu,Nat.reduceAdd,Nat.reduceSub,fS,c,c2]
   | [w,a],h=>
    have w3:=dh h w (by simp);have a3:=dh h a (by simp);have ia:=ih a (by lia) a3;have c2:decide (((2:Nat):Int)<2)=false:=rfl;rw[lq,aY,bC,mS];unfold kd;cases b1:oT "bit" w
    ·cases b2:oT "not" w
     ·cases b3:rn w
      ·simp only[Pzz,bu,Nat.reduceAdd,Nat.reduceSub,fS,c,c2,a9,gD w3,b1,b2,id,(ph w3).2,b3,oU 0];rfl
      ·simp only[Pzz,bu,Nat.reduceAdd,Nat.reduceSub,fS,c,c2,a9,gD w3,b1,b2,id,(ph w3).2,b3,oU 0];rfl
     ·have e:((some (([]:List Int),[a])).bind λp=>(du (lq k) p.2).map (p.1++·))=lq k a:=by
       show ((lq k a).bind λx=>some (x++[])).map ([]++·)=_;cases lq k a with
       |none=>rfl
       |some x=>show some (x++[])=_;rw[Q1]
      simp only[Pzz,bu,Nat.reduceAdd,Nat.reduceSub,fS,c,c2,a9,gD w3,b1,b2,id,oU 0,d1,ia,e]
    ·cases a
     case int n=>
      have e:((some ([n],([]:List U))).bind λp=>(du (lq k) p.2).map (p.1++·))=some [n]:=rfl;by_cases q1:0<=n
      ·by_cases q2:n<3
       ·have i:([n].all AN)=true:=by simp[AN,q1,q2]
        simp only[Pzz,bu,Nat.reduceAdd,Nat.reduceSub,fS,c,c2,a9,gD w3,b1,id,oU 0,hG q1,hG q2,e,cx,i]
       ·have i:([n].all AN)=false:=by simp[AN,q2]
        simp only[Pzz,bu,Nat.reduceAdd,Nat.reduceSub,fS,c,c2,a9,gD w3,b1,id,oU 0,hG q1,hJ q2,e,cx,i]
      ·have i:([n].all AN)=false:=by simp[AN,q1]
       simp only[Pzz,bu,Nat.reduceAdd,Nat.reduceSub,fS,c,c2,a9,gD w3,b1,id,oU 0,hJ q1,e,cx,i]
     case dct=>obtain⟨d,e,_⟩:=a3;unfold dG at e;cases e
     case scr=>obtain⟨d,e,_⟩:=a3;unfold dG at e;cases e
     all_goals (simp only[Pzz,bu,Nat.reduceAdd,Nat.reduceSub,fS,c,c2,a9,gD w3,b1,id,oU 0];rfl)
   | [w,a,b],h=>
    have w3:=dh h w (by simp);have ia:=ih a (by lia) (dh h a (by simp));have ib:=ih b (by lia) (dh h b (by simp));rw[←d1] at ia ib;have c2:decide (((3:Nat):Int)<2)=false:=rfl;cases b3:rn w
    ·have z:cx (lq (k+1) (.tup [w,a,b]))=.non:=by rw[lq,Of,b3];rfl
     rw[z,aY,bC,mS];cases b1:oT "bit" w
     ·cases b2:oT "not" w
      ·simp only[Pzz,bu,Nat.reduceAdd,Nat.reduceSub,fS,c,c2,a9,gD w3,b1,b2,id,(ph w3).2,b3,oU 0]
      ·simp only[Pzz,bu,Nat.reduceAdd,Nat.reduceSub,fS,c,c2,a9,gD w3,b1,b2,id,(ph w3).2,b3,oU 0]
     ·cases b2:oT "not" w
      ·simp only[Pzz,bu,Nat.reduceAdd,Nat.reduceSub,fS,c,c2,a9,gD w3,b1,b2,id,(ph w3).2,b3,oU 0]
      ·simp only[Pzz,bu,Nat.reduceAdd,Nat.reduceSub,fS,c,c2,a9,gD w3,b1,b2,id,(ph w3).2,b3,oU 0]
    ·obtain⟨v,rfl,hv⟩:=GP b3;have b1:oT "bit" (.str v)=false:=by rcases hv with rfl|rfl|rfl<;>kernel_rfl
     have b2:oT "not" (.str v)=false:=by rcases hv with rfl|rfl|rfl<;>kernel_rfl
     have e:lq (k+1) (.tup [.str v,a,b])=(lq k a).bind λx=>(lq k b).map (x++·):=by
      rw[lq,Of,b3];show ((lq k a).bind λx=>((lq k b).bind λy=>some (y++[])).map (x++·)).map ([]++·)=_;cases lq k a with
      |none=>rfl
      |some x=>
       cases lq k b with
       |none=>rfl
       |some y=>show some (x++(y++[]))=some (x++y);rw[Q1]
     rw[e,DB,aY,bC,mS];have AI:=Fj (lq k a) (lq k b);rcases uH (lq k a) with ea|⟨xa,ea⟩
     ·rw[ea] at AI ia ⊢;have:i6 U.non=true:=rfl;rw[this,Bool.true_or] at AI;rcases uH (lq k b) with eb|⟨xb,eb⟩
      ·rw[eb] at AI ib ⊢;simp only[Pzz,bu,Nat.reduceAdd,Nat.reduceSub,fS,c,c2,a9,gD w3,b1,b2,id,(ph w3).2,b3,oU 0,q_,Aw (km ia) (km ib),AI]
      ·rw[eb] at AI ib ⊢;simp only[Pzz,bu,Nat.reduceAdd,Nat.reduceSub,fS,c,c2,a9,gD w3,b1,b2,id,(ph w3).2,b3,oU 0,q_,Aw (km ia) (km ib),AI]
     ·have la:=y7 (by lia) ea;rw[ea] at AI ia ⊢;rcases uH (lq k b) with eb|⟨xb,eb⟩
      ·rw[eb] at AI ib ⊢;have:(i6 (.lst xa)||i6 U.non)=true:=rfl;rw[this] at AI;simp only[Pzz,bu,Nat.reduceAdd,Nat.reduceSub,fS,c,c2,a9,gD w3,b1,b2,id,(ph w3).2,b3,oU 0,q_,Aw (km ia) (km ib),AI]
      ·have lb:=y7 (by lia) eb;rw[eb] at AI ib ⊢;have:(i6 (.lst xa)||i6 (.lst xb))=false:=rfl;rw[this] at AI;have z1:xa.length+xb.length<=QC:=(by lia)
       simp only[Pzz,bu,Nat.reduceAdd,Nat.reduceSub,fS,c,c2,a9,gD w3,b1,b2,id,(ph w3).2,b3,oU 0,q_,Aw (km ia) (km ib),AI,z1]
   |w::a::b::x::us,h=>
    have w3:=dh h w (by simp);have z:cx (lq (k+1) (.tup (w::a::b::x::us)))=.non:=rfl;have c2:decide (((us.length+4:Nat):Int)<2)=false:=hJ (by lia);rw[z,aY,bC,mS];cases b3:rn w<;>cases b1:oT "bit" w<;>cases b2:oT "not" w <;>
      simp only[Pzz,bu,Nat.reduceAdd,Nat.reduceSub,fS,c,c2,a9,gD w3,b1,b2,id,(ph w3).2,b3,oU us.length]
  all_goals (rw[aY,bC,mS];simp only[Pzz,bu,Nat.reduceAdd,Nat.reduceSub,fS,c];rfl)
theorem DC {xs:List Int}:(xs.all AN&&decide (jL xs=bw xs.length))=good xs:=by
 unfold good;rw[RV,QU,QU,decide_eq_true_iff,decide_eq_true_iff];refine⟨fun⟨a,b⟩=>⟨?_,b⟩,fun⟨a,b⟩=>⟨?_,b⟩⟩
 ·have p:=kl.mp b;apply Classical.byContradiction;intro h;have:(3:Int)∈bw xs.length:=by
   unfold bw;exact Tu.mpr ⟨3,Tq.mpr (by lia),rfl⟩
  have:=Ri.mp a 3 (p.mem_iff.mpr this);cases this
 ·have p:=kl.mp b;refine Ri.mpr λx hx=>?_;have:=p.mem_iff.mp hx;unfold bw at this;obtain⟨j,hj,rfl⟩:=Tu.mp this;have:=Tq.mp hj;unfold AN;rw[QU,decide_eq_true_iff,decide_eq_true_iff];lia
theorem IX {u:U}(h:wt u)(hl:∀xs,lq 20 u=some xs->xs.length<64):eR [u]=.ok (.bl (AD u)):=by
 have e:=Fo 20 u (by lia) h;have e:aY 24 [u,.int 1]=.ok (cx (lq 20 u)):=e;unfold AD;cases c:lq 20 u with
 |none=>
  rw[c] at e;have e:aY 24 [u,.int 1]=.ok .non:=e;simp only[Pzz,bu,Nat.reduceAdd,Nat.reduceSub,eR,ig,e];rfl
 |some xs=>
  have l:=hl xs c;rw[c] at e;show _=R.ok (U.bl (good xs));rw[←DC];unfold cx at e;dsimp only at e;cases i:xs.all AN with
  |false=>
   rw[i] at e;simp only[Pzz,bu,Nat.reduceAdd,Nat.reduceSub,eR,ig,e];rfl
  |true=>
   rw[i,hV rfl] at e;have n:not (i6 (.lst (xs.map U.int)))=true:=rfl;simp only[Pzz,bu,Nat.reduceAdd,Nat.reduceSub,eR,ig,e,n,QI,pO l,mw xs.length (by lia),j8,yR,id,Bool.true_and]
theorem uI (n:Nat):bE .O 3 (bR n)=bS n:=rfl
theorem jD:∀(F:Fm) (k:Nat),F.ok->F.dep<=k->F.bits.length<64->∃ys:List Int,bS k [F.u]=.ok (.lst (ys.map .int))/\ys.length=F.bits.length
 | .bit n,0,_,hd,_=>by unfold Fm.dep at hd;lia
 | .neg f,0,_,hd,_=>by unfold Fm.dep at hd;lia
 | .two w f g,0,_,hd,_=>by unfold Fm.dep at hd;lia
 | .bit n,k+1,_,hd,_=>by
  refine⟨[n],?_,rfl⟩;rw[bS,bR,uI];unfold Fm.u;simp only[Pzz,bu,Nat.reduceAdd,Nat.reduceSub,sX,id]
 | .neg f,k+1,ho,hd,hl=>by
  have hl:f.bits.length<64:=hl;obtain⟨ys,e,l⟩:=jD f k ho (by unfold Fm.dep at hd;lia) hl;have S:QC=16777216:=rfl;refine⟨jL ys,?_,by rw[(eP ys).length_eq];exact l⟩;have z:0+ys.length<=QC:=(by lia)
  rw[bS,bR,uI];unfold Fm.u;simp only[Pzz,bu,Nat.reduceAdd,Nat.reduceSub,sX,id,Dj,mq,e,QI,z,pO (show ys.length<64 by lia)]
 | .two w f g,k+1,ho,hd,hl=>by
  have hl:(f.bits++g.bits).length<64:=hl;rw[QE] at hl;obtain⟨ys,e,l⟩:=jD f k ho.2.1 (by unfold Fm.dep at hd;lia) (by lia);obtain⟨ws,e2,l2⟩:=jD g k ho.2.2 (by unfold Fm.dep at hd;lia) (by lia);have S:QC=16777216:=rfl;refine⟨jL (ys++ws),?_,by rw[(eP _).length_eq,QE];show _=(f.bits++g.bits).length;rw[QE];lia⟩;have z:0+ys.length<=QC:=(by lia)
  have z2:ys.length+ws.length<=QC:=(by lia)
  have so:=pO (ns:=ys++ws) (by rw[QE];lia);rw[RX] at so;rw[bS,bR,uI];unfold Fm.u;rcases ho.1 with rfl|rfl|rfl<;>simp only[Pzz,bu,Nat.reduceAdd,Nat.reduceSub,sX,id,q_,mq,e,e2,QI,z,z2,so]
theorem wy (h1:1<=n)(h3:n<=3):∃rows:List (List Int),eN [.int n]=.ok (.lst (rows.map λr=>.tup (r.map .int)))/\∀r∈rows,r.length=n/\∀x∈r,x=0\/x=1:=by
 have:n=1\/n=2\/n=3:=(by lia)
 rcases this with rfl|rfl|rfl
 ·exact⟨[[0],[1]],by kernel_rfl,(by decide)⟩
 ·exact⟨[[0,0],[1,0],[0,1],[1,1]],by kernel_rfl,(by decide)⟩
 ·exact⟨[[0,0,0],[1,0,0],[0,1,0],[1,1,0],[0,0,1],[1,0,1],[0,1,1],[1,1,1]],by kernel_rfl,(by decide)⟩
theorem rA {u:U}{n:Int}(e:aB [u]=.ok (.bl false)):aQ [.int n,u]=.ok (.str "formula"):=by
 unfold aQ;dsimp only;rw[e]
theorem wz {u z:U}(e:aB [u]=.ok (.bl true))(e2:cR [u]=.ok z):aQ [.int 1,u]=.ok .non:=by
 unfold aQ;dsimp only;rw[e];dsimp only;rw[hU (by decide),e2]
theorem DF {u:U}(h:wt u)(hl:∀xs,lq 20 u=some xs->xs.length<64):bL [u]=.ok (.bl true):=by
 have e1:=sh h;have e2:=IX h hl;cases c:AD u with
 |false=>
  rw[c] at e1 e2;have sf:(QM "formula"==QM "formula")=true:=by decide
  have r0:=rA (n:=0) e1;have r1:=rA (n:=1) e1;simp only[Pzz,bu,Nat.reduceAdd,Nat.reduceSub,bL,gQ,e1,e2,NB,r0,r1,sf,id]
 |true=>
  rw[c] at e1 e2;have c':=c;unfold AD at c;cases q:lq 20 u with
  |none=>rw[q] at c;cases c
  |some xs=>
   rw[q] at c;have c:good xs=true:=c;unfold good at c;rw[QU,decide_eq_true_iff,decide_eq_true_iff] at c;obtain⟨F,rfl,rfl,f3,f4⟩:=rq q;have lf:=uG F;have hp:yV F.bits.length F.bits:=kl.mp c.2;have hm:∀i∈F.bits,0<=i/\i<(F.bits.length:Int):=λi hi=>by
    have:=(hp.mem_iff).mp hi;unfold bw at this;obtain⟨j,hj,rfl⟩:=Tu.mp this;have:=Tq.mp hj;exact⟨(by lia),(by lia)⟩
   obtain⟨z,ez⟩:=Fe f3 hp lf c.1 (by lia) e1;have r1:=wz e1 ez;obtain⟨ys,eb,lb⟩:=jD F 30 f3 (by lia) (by lia);obtain⟨rows,er,hr⟩:=wy lf c.1;obtain⟨ρ',ef,o2,o3,rfl⟩:=gT (sg:=fh 2) (s:=iV) (us:=rows.map λr=>.tup (r.map .int)) (λ_ ρ=>∃o2 o3:Option U,ρ=[some F.u,some (.bl true),o2,o3])
    (λi v ρ hv h00=>by
     obtain⟨o2,o3,hρ⟩:=h00;subst hρ;obtain⟨r,hr1,rfl⟩:=Tu.mp (Rf hv);obtain⟨l1,l2⟩:=hr r hr1;have w1:=mQ l2 F 30 f3 (by lia) (by rw[l1];exact hm);have w2:=pM l2 F 30 f3 (by lia) (by rw[l1];exact hm);have w3:kM [F.u,.tup (r.map .int)]=.ok (.int (F.wo r)):=by
      simp only[Pzz,bu,Nat.reduceAdd,Nat.reduceSub,kM,uk,e1,w2]
     have nn:not (F.wo r==F.wo r)=false:=by simp
     refine⟨_,[some F.u,some (.bl true),some (.tup (r.map .int)),some (.int (F.wo r))],rfl,.inl ?_,_,_,rfl⟩;unfold iV;simp only[Pzz,bu,Nat.reduceAdd,Nat.reduceSub,w1,w3,nn]) (ρ:=[some F.u,some (.bl true),none,none]) ⟨none,none,rfl⟩
   have n1:i6 .non=true:=rfl;simp only[Pzz,bu,Nat.reduceAdd,Nat.reduceSub,bL,gQ,e1,e2,NB,eb,QI,lb,er,ef,r1,n1,id]
def wd (x:Str):Prop:=x="bit"\/x="not"\/x="all"\/x="any"\/x="one"\/x="BIT"\/x="NOT"\/x="ALL"\/x="ANY"\/x="ONE"
inductive Tg:Nat->U->Prop
 |non {n:Nat}:Tg n .non
 |bl {n:Nat} {b:Bool}:Tg n (.bl b)
 |int {n:Nat} {i:Int}:Tg n (.int i)
 |str {n:Nat} {x:Str} (h:wd x):Tg n (.str x)
 |tup {n:Nat} {us:List U} (h:∀x∈us,Tg n x) (hl:us.length<=n+5):Tg (n+1) (.tup us)
 |lst {n:Nat} {us:List U} (h:∀x∈us,Tg n x) (hl:us.length<=n+5):Tg (n+1) (.lst us)
theorem Tg.up {u:U}(h:Tg n u):Tg (n+1) u:=by
 induction h with
 |non=>exact .non
 |bl=>exact .bl
 |int=>exact .int
 |str h=>exact .str h
 |tup h hl ih=>exact .tup ih (by lia)
 |lst h hl ih=>exact .lst ih (by lia)
theorem uJ {B:Nat}:∀{ds:List D},(∀d∈ds,bP d<=B)->fL ds<=B
 | [],_=>by unfold fL;lia
 |d::ds,h=>by
  have h1:=h d QZ;have h2:=uJ λx hx=>h x (QW _ hx);unfold fL;lia
theorem uK {n:Nat}:∀{us:List U},(∀x∈us,∃d,dG x=some d/\bP d<=n)->∃ds,d5 us=some ds/\∀d∈ds,bP d<=n
 | [],_=>⟨[],by unfold d5;rfl,λd h=>by cases h⟩
 |u::us,h=>by
  obtain⟨d,e,l⟩:=h u QZ;obtain⟨ds,e2,l2⟩:=uK λx hx=>h x (QW _ hx);refine⟨d::ds,by unfold d5;rw[e,e2];rfl,λx hx=>?_⟩;rcases QN.mp hx with rfl|z
  ·exact l
  ·exact l2 x z
theorem Tg.dep {u:U}(h:Tg n u):∃d,dG u=some d/\bP d<=n:=by
 induction h with
 |tup h hl ih=>
  obtain⟨ds,e,l⟩:=uK ih;exact⟨.tup ds,by unfold dG;rw[e];rfl,by unfold bP;have:=uJ l;lia⟩
 |lst h hl ih=>
  obtain⟨ds,e,l⟩:=uK ih;exact⟨.lst ds,by unfold dG;rw[e];rfl,by unfold bP;have:=uJ l;lia⟩
 |_=>exact⟨_,by unfold dG;rfl,by unfold bP;lia⟩
theorem Tg.ok3 {u:U}(h:Tg n u)(hn:n<=30):wt u:=by
 obtain⟨d,e,l⟩:=h.dep;exact⟨d,e,(by lia)⟩
mutual
noncomputable def nt:U->Nat
 | .tup us=>1+jg us
 |_=>0
noncomputable def jg:List U->Nat
 | []=>0
 |u::us=>nt u+jg us
end
theorem pP:∀us ws:List U,jg (us++ws)=jg us+jg ws
 | [],ws=>by rw[SJ];unfold jg;lia
 |u::us,ws=>by
  rw[TB,jg,pP us ws,jg];lia
theorem wA:∀F:Fm,F.bits.length<=nt F.u/\nt F.u<=F.bits.length*F.dep
 | .bit n=>by simp[Fm.u,Fm.bits,Fm.dep,nt,jg]
 | .neg f=>by
  have h:=wA f;have l:=uG f;have e:nt (Fm.neg f).u=nt f.u+1:=by simp[Fm.u,nt,jg];lia
  rw[e];show f.bits.length<=_/\_<=f.bits.length*(f.dep+1);rw[Nat.mul_succ];lia
 | .two w f g=>by
  have h1:=wA f;have h2:=wA g;have l1:=uG f;have e:nt (Fm.two w f g).u=nt f.u+nt g.u+1:=by simp[Fm.u,nt,jg];lia
  rw[e];show (f.bits++g.bits).length<=_/\_<=(f.bits++g.bits).length*(max f.dep g.dep+1);have m1:f.bits.length*f.dep<=f.bits.length*max f.dep g.dep:=Nat.mul_le_mul_left _ (by lia);have m2:g.bits.length*g.dep<=g.bits.length*max f.dep g.dep:=Nat.mul_le_mul_left _ (by lia);rw[QE,Nat.mul_succ,Nat.add_mul];lia
theorem Lf {u:U}{xs:List Int}(h:lq k u=some xs):xs.length<=nt u:=by
 obtain⟨F,rfl,rfl,_,_⟩:=rq h;exact (wA F).1
theorem Nf {w:Str}(h:Dg w):wd w:=by
 rcases h with rfl|rfl|rfl
 ·exact .inr (.inr (.inl rfl))
 ·exact .inr (.inr (.inr (.inl rfl)))
 ·exact .inr (.inr (.inr (.inr (.inl rfl))))
theorem Tg.le {u:U}(h:Tg n u)(hk:n<=k):Tg k u:=by
 induction hk with
 |refl=>exact h
 |step _ ih=>exact ih.up
theorem rB:∀F:Fm,F.ok->Tg F.dep F.u
 | .bit n,_=>.tup (n:=0) (λx hx=>by
   simp only[QN,Rm,or_false] at hx;rcases hx with rfl|rfl
   ·exact .str (.inl rfl)
   ·exact .int) (by simp)
 | .neg f,h=>.tup (λx hx=>by
   simp only[QN,Rm,or_false] at hx;rcases hx with rfl|rfl
   ·exact .str (.inr (.inl rfl))
   ·exact rB f h) (by simp)
 | .two w f g,h=>.tup (λx hx=>by
   simp only[QN,Rm,or_false] at hx;rcases hx with rfl|rfl|rfl
   ·exact .str (Nf h.1)
   ·exact (rB f h.2.1).le (by lia)
   ·exact (rB g h.2.2).le (by lia)) (by simp)
theorem fD {u:U}(h:Tg n u)(hn:n<=30)(hl:nt u<64):bL [u]=.ok (.bl true):=DF (h.ok3 hn) λxs e=>by have:=Lf e;lia
theorem DH (h:wd x):∃y,ui (.str x)=.ok (.str y)/\wd y:=by
 rcases h with rfl|rfl|rfl|rfl|rfl|rfl|rfl|rfl|rfl|rfl
 ·exact⟨"BIT",by kernel_rfl,.inr (.inr (.inr (.inr (.inr (.inl rfl)))))⟩
 ·exact⟨"NOT",by kernel_rfl,.inr (.inr (.inr (.inr (.inr (.inr (.inl rfl))))))⟩
 ·exact⟨"ALL",by kernel_rfl,.inr (.inr (.inr (.inr (.inr (.inr (.inr (.inl rfl)))))))⟩
 ·exact⟨"ANY",by kernel_rfl,.inr (.inr (.inr (.inr (.inr (.inr (.inr (.inr (.inl rfl))))))))⟩
 ·exact⟨"ONE",by kernel_rfl,.inr (.inr (.inr (.inr (.inr (.inr (.inr (.inr (.inr rfl))))))))⟩
 ·exact⟨"BIT",by kernel_rfl,.inr (.inr (.inr (.inr (.inr (.inl rfl)))))⟩
 ·exact⟨"NOT",by kernel_rfl,.inr (.inr (.inr (.inr (.inr (.inr (.inl rfl))))))⟩
 ·exact⟨"ALL",by kernel_rfl,.inr (.inr (.inr (.inr (.inr (.inr (.inr (.inl rfl)))))))⟩
 ·exact⟨"ANY",by kernel_rfl,.inr (.inr (.inr (.inr (.inr (.inr (.inr (.inr (.inl rfl))))))))⟩
 ·exact⟨"ONE",by kernel_rfl,.inr (.inr (.inr (.inr (.inr (.inr (.inr (.inr (.inr rfl))))))))⟩
noncomputable def GU:List U:=[.tup [.str "bit",.int 0],.tup [.str "bit",.int 2],.tup [.str "bit",.int 3],.tup [.str "bit",.int (-1)],.tup [.str "bit",.bl true],.tup [.str "bit",.non],.non,.str "bit",.int 0]
theorem sZ {a:U}(h:Tg 0 a):Tg 1 (.tup [.str "bit",a]):=.tup (λx hx=>by
 simp only[QN,Rm,or_false] at hx;rcases hx with rfl|rfl
 ·exact .str (.inl rfl)
 ·exact h) (by simp)
theorem IY {t:Int}(h0:0<=t)(h1:t<9):∃o,jI GU t=some o/\Tg 1 o/\nt o<=1:=by
 have:t=0\/t=1\/t=2\/t=3\/t=4\/t=5\/t=6\/t=7\/t=8:=(by lia)
 rcases this with rfl|rfl|rfl|rfl|rfl|rfl|rfl|rfl|rfl
 ·exact⟨_,rfl,sZ .int,by simp[nt,jg]⟩
 ·exact⟨_,rfl,sZ .int,by simp[nt,jg]⟩
 ·exact⟨_,rfl,sZ .int,by simp[nt,jg]⟩
 ·exact⟨_,rfl,sZ .int,by simp[nt,jg]⟩
 ·exact⟨_,rfl,sZ .bl,by simp[nt,jg]⟩
 ·exact⟨_,rfl,sZ .non,by simp[nt,jg]⟩
 ·exact⟨_,rfl,.non,by simp[nt]⟩
 ·exact⟨_,rfl,.str (.inl rfl),by simp[nt]⟩
 ·exact⟨_,rfl,.int,by simp[nt]⟩
theorem y8 (h:wt (.tup us)):jV (.tup us) (.tup [])=.ok us.isEmpty:=by
 obtain⟨d,e,l⟩:=h;unfold jV;have e2:dG (.tup [])=some (.tup []):=by unfold dG d5;rfl
 rw[e,e2];dsimp only;rw[hV l];unfold dG at e;obtain⟨ds,e3,rfl⟩:=Ro.mp e;unfold fk;cases us with
 |nil=>
  unfold d5 at e3;cases e3;rfl
 |cons u us=>
  cases ds with
  |nil=>
   unfold d5 at e3;cases q:dG u with
   |none=>rw[q] at e3;cases e3
   |some d1=>
    cases q2:d5 us with
    |none=>rw[q,q2] at e3;cases e3
    |some d2=>rw[q,q2] at e3;cases e3
  |cons=>rfl
theorem IZ {a:U}:gu (us++[a]) none (some (-1))=us:=by
 have l:(us++[a]).length=us.length+1:=by simp
 have e:HT.sIx (us++[a]).length (us++[a]).length (some (-1))=us.length:=by
  rw[l];unfold HT.sIx;dsimp only;rw[hV (by decide)];lia
 unfold gu;rw[HT.sIx_none,e,Sn,Nat.sub_zero,List.take_left]
theorem Lg {b:U}:jI (us++[b]) (-1)=some b:=by
 have l:(us++[b]).length=us.length+1:=by simp
 have e:tG (us++[b]).length (-1)=some us.length:=by
  unfold tG;rw[l,hU (by decide),hV (by lia)];congr 1;lia
 unfold jI;rw[e];show (us++[b])[us.length]? = _;rw[RA (by lia),Nat.sub_self];rfl
theorem uL (n:Nat):qm 6 (cJ n)=bB n:=rfl
theorem Tg.mem (h:Tg (n+1) (.tup us)):(∀x∈us,Tg n x)/\us.length<=n+5:=by
 cases h with
 |tup h hl=>exact⟨h,hl⟩
theorem AE {s u:U}(hs:xP s)(h3:wt u)(h:∀w r,u≠.tup (.str w::r)):bB (k+1) [s,u]=.ok (.non,s):=by
 rw[bB,cJ];cases u
 case dct=>obtain⟨d,e,_⟩:=h3;unfold dG at e;cases e
 case scr=>obtain⟨d,e,_⟩:=h3;unfold dG at e;cases e
 case tup us=>
  have en:=y8 h3;cases us with
  |nil=>
   have e0:(([]:List U).isEmpty)=true:=rfl;rw[e0] at en;simp only[Pzz,bu,Nat.reduceAdd,Nat.reduceSub,en,id]
  |cons x r=>
   have e0:((x::r).isEmpty)=false:=rfl;rw[e0] at en;cases x
   case str w=>exact absurd rfl (h w r)
   case dct=>obtain⟨d,e,_⟩:=dh h3 _ QZ;unfold dG at e;cases e
   case scr=>obtain⟨d,e,_⟩:=dh h3 _ QZ;unfold dG at e;cases e
   all_goals simp only[Pzz,bu,Nat.reduceAdd,Nat.reduceSub,en,id]
 all_goals simp only[Pzz,bu,Nat.reduceAdd,Nat.reduceSub,id]
theorem mT:∀(k n:Nat) (u s:U),n<k->n<=28->Tg n u->xP s->∃v s',bB k [s,u]=.ok (v,s')/\Tg (n+1) v/\nt v<=nt u+1/\xP s'
 |0,n,u,s,hk,_,_,_=>by lia
 |k+1,n,u,s,hk,hn,h,hs=>by
  have h3:=h.ok3 (by lia);by_cases c:∃w r,u=.tup (.str w::r)
  ·obtain⟨w,r,rfl⟩:=c;obtain⟨n,rfl⟩:∃m,n=m+1:=by cases h with|tup h hl=>exact⟨_,rfl⟩
   obtain⟨hm,hl⟩:=h.mem;obtain⟨t1,s1,e1,a1,b1,hs1⟩:=iO (m:=9) hs (by decide) (by decide);obtain⟨t2,s2,e2,a2,b2,cv⟩:=iO (m:=9) hs1 (by decide) (by decide);obtain⟨o,eo,ho,no⟩:=IY a2 b2;obtain⟨l,z,hus⟩:∃l z,U.str w::r=l++[z]:=by
    rcases List.eq_nil_or_concat (U.str w::r) with e|⟨l,z,e⟩
    ·cases e
    ·exact⟨l,z,by rw[e];simp⟩
   have en:=y8 h3;rw[show ((U.str w::r).isEmpty)=false from rfl] at en;have hw:wd w:=by cases hm _ QZ with|str h=>exact h
   obtain⟨y,ey,hy⟩:=DH hw;have c1:gu (U.str w::r) none (some (-1))=l:=by rw[hus];exact IZ
   have c2:gu (U.str w::r) none (some 1)=[.str w]:=wj _ 1;have c3:gu (U.str w::r) (some 2) none=r.drop 1:=qV _ 2;have al:jI (U.str w::r) (-1)=some z:=by rw[hus];exact Lg
   have S:QC=16777216:=rfl;rw[QL] at hl;have ll:l.length=r.length:=by
    have:=congrArg List.length hus;rw[QL,QE,SE] at this;lia
   have z9:9<=QC:=(by lia)
   have z1:r.length+1+1<=QC:=(by lia)
   have z2:1+r.length<=QC:=(by lia)
   have z3:2+(r.drop 1).length<=QC:=by rw[Sj];lia
   have z4:l.length+1<=QC:=(by lia)
   have OG:∀x∈l,Tg n x:=λx hx=>hm x (by rw[hus];exact Rc _ hx);have hz:Tg n z:=hm z (by rw[hus];exact QQ _ (Rq.mpr rfl));have hr:∀x∈r,Tg n x:=λx hx=>hm x (QW _ hx);have wI:Tg (n+1) o:=ho.le (by lia);have nu:nt (.tup (.str w::r))=1+jg r:=by simp[nt,jg]
   have nl:jg l+nt z=jg r:=by
    have:=congrArg jg hus;rw[pP] at this;simp[nt,jg] at this;lia
   unfold GU at eo;have Ql:t1<6->∃v,jI [.lst (.str w::r),.tup (.str w::(r++[o])),.tup l,.tup (.str y::r),.tup (o::r),o] t1=some v/\Tg (n+2) v/\nt v<=1+jg r+1:=by
    intro uX;have:t1=0\/t1=1\/t1=2\/t1=3\/t1=4\/t1=5:=(by lia)
    rcases this with rfl|rfl|rfl|rfl|rfl|rfl
    ·exact⟨_,rfl,(Tg.lst hm (by rw[QL];lia)).up,by simp[nt]⟩
    ·refine⟨_,rfl,.tup (λx hx=>?_) (by simp;lia),by simp[nt,jg,pP];lia⟩;rcases QN.mp hx with rfl|hx
     ·exact .str hw
     ·rcases Sw.mp hx with hx|hx
      ·exact (hr x hx).up
      ·rw[Rq.mp hx];exact wI
    ·exact⟨_,rfl,(Tg.tup OG (by lia)).up,by simp[nt];lia⟩
    ·refine⟨_,rfl,.tup (λx hx=>?_) (by simp;lia),by simp[nt,jg]⟩;rcases QN.mp hx with rfl|hx
     ·exact .str hy
     ·exact (hr x hx).up
    ·refine⟨_,rfl,.tup (λx hx=>?_) (by simp;lia),by simp[nt,jg];lia⟩;rcases QN.mp hx with rfl|hx
     ·exact wI
     ·exact (hr x hx).up
    ·exact⟨_,rfl,wI.up,(by lia)⟩
   by_cases q1:t1<6
   ·obtain⟨v,ev,tv,nv⟩:=Ql q1;refine⟨v,s2,?_,tv,(by lia),cv⟩;rw[bB,cJ,uL];simp only[Pzz,bu,Nat.reduceAdd,Nat.reduceSub,en,id,e1,e2,eo,rl,c1,ey,z9,z1,z2,hG q1,ev]
   ·cases q2:(w==QM "bit"||t1==6) with
    |true=>
     refine⟨.tup ([.str w]++[o]++r.drop 1),s2,?_,?_,?_,cv⟩
     ·rw[bB,cJ,uL];rw[SG] at q2;cases q3:(w==QM "bit") with
      |true=>simp only[Pzz,bu,Nat.reduceAdd,Nat.reduceSub,en,id,e1,e2,eo,rl,c1,c2,c3,ey,z9,z1,z2,z3,hJ q1,kL,q3]
      |false=>
       have q4:(t1==6)=true:=q2.resolve_left (by rw[q3];decide);simp only[Pzz,bu,Nat.reduceAdd,Nat.reduceSub,en,id,e1,e2,eo,rl,c1,c2,c3,ey,z9,z1,z2,z3,hJ q1,kL,a9,q3,q4]
     ·refine .tup (λx hx=>?_) (by simp;lia);have hx:x∈.str w::o::r.drop 1:=hx;rcases QN.mp hx with rfl|hx
      ·exact .str hw
      ·rcases QN.mp hx with rfl|hx
       ·exact wI
       ·exact (hr x (List.mem_of_mem_drop hx)).up
     ·have:jg (r.drop 1)<=jg r:=by
       cases r with
       |nil=>exact QJ _
       |cons a r=>show jg r<=nt a+jg r;lia
      have e:nt (.tup ([.str w]++[o]++r.drop 1))=1+(nt o+jg (r.drop 1)):=by simp[nt,jg]
      lia
    |false=>
     rw[Rg] at q2;obtain⟨v,s3,e3,tv,nv,hs3⟩:=mT k n z s2 (by lia) (by lia) hz cv;refine⟨.tup (l++[v]),s3,?_,?_,?_,hs3⟩
     ·rw[bB,cJ,uL];simp only[Pzz,bu,Nat.reduceAdd,Nat.reduceSub,en,id,e1,e2,eo,rl,c1,c2,c3,al,ey,z9,z1,z2,z3,z4,hJ q1,kL,a9,q2.1,q2.2,e3]
     ·refine .tup (λx hx=>?_) (by simp;lia);rcases Sw.mp hx with hx|hx
      ·exact (OG x hx).up
      ·rw[Rq.mp hx];exact tv
     ·have e:nt (.tup (l++[v]))=1+(jg l+nt v):=by simp[nt,jg,pP]
      lia
  ·refine⟨.non,s,AE hs h3 λw r e=>c ⟨w,r,e⟩,.non,by unfold nt;lia,hs⟩
noncomputable def Og (p:U->U->R U)(y:U×Ev)(o:Option (Option U)):R (U×Ev):=match o with
 |some (some u)=>(p u y.1).bind λz=>.ok (z,y.2)
 |_=>.stk
theorem Lh {g:Ev->R (U×Ev)}:E4 j p g ρ=if yz ρ[j]? = true then (g ρ).bind λy=>Og p y y.2[j]? else .stk:=nr rfl
theorem Li {y:U×Ev}{u:U}:Og p y (some (some u))=(p u y.1).bind λz=>.ok (z,y.2):=nr rfl
theorem Lj:zP (.lst us) (.lst ws)=if us.length+ws.length<=QC then .ok (.lst (us++ws)) else .stk:=nr rfl
noncomputable def Ng:Ev->SR:=a_ 0 (a4 (ae (gC (.str "not")) (ae (ag 0) ak)))
theorem pQ {F:Fm}(hn:n<=1000):cg [F.u,.int n]=.ok (cz n F).u:=by
 obtain⟨ρ',e,o,rfl⟩:=gT (sg:=fh 2) (s:=Ng) (us:=b6 0 n) (λi ρ=>∃o:Option U,ρ=[some (cz i F).u,some (.int n),o])
  (λi v ρ hv h00=>by
   obtain⟨o,hρ⟩:=h00;subst hρ;refine⟨_,_,rfl,.inl (by
    unfold Ng;simp only[Pzz,bu,Nat.reduceAdd,Nat.reduceSub,Th,Tf];rfl),some v,rfl⟩) (ρ:=[some F.u,some (.int n),none]) ⟨none,rfl⟩
 rw[fQ] at e;unfold Ng at e;simp only[Pzz,bu,Nat.reduceAdd,Nat.reduceSub,cg,kf,ue n (by lia),e]
theorem DJ {f:U->R (Option U)}:∀{us:List U},(∀u∈us,f u=.ok none)->md f us=.ok []
 | [],_=>rfl
 |u::us,h=>by
  unfold md;rw[h u QZ,DJ λv hv=>h v (QW _ hv)];rfl
theorem uM {F:Fm}(ho:F.ok)(hd:F.dep+n<=30)(hl:nt F.u+n<64):bL [(cz n F).u]=.ok (.bl true):=by
 obtain⟨_,e2,e3⟩:=qX n F;have nn:∀m,nt (cz m F).u=nt F.u+m:=by
  intro m
  induction m with
  |zero=>rfl
  |succ m ih=>
   have e:nt (cz (m+1) F).u=nt (cz m F).u+1:=by
    show nt (Fm.neg (cz m F)).u=_;simp[Fm.u,nt,jg];lia
   lia
 exact fD (rB _ (e3 ho)) (by lia) (by rw[nn];lia)
theorem Lk {x2 x3 x4:Option U}:∃y2 y3 y4:Option U,uq [some (.scr (ns.map .int)),some (.int i),x2,x3,x4]=.nx [some (.scr (ns.map .int)),some (.int i),y2,y3,y4]:=by
 have S:QC=16777216:=rfl;obtain⟨s1,e1,hs1⟩:=Dd (us:=[]) (ns:=ns) (u:=.scr (ns.map .int)) (k:=i) (.inl rfl) (by lia);obtain⟨F,s2,n,e2,f2,f3,f4,f5,f6,cv⟩:=E8 hs1;have lF:F.bits.length=n:=by have:=f3.length_eq;rwa [df] at this
 have nF:nt F.u<=27:=by
  have:=(wA F).2;have m1:F.bits.length*F.dep<=3*9:=Nat.mul_le_mul (by lia) f6;lia
 have tF:=(rB F f2).le f6;obtain⟨v1,s3,e3,t3,n3,hs3⟩:=mT 20 9 F.u s2 (by lia) (by lia) tF cv;obtain⟨v2,s4,e4,t4,n4,hs4⟩:=mT 20 9 F.u s3 (by lia) (by lia) tF hs3;have tN:Tg 10 (Fm.neg F).u:=(rB (.neg F) f2).le (by show F.dep+1<=_;lia);have nN:nt (Fm.neg F).u=nt F.u+1:=by simp[Fm.u,nt,jg];lia
 obtain⟨v3,s5,e5,t5,n5,hs5⟩:=mT 20 10 (Fm.neg F).u s4 (by lia) (by lia) tN hs4;obtain⟨v4,s6,e6,t6,n6,hs6⟩:=mT 20 11 v3 s5 (by lia) (by lia) t5 hs5;obtain⟨q,s7,e7,a7,b7,hs7⟩:=iO (m:=6) hs6 (by decide) (by decide);obtain⟨d,hd⟩:∃d:Nat,15+q=d:=⟨(15+q).toNat,(by lia)⟩;have d1:=pQ (F:=F) (n:=d) (by lia);have d2:=pQ (F:=.bit 0) (n:=18) (by lia);have d3:=pQ (F:=.bit 0) (n:=19) (by lia);have d4:=pQ (F:=.bit 0) (n:=20) (by lia);have nb:nt (Fm.bit 0).u=1:=by simp[Fm.u,nt,jg]
 have r1:=fD tF (by lia) (by lia);have r2:=fD t3 (by lia) (by lia);have r3:=fD t4 (by lia) (by lia);have r4:=fD t6 (by lia) (by lia);have r5:=uM (F:=F) (n:=d) f2 (by lia) (by lia);have r6:=uM (F:=.bit 0) (n:=18) True.intro (by show 1+18<=30;lia) (by lia);have r7:=uM (F:=.bit 0) (n:=19) True.intro (by show 1+19<=30;lia) (by lia);have r8:=uM (F:=.bit 0) (n:=20) True.intro (by show 1+20<=30;lia) (by lia);have r9:=fD (n:=0) (u:=.non) .non (by lia) (by simp[nt]);have Qm:=fD (n:=0) (u:=.int 7) .int (by lia) (by simp[nt]);have Qn:=fD (rB (.two "all" F F) ⟨.inl rfl,f2,f2⟩) (by show max F.dep F.dep+1<=30;lia) (by
  have:nt (Fm.two "all" F F).u=nt F.u+nt F.u+1:=by simp[Fm.u,nt,jg];lia
  lia)
 have Qo:=fD (n:=1) (u:=.tup []) (.tup (λx hx=>by cases hx) (by simp)) (by lia) (by simp[nt,jg]);have lc:∀ρ:Ev,md (zO [none] (fh 0) (jT (gB (dz 1 bL (ae (ag 0) ak)))) (ag 0) ρ) [F.u,v1,v2,v4,(cz d F).u,(cz 18 (.bit 0)).u,.non,.int 7,(cz 19 (.bit 0)).u,(cz 20 (.bit 0)).u,(Fm.two "all" F F).u,.tup []]=.ok []:=λρ=>by
  refine DJ λu hu=>?_;have e:bL [u]=.ok (.bl true):=by
   simp only[QN,Rm,or_false] at hu;rcases hu with h|h|h|h|h|h|h|h|h|h|h|h
   all_goals rw[h]
   ·exact r1
   ·exact r2
   ·exact r3
   ·exact r4
   ·exact r5
   ·exact r6
   ·exact r9
   ·exact Qm
   ·exact r7
   ·exact r8
   ·exact Qn
   ·exact Qo
  simp only[Pzz,bu,Nat.reduceAdd,Nat.reduceSub,e]
 have en:jV (.lst []) (.lst [])=.ok true:=IA λu hu=>by cases hu
 refine⟨some s7,some F.u,some (.lst [F.u,v1,v2,v4,(cz d F).u,(cz 18 (.bit 0)).u,.non,.int 7,(cz 19 (.bit 0)).u,(cz 20 (.bit 0)).u,(Fm.two "all" F F).u,.tup []]),?_⟩;have e5:bB 20 [s4,.tup [.str "not",F.u]]=.ok (v3,s5):=e5;have d2:cg [.tup [.str "bit",.int 0],.int 18]=.ok (cz 18 (.bit 0)).u:=d2;have d3:cg [.tup [.str "bit",.int 0],.int 19]=.ok (cz 19 (.bit 0)).u:=d3;have d4:cg [.tup [.str "bit",.int 0],.int 20]=.ok (cz 20 (.bit 0)).u:=d4;have lc:∀ρ:Ev,md (zO [none] (fh 0) (jT (gB (dz 1 bL (ae (ag 0) ak)))) (ag 0) ρ) [F.u,v1,v2,v4,(cz d F).u,(cz 18 (.bit 0)).u,.non,.int 7,(cz 19 (.bit 0)).u,(cz 20 (.bit 0)).u,.tup [.str "all",F.u,F.u],.tup []]=.ok []:=lc;show _=SR.nx [some (.scr (ns.map .int)),some (.int i),some s7,some F.u,some (.lst [F.u,v1,v2,v4,(cz d F).u,(cz 18 (.bit 0)).u,.non,.int 7,(cz 19 (.bit 0)).u,(cz 20 (.bit 0)).u,.tup [.str "all",F.u,F.u],.tup []])];have z3:3<QC:=(by lia)
 have z8:8<=QC:=(by lia)
 have Qp:12<=QC:=(by lia)
 generalize (cz 18 (.bit 0)).u=w18 at *;generalize (cz 19 (.bit 0)).u=w19 at *;generalize (cz 20 (.bit 0)).u=w20 at *;generalize (cz d F).u=wd at *;unfold uq;simp only[Pzz,bu,Nat.reduceAdd,Nat.reduceSub,e1,e2,e3,e4,e5,e6,e7,hd,d1,d2,d3,d4,xR,z3,Lh,Li,Lj,z8,Qp,lc,en]
theorem AF {z:Nat}{u:U}(h:(b6 0 z)[i]? = some u):u=.int i:=by
 have hi:i<z:=by
  rcases Nat.lt_or_ge i z with y|y
  ·exact y
  ·rw[Sa.mpr (by rw[fQ];exact y)] at h;cases h
 rw[j8] at h;unfold bw at h;rw[Uc,QV,List.getElem?_range hi] at h;cases h;rfl
theorem pure_law (ns:List Int)(hl:ns.length<=63):vO [.scr (ns.map .int)]=.ok (.bl true):=by
 obtain⟨z,hz⟩:∃z:Nat,(if (if (4:Int)<(((ns.map U.int).length:Nat):Int) then 4 else (((ns.map U.int).length:Nat):Int))>1 then (if (4:Int)<(((ns.map U.int).length:Nat):Int) then 4 else (((ns.map U.int).length:Nat):Int)) else 1)=z:=⟨(if (if (4:Int)<(((ns.map U.int).length:Nat):Int) then 4 else (((ns.map U.int).length:Nat):Int))>1 then (if (4:Int)<(((ns.map U.int).length:Nat):Int) then 4 else (((ns.map U.int).length:Nat):Int)) else 1).toNat,by split<;>(try split)<;>lia⟩;have zb:z<=1000:=by split at hz<;>(try split at hz)<;>lia
 obtain⟨ρ',e,a,b,c,d,rfl⟩:=gT (us:=b6 0 z) (sg:=fh 1) (s:=uq) (λ_ ρ=>∃a b c d:Option U,ρ=[some (.scr (ns.map .int)),a,b,c,d])
  (λi u ρ hu h00=>by
   obtain⟨a,b,c,d,hr⟩:=h00;subst hr;obtain rfl:=AF hu;obtain⟨a1,b1,c1,q⟩:=Lk (ns:=ns) (i:=i) (x2:=b) (x3:=c) (x4:=d);exact⟨_,_,rfl,.inl q,_,_,_,_,rfl⟩)
  (ρ:=[some (.scr (ns.map .int)),none,none,none,none]) ⟨_,_,_,_,rfl⟩
 simp only[Pzz,bu,Nat.reduceAdd,Nat.reduceSub,vO,C7,hz,ue z (by lia),e]
theorem walk {q:RF}{d:DefRec}{K:Params->QB}(Lp:d.params.defaults=[])(hY:∀(w:Rx) (h:S2),YP w h->(K w.params).In h)(F:∀(w:Rx) (mg:Str->Option QG) (fa:QX) (h:S2),(K w.params).In h->h.Ns QT mg->mg d.name=some (.ref fa)->
   ∃fd:Sq,(∀(s:QP) (u:QG),BindsTo s fd ⟨[u],[]⟩ [("script",u)])/\∀base:S2,(K w.params).In base->base.Ns QT mg->iZ PySem.Challenge.rw_hushcards_k55_formulas_known.prog w (K w.params) mg base tM 36 fa fd ["script"] (vn (K w.params))) :
  PySem.W.WalkO q loose XP YP PySem.Challenge.rw_hushcards_k55_formulas_known.row.toRowW d [] (λf vs=>PySem.call f vs):=
 L2.walk_of (l:=PySem.Challenge.rw_hushcards_k55_formulas_known) (n:=63) (k:=36) (x:="script") (CX:=λ_=>tM) (sp:=λw=>vn (K w.params)) rfl (by decide) Lp ⟨rfl,(by decide),(by decide)⟩ hY F (λ_ _ a ns hl hO hS=>⟨a,ns,rfl,Ib hO hS,hl,λ_=>rfl⟩) λ_ _ _ _ _ z=>z
end Hc
open PySem PySem.W PyProof.Rows
set_option maxRecDepth 100000 in
set_option maxHeartbeats 0 in
theorem PySem.Challenge.cw_hushcards_k55_formulas_known_holds : PySem.Challenge.rw_hushcards_k55_formulas_known.Holds := by
 w_on
 refine PySem.W.holds_law (by decide+kernel) λNO=>?_;refine' PySem.W.holds_open Hc.left (PySem.W.Hook.of _) (PySem.W.Hook.keeps _) (XP:=PySem.W.XL Hc.vw [])
  (λs e=>PySem.W.xl_of s (Bool.and_eq_true_iff.mp e).1) PySem.W.XL.keeps ?d ?t ?k
  (λs e=>PySem.W.recFacts_of (Bool.and_eq_true_iff.mp e).2) ?w NO ?g ⟨rfl,rfl,rfl,rfl,rfl,by decide+kernel⟩ ?hw ?hc
 case d=>rfl
 case t=>rfl
 case k=>rfl
 case w=>rfl
 case g=>decide+kernel
 case hw=>w_witness2
 show PySem.W.WalkO Hc.vw [] (PySem.W.XL Hc.vw []) (PySem.W.InK Hc.Kf) _ _ _ _
 k_fill
 refine Hc.walk rfl (λw h Y=>Y) ?F
 case F=>
  intro w mg fa h KX G Lq;refine' Hc.all_mk KX G Lq ?_ ?_ ?_ ?_ ?_ ?_ ?_ ?_ ?_ ?_ ?_ ?_ ?_ ?_ ?_ ?_ ?_ ?_ ?_ ?_ ?_ ?_ ?_ ?_ ?_ ?_ ?_ ?_ ?_ ?_ ?_ ?_ ?_ ?_ ?_ ?_ ?_ ?_ ?_ ?_ ?_ ?_ ?_ ?_ ?_ ?_ ?_ ?_ ?_ ?_ ?_ ?_ ?_ ?rG ?uR ?uS ?iQ ?nY ?rH ?nZ ?kC ?DY ?Ju ?Jv ?Jw ?Jx ?Jy ?Fw ?Jz ?xU ?JA ?DZ ?rJ ?uT ?uU ?kD ?n8 ?rK ?n9 Hc.pure_law
  (case rG=>k_is)
  (case uR=>k_is)
  (case uS=>k_is)
  (case iQ=>k_is)
  (case nY=>k_is)
  (case rH=>k_is)
  (case nZ=>k_is)
  (case kC=>k_is)
  (case DY=>k_exc)
  (case Ju=>k_is)
  (case Jv=>k_is)
  (case Jw=>k_is)
  (case Jx=>k_is)
  (case Jy=>k_is)
  (case Fw=>k_is)
  (case Jz=>k_is)
  (case xU=>kts_exm)
  (case JA=>kit_is)
  (case DZ=>k_is)
  (case rJ=>kit_is)
  (case uT=>kit_is)
  (case uU=>kit_is)
  (case kD=>kit_is)
  (case n8=>kit_is)
  (case rK=>kit_is)
  (case n9=>kit_is)
  all_goals first|k_is|exact .mk (by k_is) (by k_is) (by k_is) (by k_is)|skip