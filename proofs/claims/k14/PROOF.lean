import PyProof.Rows.All
import Wide.All
import OpenK.AllK
import Wide.FinOn
import Lean
import PyProof.EqAt
import PyProof.EqKinds
import PyProof.TupleCall
import PyProof.NeKinds
import PyProof.TupleKey
import PyProof.DictRoadsH
import PyProof.Rows.SetFrom
import PyProof.WalksMore
import PyProof.SetRoads
import PyProof.ListMulRoad
import PyProof.FactsAll.subtypes_4
import PyProof.Rows.ListMulArg
import PyProof.ZipIter
import KE.KTryMore
import PyProof.Rows.TopTwo
import PyProof.NsDelKeeps
import KE.RegKTryMore
import KE.RegKIsAll
import PyProof.DictItems
import PyProof.DictValues
import PyProof.DictWalks
import PyProof.FactsAll.dict_itemiterator
import PyProof.Rows.SortRuns
import PyProof.Rows.SortKey
import PyProof.Rows.SortShell
import PyProof.Rows.SortWalk
import KE.KSortTup
import KE.KDictList
import PyProof.AttrMissHeap
import KE.KDictOf
import PyProof.AutoListH
import PyProof.SumWalk
import PyProof.WalkInts
import PySem.Challenge.RW_hushcards_k14_closed_and_spanned
abbrev hG:=@decide_eq_true
abbrev hJ:=@decide_eq_false
abbrev hV.{u}:=@if_neg.{u}
abbrev hZ.{u}:=@if_pos.{u}
set_option Elab.async false
set_option linter.all false
set_option maxRecDepth 100000
set_option maxHeartbeats 4000000
open PySem renaming wpAny_bind->V3,wpAny_pure->V8,sizeLine->Wa,Value->Wd,starEach->Wm,Shared->Wr,wpAny->Wv,Addr->Ww,model->WI,mainGlobals->WL,wpAny_newObj_type->WR,Around->W2,mem_of_lookup->W3,bootBuiltins->W6,wpAny_callSpecial?_slot->W_,wpAny_call_entry->Xe,wpAny_mono->Xg,wpAny_holding->Xp,World->Xt,cLine->XG,sysModules->XM,compareOp->XN,wpAny_field->X0,Expr->X4,foldedSetIterable->Yf,sizeLine_eq->Yg,wpAny_seqItems->Yk,backTo->Yp,wpAny_typeNameOfWhole_keyiter->Yu,wpAny_typeNameOfWhole_valiter->Yv,wpAny_dictEntries->YB,Program->YG,wpAny_rule->YI,wpAny_setField_rec->YM,wpAny_attempt->YN,eval->YX,wpAny_truthy_bool->YY,wpAny_passesOwn->YZ,codeAny_builtin->Y2,wpAny_typeNameOf_keyiter->Y3,wpAny_typeNameOf_valiter->Y4,Heap->Y5,assignEach->Y9,call_meets->Y_,binaryOp->Zf,wpAny_Call_Name_kw->Zg,tupleKind_room_in1->Zh,wpAny_dictEpoch->Zr,FuncData->Zu,behindInMarks->Zw,attributeBase->Zy,IsPair->ZE,Paired->ZI,wpAny_setField->ZL,firstArgMember->ZM,codeAny_mono->ZX,wpAny_execs_nil->Z3,swapsWith->Z4,rawInt->aag,wpAny_pyIter_list->aak,sliceBounds->aao,wpAny_typeOf->aaB,wpAny_notOrdered_dict->aaE,wpAny_isOneOf_valiter->aaG,wpAny_isInstance->aaJ,pyNext->aaN,wpAny_updateSeq_pair->aaQ,codeAny_call_builtin->aaR,wpAny_standAt->aaS,strLen_append->aaU,Stmt->aaX,letOwnedTupleGo->aaY,start->aa0,getItem->aa1,wpAny_specialOf->aa4,unsupported->aa6,wpAny_of_eq->aa8,Scope->abz,recursionLimit->abC,codeAny->abD,Keyword->abE,wpAny_fieldsOf->abG,DictEntry->abJ,seqIndex?->abN,wpAny_collect_seq->abQ,NameKind->abY,PassesOwn->ab0
open List renaming getElem?_eq_getElem->V4,length_map->V6,length_append->V9,map_cons->V_,size_toArray->Wb,getElem?_eq_some_iff->We,mem_cons_of_mem->Wh,mem_cons_self->Wi,length_cons->Wl,mem_cons->Wn,getElem?_map->Wu,length_take->Wx,append_assoc->Wz,mem_append->WE,map_map->WG,map_append->WH,mem_append_right->WJ,mem_singleton->WK,eq_nil_of_length_eq_zero->WM,append_nil->WN,replicate->WO,getElem?_set_ne->WQ,all_eq_true->WT,getElem_mem->WU,getD_eq_getElem?_getD->WW,mem_map->WY,flatten_cons->W4,set_cons_zero->W7,mem_map_of_mem->W8,length_drop->W9,range->Xf,take_append_drop->Xh,set_cons_succ->Xk,map_congr_left->Xm,mem_of_getElem?->Xq,mem_of_mem_take->Xr,length_singleton->Xu,perm_append_comm->Xv,getElem?_append_right->Xw,length_range->Xy,getElem?_eq_none_iff->Xz,take_succ_eq_append_getElem->XD,length_set->XI,getElem?_append_left->XS,find?_cons->XU,nil_append->X7,getElem?_cons_succ->X8,pairwise_cons->X9,foldl_cons->Ya,mem_append_left->Yc,lookup_cons->Yd,take_of_length_le->Ye,all_cons->Yj,drop_eq_getElem_cons->Yl,map_nil->Ym,mem_nil_iff->Ys,mem_iff_getElem->Yx,mem_of_mem_drop->Yy,replicate_succ->YC,flatten_append->YE,map_eq_nil_iff->YF,take_length->YK,nodup_nil->YV,extract_eq_take_drop->YW,nodup_cons->Y0,length_zipWith->Y7,map_take->Y8,getElem?_set_self->Za,zipWith_cons_cons->Zc,drop_eq_nil_of_le->Ze,length_replicate->Zj,zipWith->Zo,getElem?_eq_none->Zs,sum_cons->ZC,pairwise_iff_getElem->ZO,cons_append->ZP,drop_length->ZQ,filterMap_cons->ZS,reverse_append->ZT,getElem?_range->ZU,getElem?_replicate->Z6,length_nil->Z9,forIn_cons->aaa,pairwise_singleton->aab,getElem?_take->aad,length->aan,eraseIdxIfInBounds_toArray->aap,ext_getElem?->aar,nodup_append->aas,getElem_take->aau,drop_zero->aaz,all_map->aaC,any_eq_true->aaK,not_mem_nil->aaM,of_mem_zip->aaZ,length_pos_iff->aba,exists_cons_of_ne_nil->abh,mem_filterMap->abn,getElem?_drop->abx,mem_range->abA,drop_drop->abI,getElem?_take_of_lt->abM,pairwise_map->abT,foldl_append->abU
open Bool renaming false_ne_true->V5,and_eq_true->Wt,false_eq_true->Xj,eq_iff_iff->Xl,not_true->Xo,not_false->XZ,or_eq_true->Zn,eq_false_iff->Zz,or_eq_false_iff->ZF,true_and->aae,false_and->aaw,and_false->aay,not_eq_true'->abS
open PySem.Heap renaming get?_push_of_some->V7,get?_push_size->Wj,lt_size->Wq,size_push->YT,get?_update_self->Zk,SameBut->ZV
open PySem.W renaming Frag->Wc,nsIn->Xc,mg_none_of->Xd,kia_one->XF,fnOf->XH,keepIn->XR,kitOne->X5,mg_of->Yb,kia_tup->Yn,findIn->YR,cellsFrom_some->aah,kitx_list->aal,kitx_dict->aam,codeIn->aax,callWith_K->abp,kitAny->abF,methodObj->abK,specialIn->abL
open Nat renaming le_refl->Wf,ne_of_lt->WA,le_trans->WD,lt_of_lt_of_le->WV,min_eq_left->XX,add_sub_cancel_left->X_,zero_le->Yi,le_add_right->Yt,lt_irrefl->Yz,add_assoc->Y6,zero_add->Zm,ne_of_gt->ZW,lt_succ_of_lt->aaq,gcd->aav,add_le_add->aaA,lt_or_ge->aaH,le_of_lt->abk,min_self->abu,add_zero->aby,gcd_zero_left->abX
open Array renaming length_toList->Wg,getElem?_toList->WX,toList_append->Xn,getElem?_eq_getElem->YU,getElem?_eq_none->Zd,toList_push->ZA,toList_extract->ZG,toList_reverse->ZH,toList_setIfInBounds->abf,perm_iff_toList_perm->abg
open PyProof.Rows renaming wpS_bind->Ws,wpS_pure->Wy,Keyed->WB,SortSt->WC,pendingOf->WZ,arrOf->W5,kindOf->XB,wpS_forRange->XJ,slot_tuple_getitem->Yh,envOfC->Yq,wpS_mono->YO,callWith_type1->Zi,failedOf->ZR,wpS_modify->Z0,SortKind->aac,reverseSlice'->aaW,IntsAre->aa2,assignInOrder_cons->abm,seqObj->abv,gallopOf->abw,AllBare->abB,elem'->abH,KeyOrd->abZ
open Option.some renaming inj->WS
open PyProof.Rows.KeyOrd renaming kle_trans->W0,kle_of_klt->Xi,kle_refl->XY
open PySem.Builtin.SmallTypes renaming nextOf->Xa,ownedTupleIsFree->X1,ownedTupleHandOut->ZN
open PySem.PassesOwn renaming never->Xb,leaving->abW
open Int renaming toNat_natCast->Xs,emod_lt_of_pos->YQ,emod_nonneg->Zt,le_refl->aa_
open PySem.F renaming plainAttrs_list->Xx,slot_dict_valueiterator_next->Yo,slot_dict_keyiterator_next->YA,slot_tuple_iterator_next->YH,slot_dict_get->Zl,args_tuple_add_2->ZZ,slot_list_append->Z1,type_list_append->Z2,entry_tuple_add->Z7,args_dict_get_3->Z_,args_dict_valueiterator_next_1->aaf,slot_tuple_add->aai,entry_dict_get->aaj,entry_dict_valueiterator_next->aat,args_dict_keyiterator_next_1->aaF,entry_dict_keyiterator_next->aaL,args_list_extend_2->aaP,args_tuple_iterator_next_1->aaT,entry_list_extend->aa3,entry_tuple_iterator_next->aa7,slot_zip_next->aa9,slot_list_extend->abr,slot_dict_values->abV
open False renaming elim->XA
open PySem.Builtin.Tuple renaming tupleExact->XC,tupleHashOf->XW,tupleItemsOf->ZD,tupleIsExact->abd,tupleTooMany->abe
open PySem.Str renaming ofString->XO
open List.Perm renaming append_right->XQ,append_left->X2,refl->X6
open PySem.Builtin.Dict_items renaming ownsTuple->X3
open PySem.Builtin.List renaming listTooLong->Yr,listExtendWith->aa5
open PySem.Around renaming under_plainId->Yw
open PySem.Heap.SameBut renaming update->YD
open PySem.SeqAt renaming EqAt->YJ
open PySem.Obj renaming data_mapFields->YL,mapSeq->Zx,isFreed_of_fields->aaD,mapFields->aaV,cls_mapFields->abR
open PySem.Builtin.Slice renaming slicePlaces->YS,sliceAdjust->ZJ,sliceApplied->abc
open Option renaming isSome_map->Y1,isSome_iff_exists->ZY,getD_none->aaI
open PySem.Calls renaming callWith_builtin->Zb,call_function_entry->ZK,evalArgs_plain->aaO,Name_function_global->abb,Constant_str->abl,spliced_cons->abo
open PySem.Builtin.Dict renaming showsAll->Zq
open PySem.Paired renaming length->Zv
open PySem.Builtin.Range renaming rangeSize->Z5
open PySem.SeqAt.EqAt renaming same->Z8,int_str->abi,str_int->abj,int_int->abq,of_refs->abt
open PySem.SeqAt.RcAt renaming tuples->abO,lists_lengths->abP
open PySem PySem.Spec PyProof.Rows
variable {a b it f p C z i1 i2 a1 a2:Ww}{o l ra rb:List WB}{P prog:YG}{h base h':Y5}{g':Array GenState}{t' i j k n g m ep bc:Nat}{ch fp:List Ww}{x qual name:Str}{N ps loose:List Str}{M:Model}{A:Ww->Prop}{E Q:Wd->Wr->Prop}{s:Wr}{pins:List (Ww×Obj)}{pos p2:Pos}{op:CmpOp}{K:Wc}{st:aaX}{c tg iter elt:X4}{body:List aaX}{hi:Option Int}{ao:List Wd}{mg:Str->Option Wd}{fd:Zu}{scope:abz}{an od:Option Ww}{osl:Array (Option Wd)}{ns:List Int}{ys:Array Wd}{T:String}{q:Wd}{XP:(Str->Option Wd)->Y5->Prop}{YP:Xt->Y5->Prop}{env:Env}{js:List (Option Nat)}{sd:List X4}{l1 l2:Bool}{ds:Array abJ}{arr:Array WB}
namespace L2
noncomputable def dE (s:aaX):Arguments:=match s with
 | .FunctionDef _ a _ _ _ _ _ _ _ _=>a
 |_=>{posonlyargs:=[],args:=[],vararg:=none,kwonlyargs:=[],kw_defaults:=[],kwarg:=none,defaults:=[]}
noncomputable def bH (s:aaX):List aaX:=match s with
 | .FunctionDef _ _ b _ _ _ _ _ _ _=>b
 |_=>[]
noncomputable def aj (s:aaX):abz:=match s with
 | .FunctionDef _ _ _ _ _ _ sc _ _ _=>sc
 |_=>{kind:=.function,names:=[],isGenerator:=false,isCoroutine:=false}
noncomputable def Hv (s:aaX)(j:Nat):aaX:=match s with
 | .ClassDef _ _ _ body _ _ _ _ _ _ _=>body.getD j (.Pass ⟨0,0,0,0⟩)
 |_=>.Pass ⟨0,0,0,0⟩
end L2
namespace Hc
open L2
noncomputable def ie (i:Nat):aaX:=PySem.Challenge.pw_hushcards_k14_closed_and_spanned.main.body.getD i (.Pass ⟨0,0,0,0⟩)
noncomputable abbrev hS (s:String)(n:Nat):Wd:=.str (XO s) n
noncomputable abbrev hT (l:List Wd):Obj:=⟨.type "tuple",none,.seq l.toArray 0,(List.toArray [])⟩
noncomputable abbrev hE (P:Params)(s:String)(n:Nat)(v:Wd):abJ:=⟨PyData.keyHash P (XO s),hS s n,v⟩
noncomputable abbrev hD (c:Wd)(l:List abJ)(n:Nat):Obj:=⟨c,none,.dict l.toArray n,(List.toArray [])⟩
noncomputable abbrev hX (c:Wd)(l:List Wd):Obj:=⟨c,none,.fields l.toArray,(List.toArray [])⟩
noncomputable abbrev hC (n q:String)(a:Nat)(l k:Int)(r r1:Nat)(v1 v2:Wd)(r2:Nat)(m:Int)(m':Nat):Obj:=hX (.type "code") [hS n a,hS q (a+1),hS "/claim/cut.py" (a+2),.int l 0,.int k 0,.int 0 0,.int 0 0,.int 3 0,.ref r,.bool true,.int 181 0,.ref r1,.none,v1,v2,.ref r2,.int m 0,.int l 0,hS "/claim/cut.py" m']
noncomputable abbrev hF (n q:String)(s:aaX)(kV jF pm:Wd)(an:Option Ww)(cd ct:Wd):Obj:=⟨.type "function",none,.func (XH n q (dE s) (bH s) (aj s) .none kV jF pm an cd ct),(List.toArray [])⟩
noncomputable def Kf (P:Params):Wc:=
 (nat_lit 2,hD .none [] 0) ::
 (nat_lit 3,hD (.type "dict") [hE P "__name__" 165 (hS "law_hushcards_k14_closed_and_spanned" 378),hE P "__doc__" 166 .none,hE P "__package__" 167 .none,hE P "__loader__" 168 (.builtin "__main__.__loader__#opaque"),hE P "__spec__" 169 .none,hE P "__annotations__" 170 (.ref 6),hE P "__builtins__" 171 (.ref 4),hE P "__file__" 173 (hS "/claim/cut.py" 172),hE P "__cached__" 174 .none,hE P "CardError" 206 (.ref 24),hE P "NoPlan" 222 (.ref 37),hE P "NoWay" 247 (.ref 56),hE P "NoEnd" 263 (.ref 68),hE P "NoFormula" 279 (.ref 80),hE P "TooMany" 295 (.ref 92),hE P "NoName" 311 (.ref 104),hE P "BadNote" 327 (.ref 116),hE P "cards_at" 335 (.ref 123),hE P "then" 343 (.ref 130),hE P "MOST_SPANNED" 347 (.int 120 346),hE P "counted" 356 (.ref 137),hE P "is_closed" 362 (.ref 142),hE P "spanned" 377 (.ref 149),hE P "_law_cell_at" 387 (.ref 156),hE P "_law_state" 396 (.ref 163),hE P "_law_take" 406 (.ref 170),hE P "_law_order" 412 (.ref 175),hE P "_law_shuffle" 418 (.ref 180),hE P "_law_divisor" 426 (.ref 187),hE P "_law_laid" 432 (.ref 192),hE P "_law_lowest" 438 (.ref 197),hE P "_law_mark" 446 (.ref 204),hE P "_law_same" 452 (.ref 209),hE P "_law_closed" 458 (.ref 214),hE P "_law_spanned" 472 (.ref 221),hE P "_law_round" 484 (.ref 228),hE P "_law_told" 493 (.ref 235),hE P "law" 499 (.ref 240)] 38) ::
 (nat_lit 15,hT [.type "ValueError"]) ::
 (nat_lit 22,hT []) ::
 (nat_lit 23,hD (.type "dict") [hE P "__module__" 196 (hS "hushcards.errors" 187),hE P "__firstlineno__" 200 (.int 2 199),hE P "__static_attributes__" 201 (.ref 22),hE P "__weakref__" 203 (.ref 25),hE P "__doc__" 204 .none] 3) ::
 (nat_lit 24,⟨.type "type",none,.cls {name:="CardError",bases:=[.type "ValueError"],mro:=[.ref 24,.type "ValueError",.type "Exception",.type "BaseException",.type "object"],ns:=23,qualname:="CardError",subclasses:=[.ref 37,.ref 56,.ref 68,.ref 80,.ref 92,.ref 104,.ref 116]},(List.toArray [some (.ref 15),none,some (hS "CardError" 189),some (hS "CardError" 197),some (.builtin "ValueError.__new__"),some (.bool true)])⟩) ::
 (nat_lit 25,hX (.type "getset_descriptor") [hS "__weakref__" 202,.ref 24,.builtin "ExceptionGroup.__weakref__",.none]) ::
 (nat_lit 28,hT [.ref 24]) ::
 (nat_lit 35,hT []) ::
 (nat_lit 36,hD (.type "dict") [hE P "__module__" 214 (hS "hushcards.errors" 187),hE P "__firstlineno__" 218 (.int 4 217),hE P "__static_attributes__" 219 (.ref 35),hE P "__doc__" 220 .none] 2) ::
 (nat_lit 37,⟨.type "type",none,.cls {name:="NoPlan",bases:=[.ref 24],mro:=[.ref 37,.ref 24,.type "ValueError",.type "Exception",.type "BaseException",.type "object"],ns:=36,qualname:="NoPlan"},(List.toArray [some (.ref 28),none,some (hS "NoPlan" 207),some (hS "NoPlan" 215),some (.builtin "ValueError.__new__"),some (.bool true)])⟩) ::
 (nat_lit 40,hT [.ref 24]) ::
 (nat_lit 47,hT []) ::
 (nat_lit 49,hT [hS "self" 238,hS "seen" 239]) ::
 (nat_lit 50,hT []) ::
 (nat_lit 52,hC "__init__" "NoWay.__init__" 235 8 2 47 48 (.ref 49) (.ref 50) 51 240 241) ::
 (nat_lit 53,hF "__init__" "NoWay.__init__" (Hv (ie 3) 0) .none .none (hS "hushcards.errors" 187) none (.ref 52) .none) ::
 (nat_lit 54,hT [hS "seen" 243]) ::
 (nat_lit 55,hD (.type "dict") [hE P "__module__" 230 (hS "hushcards.errors" 187),hE P "__firstlineno__" 234 (.int 6 233),hE P "__init__" 242 (.ref 53),hE P "__static_attributes__" 244 (.ref 54),hE P "__doc__" 245 .none] 2) ::
 (nat_lit 56,⟨.type "type",none,.cls {name:="NoWay",bases:=[.ref 24],mro:=[.ref 56,.ref 24,.type "ValueError",.type "Exception",.type "BaseException",.type "object"],ns:=55,qualname:="NoWay"},(List.toArray [some (.ref 40),none,some (hS "NoWay" 223),some (hS "NoWay" 231),some (.builtin "ValueError.__new__"),some (.bool true)])⟩) ::
 (nat_lit 59,hT [.ref 24]) ::
 (nat_lit 66,hT []) ::
 (nat_lit 67,hD (.type "dict") [hE P "__module__" 255 (hS "hushcards.errors" 187),hE P "__firstlineno__" 259 (.int 11 258),hE P "__static_attributes__" 260 (.ref 66),hE P "__doc__" 261 .none] 2) ::
 (nat_lit 68,⟨.type "type",none,.cls {name:="NoEnd",bases:=[.ref 24],mro:=[.ref 68,.ref 24,.type "ValueError",.type "Exception",.type "BaseException",.type "object"],ns:=67,qualname:="NoEnd"},(List.toArray [some (.ref 59),none,some (hS "NoEnd" 248),some (hS "NoEnd" 256),some (.builtin "ValueError.__new__"),some (.bool true)])⟩) ::
 (nat_lit 71,hT [.ref 24]) ::
 (nat_lit 78,hT []) ::
 (nat_lit 79,hD (.type "dict") [hE P "__module__" 271 (hS "hushcards.errors" 187),hE P "__firstlineno__" 275 (.int 13 274),hE P "__static_attributes__" 276 (.ref 78),hE P "__doc__" 277 .none] 2) ::
 (nat_lit 80,⟨.type "type",none,.cls {name:="NoFormula",bases:=[.ref 24],mro:=[.ref 80,.ref 24,.type "ValueError",.type "Exception",.type "BaseException",.type "object"],ns:=79,qualname:="NoFormula"},(List.toArray [some (.ref 71),none,some (hS "NoFormula" 264),some (hS "NoFormula" 272),some (.builtin "ValueError.__new__"),some (.bool true)])⟩) ::
 (nat_lit 83,hT [.ref 24]) ::
 (nat_lit 90,hT []) ::
 (nat_lit 91,hD (.type "dict") [hE P "__module__" 287 (hS "hushcards.errors" 187),hE P "__firstlineno__" 291 (.int 15 290),hE P "__static_attributes__" 292 (.ref 90),hE P "__doc__" 293 .none] 2) ::
 (nat_lit 92,⟨.type "type",none,.cls {name:="TooMany",bases:=[.ref 24],mro:=[.ref 92,.ref 24,.type "ValueError",.type "Exception",.type "BaseException",.type "object"],ns:=91,qualname:="TooMany"},(List.toArray [some (.ref 83),none,some (hS "TooMany" 280),some (hS "TooMany" 288),some (.builtin "ValueError.__new__"),some (.bool true)])⟩) ::
 (nat_lit 95,hT [.ref 24]) ::
 (nat_lit 102,hT []) ::
 (nat_lit 103,hD (.type "dict") [hE P "__module__" 303 (hS "hushcards.errors" 187),hE P "__firstlineno__" 307 (.int 17 306),hE P "__static_attributes__" 308 (.ref 102),hE P "__doc__" 309 .none] 2) ::
 (nat_lit 104,⟨.type "type",none,.cls {name:="NoName",bases:=[.ref 24],mro:=[.ref 104,.ref 24,.type "ValueError",.type "Exception",.type "BaseException",.type "object"],ns:=103,qualname:="NoName"},(List.toArray [some (.ref 95),none,some (hS "NoName" 296),some (hS "NoName" 304),some (.builtin "ValueError.__new__"),some (.bool true)])⟩) ::
 (nat_lit 107,hT [.ref 24]) ::
 (nat_lit 114,hT []) ::
 (nat_lit 115,hD (.type "dict") [hE P "__module__" 319 (hS "hushcards.errors" 187),hE P "__firstlineno__" 323 (.int 19 322),hE P "__static_attributes__" 324 (.ref 114),hE P "__doc__" 325 .none] 2) ::
 (nat_lit 116,⟨.type "type",none,.cls {name:="BadNote",bases:=[.ref 24],mro:=[.ref 116,.ref 24,.type "ValueError",.type "Exception",.type "BaseException",.type "object"],ns:=115,qualname:="BadNote"},(List.toArray [some (.ref 107),none,some (hS "BadNote" 312),some (hS "BadNote" 320),some (.builtin "ValueError.__new__"),some (.bool true)])⟩) ::
 (nat_lit 119,hT []) ::
 (nat_lit 122,hC "cards_at" "cards_at" 330 22 2 119 120 .none .none 121 333 334) ::
 (nat_lit 123,hF "cards_at" "cards_at" (ie 10) .none .none (hS "hushcards.orders" 328) none (.ref 122) .none) ::
 (nat_lit 124,hT []) ::
 (nat_lit 126,hT [hS "one" 339,hS "other" 340]) ::
 (nat_lit 127,hT []) ::
 (nat_lit 129,hC "then" "then" 336 24 2 124 125 (.ref 126) (.ref 127) 128 341 342) ::
 (nat_lit 130,hF "then" "then" (ie 11) .none .none (hS "hushcards.orders" 328) none (.ref 129) .none) ::
 (nat_lit 131,hT []) ::
 (nat_lit 133,hT [hS "shuffle" 351,hS "often" 352,hS "order" 353]) ::
 (nat_lit 134,hT []) ::
 (nat_lit 136,hC "counted" "counted" 348 28 1 131 132 (.ref 133) (.ref 134) 135 354 355) ::
 (nat_lit 137,hF "counted" "counted" (ie 14) .none .none (hS "hushcards.shuffles" 344) none (.ref 136) .none) ::
 (nat_lit 138,hT []) ::
 (nat_lit 141,hC "is_closed" "is_closed" 357 33 1 138 139 .none .none 140 360 361) ::
 (nat_lit 142,hF "is_closed" "is_closed" (ie 15) .none .none (hS "hushcards.shuffles" 344) none (.ref 141) .none) ::
 (nat_lit 143,hT []) ::
 (nat_lit 145,hT [hS "many" 366,hS "orders" 367,hS "start" 368,hS "met" 369,hS "fresh" 370,hS "further" 371,hS "reached" 372,hS "order" 373,hS "follower" 374]) ::
 (nat_lit 146,hT []) ::
 (nat_lit 148,hC "spanned" "spanned" 363 41 2 143 144 (.ref 145) (.ref 146) 147 375 376) ::
 (nat_lit 149,hF "spanned" "spanned" (ie 16) .none .none (hS "hushcards.shuffles" 344) none (.ref 148) .none) ::
 (nat_lit 150,hT []) ::
 (nat_lit 152,hT [hS "script" 383,hS "k" 384]) ::
 (nat_lit 153,hT []) ::
 (nat_lit 155,hC "_law_cell_at" "_law_cell_at" 380 58 2 150 151 (.ref 152) (.ref 153) 154 385 386) ::
 (nat_lit 156,hF "_law_cell_at" "_law_cell_at" (ie 18) .none .none (hS "law_hushcards_k14_closed_and_spanned" 378) none (.ref 155) .none) ::
 (nat_lit 157,hT []) ::
 (nat_lit 159,hT [hS "script" 391,hS "k" 392,hS "cell" 393]) ::
 (nat_lit 160,hT []) ::
 (nat_lit 162,hC "_law_state" "_law_state" 388 62 2 157 158 (.ref 159) (.ref 160) 161 394 395) ::
 (nat_lit 163,hF "_law_state" "_law_state" (ie 19) .none .none (hS "law_hushcards_k14_closed_and_spanned" 378) none (.ref 162) .none) ::
 (nat_lit 164,hT []) ::
 (nat_lit 166,hT [hS "state" 400,hS "many" 401,hS "found" 402,hS "mixed" 403]) ::
 (nat_lit 167,hT []) ::
 (nat_lit 169,hC "_law_take" "_law_take" 397 67 2 164 165 (.ref 166) (.ref 167) 168 404 405) ::
 (nat_lit 170,hF "_law_take" "_law_take" (ie 20) .none .none (hS "law_hushcards_k14_closed_and_spanned" 378) none (.ref 169) .none) ::
 (nat_lit 171,hT []) ::
 (nat_lit 174,hC "_law_order" "_law_order" 407 76 2 171 172 .none .none 173 410 411) ::
 (nat_lit 175,hF "_law_order" "_law_order" (ie 21) .none .none (hS "law_hushcards_k14_closed_and_spanned" 378) none (.ref 174) .none) ::
 (nat_lit 176,hT []) ::
 (nat_lit 179,hC "_law_shuffle" "_law_shuffle" 413 79 2 176 177 .none .none 178 416 417) ::
 (nat_lit 180,hF "_law_shuffle" "_law_shuffle" (ie 22) .none .none (hS "law_hushcards_k14_closed_and_spanned" 378) none (.ref 179) .none) ::
 (nat_lit 181,hT []) ::
 (nat_lit 183,hT [hS "one" 422,hS "other" 423]) ::
 (nat_lit 184,hT []) ::
 (nat_lit 186,hC "_law_divisor" "_law_divisor" 419 100 2 181 182 (.ref 183) (.ref 184) 185 424 425) ::
 (nat_lit 187,hF "_law_divisor" "_law_divisor" (ie 23) .none .none (hS "law_hushcards_k14_closed_and_spanned" 378) none (.ref 186) .none) ::
 (nat_lit 188,hT []) ::
 (nat_lit 191,hC "_law_laid" "_law_laid" 427 106 2 188 189 .none .none 190 430 431) ::
 (nat_lit 192,hF "_law_laid" "_law_laid" (ie 24) .none .none (hS "law_hushcards_k14_closed_and_spanned" 378) none (.ref 191) .none) ::
 (nat_lit 193,hT []) ::
 (nat_lit 196,hC "_law_lowest" "_law_lowest" 433 108 1 193 194 .none .none 195 436 437) ::
 (nat_lit 197,hF "_law_lowest" "_law_lowest" (ie 25) .none .none (hS "law_hushcards_k14_closed_and_spanned" 378) none (.ref 196) .none) ::
 (nat_lit 198,hT []) ::
 (nat_lit 200,hT [hS "e" 442,hS "marks" 443]) ::
 (nat_lit 201,hT []) ::
 (nat_lit 203,hC "_law_mark" "_law_mark" 439 116 1 198 199 (.ref 200) (.ref 201) 202 444 445) ::
 (nat_lit 204,hF "_law_mark" "_law_mark" (ie 26) .none .none (hS "law_hushcards_k14_closed_and_spanned" 378) none (.ref 203) .none) ::
 (nat_lit 205,hT []) ::
 (nat_lit 208,hC "_law_same" "_law_same" 447 124 2 205 206 .none .none 207 450 451) ::
 (nat_lit 209,hF "_law_same" "_law_same" (ie 27) .none .none (hS "law_hushcards_k14_closed_and_spanned" 378) none (.ref 208) .none) ::
 (nat_lit 210,hT []) ::
 (nat_lit 213,hC "_law_closed" "_law_closed" 453 132 1 210 211 .none .none 212 456 457) ::
 (nat_lit 214,hF "_law_closed" "_law_closed" (ie 28) .none .none (hS "law_hushcards_k14_closed_and_spanned" 378) none (.ref 213) .none) ::
 (nat_lit 215,hT []) ::
 (nat_lit 217,hT [hS "many" 462,hS "orders" 463,hS "found" 464,hS "fresh" 465,hS "longer" 466,hS "one" 467,hS "other" 468,hS "more" 469]) ::
 (nat_lit 218,hT []) ::
 (nat_lit 220,hC "_law_spanned" "_law_spanned" 459 141 2 215 216 (.ref 217) (.ref 218) 219 470 471) ::
 (nat_lit 221,hF "_law_spanned" "_law_spanned" (ie 29) .none .none (hS "law_hushcards_k14_closed_and_spanned" 378) none (.ref 220) .none) ::
 (nat_lit 222,hT []) ::
 (nat_lit 224,hT [hS "state" 476,hS "many" 477,hS "size" 478,hS "order" 479,hS "found" 480,hS "k" 481]) ::
 (nat_lit 225,hT []) ::
 (nat_lit 227,hC "_law_round" "_law_round" 473 156 2 222 223 (.ref 224) (.ref 225) 226 482 483) ::
 (nat_lit 228,hF "_law_round" "_law_round" (ie 30) .none .none (hS "law_hushcards_k14_closed_and_spanned" 378) none (.ref 227) .none) ::
 (nat_lit 229,hT []) ::
 (nat_lit 231,hT [hS "many" 488,hS "orders" 489,hS "e" 490]) ::
 (nat_lit 232,hT []) ::
 (nat_lit 234,hC "_law_told" "_law_told" 485 163 2 229 230 (.ref 231) (.ref 232) 233 491 492) ::
 (nat_lit 235,hF "_law_told" "_law_told" (ie 31) .none .none (hS "law_hushcards_k14_closed_and_spanned" 378) none (.ref 234) .none) ::
 (nat_lit 236,hT []) ::
 (nat_lit 239,hC "law" "law" 494 168 1 236 237 .none .none 238 497 498) ::
 (nat_lit 240,hF "law" "law" (ie 32) .none .none (hS "law_hushcards_k14_closed_and_spanned" 378) none (.ref 239) .none)::[]
noncomputable def vw:YG:={PySem.Challenge.pw_hushcards_k14_closed_and_spanned with main:={PySem.Challenge.pw_hushcards_k14_closed_and_spanned.main with body:=([1,2,3,4,5,6,7,8,10,11,13,14,15,16,18,19,20,21,22,23,24,25,26,27,28,29,30,31,32]:List Nat).map ie}}
noncomputable def hk:PySem.W.Hook:=PySem.W.kHook Kf [2,3,15,22,23,24,25,28,35,36,37,40,47,49,50,52,53,54,55,56,59,66,67,68,71,78,79,80,83,90,91,92,95,102,103,104,107,114,115,116,119,122,123,124,126,127,129,130,131,133,134,136,137,138,141,142,143,145,146,148,149,150,152,153,155,156,157,159,160,162,163,164,166,167,169,170,171,174,175,176,179,180,181,183,184,186,187,188,191,192,193,196,197,198,200,201,203,204,205,208,209,210,213,214,215,217,218,220,221,222,224,225,227,228,229,231,232,234,235,236,239,240] (λ_=>by kernel_rfl)
noncomputable abbrev T4:=PySem.Challenge.rw_hushcards_k14_closed_and_spanned.row
theorem left:PySem.W.LeftO T4.prog vw [] (λs=>PySem.W.xlAt vw [] s&&PySem.W.recOk (PySem.W.RowW.records T4.toRowW) s) hk.obs hk.val 4806:=λw=>by kernel_rfl
end Hc
namespace L2
noncomputable abbrev Key:=Sum Int Str
noncomputable def tm:Key->Wd->Bool
 | .inl k,v=>Value.isInt k v
 | .inr x,v=>Value.isStrOf x v
noncomputable def Ru (w:Xt):Key->Int
 | .inl k=>hashInt k
 | .inr x=>hashStr w x
theorem bY:∀{k:Key} {v:Wd},tm k v=true->(∃i t,k=Sum.inl i/\v=Value.int i t)\/(∃x t,k=Sum.inr x/\v=Value.str x t)
 | .inl i,v,h=>by
  obtain⟨t,e⟩:=Value.isInt_shape (k:=i) (v:=v) h;exact .inl ⟨i,t,rfl,e⟩
 | .inr x,v,h=>by
  obtain⟨t,e⟩:=Value.isStrOf_shape (x:=x) (v:=v) h;exact .inr ⟨x,t,rfl,e⟩
theorem BK (i:Int)(t:Tok):tm (.inl i) (.int i t)=true:=by simp[tm,Value.isInt]
theorem BL (x:Str)(t:Tok):tm (.inr x) (.str x t)=true:=by simp[tm,Value.isStrOf]
theorem Lo (a b:Int):decide ((Sum.inl a:Key)=Sum.inl b)=(a==b):=by
 by_cases e:a=b
 ·subst e;simp
 ·have h:¬(Sum.inl a:Key)=Sum.inl b:=λq=>e (Sum.inl.inj q);rw[hJ h];exact (beq_eq_false_iff_ne.mpr e).symm
theorem Lp (a b:Str):decide ((Sum.inr a:Key)=Sum.inr b)=decide (a=b):=by
 by_cases e:a=b
 ·subst e;simp
 ·have h:¬(Sum.inr a:Key)=Sum.inr b:=λq=>e (Sum.inr.inj q);rw[hJ h,hJ e]
theorem Lq (a:Int)(b:Str):decide ((Sum.inl a:Key)=Sum.inr b)=false:=hJ (λq=>nomatch q)
theorem Lr (a:Str)(b:Int):decide ((Sum.inr a:Key)=Sum.inl b)=false:=hJ (λq=>nomatch q)
noncomputable def cw (prog:YG)(w:Xt):PySem.KeyKind prog w Key where
 is:=tm
 hash:=Ru w
 inj:=λv a b ha hb=>by
  rcases bY ha with⟨i,t,rfl,rfl⟩|⟨x,t,rfl,rfl⟩
  ·rcases bY hb with⟨j,u,rfl,e⟩|⟨y,u,rfl,e⟩
   ·injection e with e1 _;rw[e1]
   ·exact nomatch e
  ·rcases bY hb with⟨j,u,rfl,e⟩|⟨y,u,rfl,e⟩
   ·exact nomatch e
   ·injection e with e1 _;rw[e1]
 byValue:=λk v h=>by
  rcases bY h with⟨i,t,rfl,rfl⟩|⟨x,t,rfl,rfl⟩<;>rfl
 pyHash:=λhv h=>by
  rcases bY hv with⟨i,t,rfl,rfl⟩|⟨x,t,rfl,rfl⟩
  ·exact wpAny_pyHash_int h
  ·exact wpAny_pyHash_str h
 eqBool:=λhu hv h=>by
  rcases bY hu with⟨i,t,rfl,rfl⟩|⟨x,t,rfl,rfl⟩
  ·rcases bY hv with⟨j,u,rfl,rfl⟩|⟨y,u,rfl,rfl⟩
   ·rw[Lo] at h;exact wpAny_eqBool_int h
   ·rw[Lq] at h;exact abi i t y u _ _ _ _ h
  ·rcases bY hv with⟨j,u,rfl,rfl⟩|⟨y,u,rfl,rfl⟩
   ·rw[Lr] at h;exact abj x t j u _ _ _ _ h
   ·rw[Lp] at h;exact wpAny_eqBool_str h
 «strs»:=λk x t v h=>by
  rcases bY h with⟨i,u,rfl,e⟩|⟨y,u,rfl,e⟩
  ·exact nomatch e
  ·injection e with e1 _
   subst e1;cases v<;>rfl
theorem wx (prog:YG)(w:Xt)(i:Int)(t:Tok):(cw prog w).is (.inl i) (.int i t)=true:=BK i t
theorem wy (prog:YG)(w:Xt)(x:Str)(t:Tok):(cw prog w).is (.inr x) (.str x t)=true:=BL x t
end L2
namespace L2
inductive V where
 |non|bl (b:Bool)|int (i:Int)|str (x:Str)|byt (b:Array UInt8)|flt (b:UInt64)|ref (a:Ww)|ty (n:String)
 deriving DecidableEq
def aM:V->Wd->Prop
 | .non,u=>u=Value.none
 | .bl b,u=>u=Value.bool b
 | .int i,u=>∃t,u=Value.int i t
 | .str x,u=>∃t,u=Value.str x t
 | .byt b,u=>∃t,u=Value.bytes b t
 | .flt b,u=>∃t,u=Value.float b t
 | .ref a,u=>u=Value.ref a
 | .ty n,u=>u=Value.type n
abbrev aP:List V->List Wd->Prop:=ZI aM
theorem aP.length {xs:List V}{us:List Wd}(r:aP xs us):xs.length=us.length:=Zv r
theorem aP.get:∀{xs:List V} {us:List Wd} {i:Nat} {x:V},aP xs us->xs[i]? = some x->∃u,us[i]? = some u/\aM x u
 |_,_,_,_,.nil,e=>by simp at e
 |_,_,0,_,.cons r _,e=>by simp at e;subst e;exact⟨_,rfl,r⟩
 |_,_,i+1,x,.cons _ t,e=>by
  obtain⟨u,h1,h2⟩:=aP.get (i:=i) (x:=x) t (by simpa using e);exact⟨u,by simpa using h1,h2⟩
theorem aP.set {x:V}{u:Wd}(r:aM x u):∀{xs:List V} {us:List Wd} (i:Nat),aP xs us->aP (xs.set i x) (us.set i u)
 |_,_,_,.nil=>.nil
 |_,_,0,.cons _ t=>.cons r t
 |_,_,i+1,.cons q t=>.cons q (aP.set r i t)
theorem aP.append:∀{xs ys:List V} {us ws:List Wd},aP xs us->aP ys ws->aP (xs++ys) (us++ws)
 |_,_,_,_,.nil,s=>s
 |_,_,_,_,.cons r t,s=>.cons r (aP.append t s)
theorem aP.take:∀{xs:List V} {us:List Wd} (n:Nat),aP xs us->aP (xs.take n) (us.take n)
 |_,_,0,_=>.nil
 |_,_,_+1,.nil=>.nil
 |_,_,n+1,.cons r t=>.cons r (aP.take n t)
theorem aP.drop:∀{xs:List V} {us:List Wd} (n:Nat),aP xs us->aP (xs.drop n) (us.drop n)
 |_,_,0,r=>r
 |_,_,_+1,.nil=>.nil
 |_,_,n+1,.cons _ t=>aP.drop n t
def kl:Option V->Option Wd->Prop
 |some v,some u=>aM v u
 |none,none=>True
 |_,_=>False
def KV {κ:Type}:List (κ×V)->List (κ×Wd)->Prop:=ZI λ(p:κ×V) (q:κ×Wd)=>p.1=q.1/\aM p.2 q.2
noncomputable def kV:Key->V
 | .inl i=>.int i
 | .inr x=>.str x
inductive HO where
 |lst (xs:List V)
 |tup (xs:List V)
 |dK (aN:List (Key×V))|dT (aN:List (List Key×V))
 |set (S:Int->Bool) (n:Nat)
 |ins (C dx:Ww) (fs:List (Str×V))
 |own (x:Ww)
 |xd (fs:List (Str×V))
 |met (f x:Ww)
 |rng (lo hi:Int)
 |frz (o:Obj) (u:HO)
 |tbl (ps:Array Wd)
 |ext (φ:Y5->Prop)
noncomputable abbrev Hp:=Ww->Option HO
noncomputable def bL (H:Hp)(a:Ww)(o:HO):Hp:=λb=>if b=a then some o else H b
theorem aH {H:Hp}{o:HO}:bL H a o a=some o:=by unfold bL;rw[hZ rfl]
theorem aF {H:Hp}{o:HO}(h:b≠a):bL H a o b=H b:=by unfold bL;rw[hV h]
theorem OC {H:Hp}{o u:HO}(h:H a=some o)(h':H b=some u)(d:o≠u):a≠b:=by
 intro e;subst e;rw[h] at h';exact d (WS h')
theorem ba {H:Hp}{o:HO}(h:H a=some o)(h':H b=none):a≠b:=by
 intro e;subst e;rw[h] at h';cases h'
section
variable (P:YG)(w:Xt)
def bh (H:Hp)(h:Y5)(a:Ww):HO->Prop
 | .lst xs=>xs.length<=Wa/\∃(ao:List Wd) (n:Nat),aP xs ao/\h.get? a=some {cls:=.type "list",data:=.seq ao.toArray n}
 | .tup xs=>xs.length<=Wa/\∃ao:List Wd,aP xs ao/\IsTup h a ao.toArray/\∃n,h.get? a=some {cls:=.type "tuple",data:=.seq ao.toArray n}
 | .dK aN=>aN.length<=Wa/\(a==XM)=false/\∃vs,KV aN vs/\h.DictOf (cw P w) a vs
 | .dT aN=>aN.length<=Wa/\(a==XM)=false/\∃xs:List (List Key×Ww×Wd),
   ZI (λ(p:List Key×V) (q:List Key×Ww×Wd)=>p.1=q.1/\H q.2.1=some (.tup (p.1.map kV))/\aM p.2 q.2.2) aN xs/\
   ∃o es ep,h.get? a=some o/\o.ExactDict/\o.data=.dict es ep/\es.toList=xs.map (entryOfKey (tupleKind (cw P w)))/\(xs.map (·.1)).Nodup
 | .set S n=>h.SetOf (intKind P w) a S n
 | .ins C dx fs=>H dx=some (.own a)/\fs.length<=1000/\dx≠a/\h.get? a=some (PySem.W.instObj C dx)/\
   ∃mA,h.Ns1 dx mA/\(∀f,kl (fs.lookup f) (mA f))/\PySem.Within mA (fs.map (·.1))
 | .own _=>∃o,h.get? a=some o
 | .xd fs=>∃mA,h.Ns1 a mA/\∀f,kl (fs.lookup f) (mA f)
 | .rng lo hi=>∃t u v,h.get? a=some {cls:=.type "range",data:=.fields (List.toArray [.int lo t,.int hi u,.int 1 v])}
 | .frz o u=>h.get? a=some o/\bh H h a u
 | .tbl ps=>h.get? a=some {cls:=.none,data:=.fields ps}
 | .met f x=>h.get? a=some (abK (.ref f) (.ref x))
 | .ext φ=>φ h/\(∃o,h.get? a=some o)/\∀h1 h2:Y5,φ h1->(∀o,h1.get? a=some o->h2.get? a=some o)->φ h2
def ig (H:Hp)(h:Y5):Prop:=∀a o,H a=some o->bh P w H h a o
end
section
variable {w:Xt}{H H':Hp}{o:HO}
theorem bh.lt (x:bh P w H h a o):a<h.objs.size:=by
 cases o with
 |lst xs=>obtain⟨_,_,_,_,e⟩:=x;exact Wq e
 |tup xs=>obtain⟨_,_,_,p,_⟩:=x;exact p.lt
 |dK aN=>obtain⟨_,_,_,_,o,_,_,e,_⟩:=x;exact Wq e
 |dT aN=>obtain⟨_,_,_,_,o,_,_,e,_⟩:=x;exact Wq e
 |set S n=>obtain⟨o,_,_,_,e,_⟩:=x;exact Wq e
 |ins C dx fs=>obtain⟨_,_,_,e,_⟩:=x;exact Wq e
 |own y=>obtain⟨_,e⟩:=x;exact Wq e
 |xd fs=>obtain⟨_,⟨_,_,_,e,_⟩,_⟩:=x;exact Wq e
 |rng lo hi=>obtain⟨_,_,_,e⟩:=x;exact Wq e
 |frz ob u=>obtain⟨e,_⟩:=x;exact Wq e
 |tbl ps=>exact Wq (show h.get? a=some _ from x)
 |met f y=>exact Wq (show h.get? a=some _ from x)
 |ext φ=>obtain⟨_,⟨_,e⟩,_⟩:=x;exact Wq e
theorem Paired.mapP {α β:Type}{F G:α->β->Prop}:∀{l₁:List α} {l₂:List β},ZI F l₁ l₂->(∀a b,F a b->G a b)->ZI G l₁ l₂
 |_,_,.nil,_=>.nil
 |_,_,.cons r t,f=>.cons (f _ _ r) (Paired.mapP t f)
theorem bh.stay (x:bh P w H h a o)(k:∀b u,(b=a\/H b=some (.own a))->h.get? b=some u->h'.get? b=some u)
  (ho:∀b,H b=some (.own a)->H' b=some (.own a)) (ht:∀b xs,H b=some (.tup xs)->H' b=some (.tup xs)):bh P w H' h' a o:=by
 induction o with
 |lst xs=>obtain⟨z,ao,n,r,e⟩:=x;exact⟨z,ao,n,r,k _ _ (.inl rfl) e⟩
 |tup xs=>obtain⟨z,ao,r,⟨ob,e,c⟩,n2,e2⟩:=x;exact⟨z,ao,r,⟨ob,k _ _ (.inl rfl) e,c⟩,n2,k _ _ (.inl rfl) e2⟩
 |dK aN=>obtain⟨z,y,vs,r,ob,es,ep,e,c⟩:=x;exact⟨z,y,vs,r,ob,es,ep,k _ _ (.inl rfl) e,c⟩
 |dT aN=>
  obtain⟨z,y,xs,r,ob,es,ep,e,c⟩:=x;exact⟨z,y,xs,Paired.mapP r λp q z=>⟨z.1,ht _ _ z.2.1,z.2.2⟩,ob,es,ep,k _ _ (.inl rfl) e,c⟩
 |set S n=>obtain⟨ob,es,ep,t,e,c⟩:=x;exact⟨ob,es,ep,t,k _ _ (.inl rfl) e,c⟩
 |ins C dx fs=>
  obtain⟨d,z,ne,e,mA,⟨od,es,ep,e2,c⟩,r⟩:=x;exact⟨ho _ d,z,ne,k _ _ (.inl rfl) e,mA,⟨od,es,ep,k _ _ (.inr d) e2,c⟩,r⟩
 |own y=>obtain⟨ob,e⟩:=x;exact⟨ob,k _ _ (.inl rfl) e⟩
 |xd fs=>obtain⟨mA,⟨od,es,ep,e,c⟩,r⟩:=x;exact⟨mA,⟨od,es,ep,k _ _ (.inl rfl) e,c⟩,r⟩
 |rng lo hi=>obtain⟨t,u,v,e⟩:=x;exact⟨t,u,v,k _ _ (.inl rfl) e⟩
 |frz ob u ih=>obtain⟨e,q⟩:=x;exact⟨k _ _ (.inl rfl) e,ih q⟩
 |tbl ps=>
  have e:h.get? a=some {cls:=.none,data:=.fields ps}:=x;show h'.get? a=some {cls:=.none,data:=.fields ps};exact k a _ (.inl rfl) e
 |met f y=>
  have e:h.get? a=some (abK (.ref f) (.ref y)):=x;show h'.get? a=some (abK (.ref f) (.ref y));exact k a _ (.inl rfl) e
 |ext φ=>obtain⟨p,⟨o,e⟩,st⟩:=x;exact⟨st _ _ p λo q=>k _ _ (.inl rfl) q,⟨o,k _ _ (.inl rfl) e⟩,st⟩
theorem ig.lt (x:ig P w H h)(e:H a=some o):a<h.objs.size:=(x a o e).lt
theorem ig.fresh (x:ig P w H h)(e:h.objs.size<=a):H a=none:=by
 cases q:H a with
 |none=>rfl
 |some u=>exact absurd (WV (x.lt q) e) (Yz _)
theorem ig.kept (x:ig P w H h)(k:∀b u,h.get? b=some u->h'.get? b=some u):ig P w H h':=λa o e=>
 (x a o e).stay (λb u _ q=>k b u q) (λ_ q=>q) λ_ _ q=>q
theorem ig.laid (x:ig P w H h)(k:∀b u,h.get? b=some u->h'.get? b=some u)(hp:h.objs.size<=a)(new:bh P w (bL H a o) h' a o):ig P w (bL H a o) h':=λb u e=>by
 have hn:=x.fresh hp;by_cases hb:b=a
 ·subst hb;rw[aH] at e;cases e;exact new
 ·rw[aF hb] at e;exact (x b u e).stay (λc v _ q=>k c v q) (λc q=>by rw[aF (ba q hn)];exact q) λc xs q=>by rw[aF (ba q hn)];exact q
end
def Rd (H:Hp)(a:Ww)(u:HO):Prop:=H a=some u\/∃o,H a=some (.frz o u)
theorem Rd.ok {w:Xt}{H:Hp}{u:HO}(r:Rd H a u)(x:ig P w H h):bh P w H h a u:=by
 rcases r with r|⟨o,r⟩
 ·exact x a u r
 ·obtain⟨_,q⟩:=x a _ r;exact q
def Oe:Option HO->Prop
 |some (.lst _)=>True
 |some (.dK _)=>True
 |some (.dT _)=>True
 |some (.set _ _)=>True
 |some (.ins _ _ _)=>True
 |some (.ext _)=>True
 |_=>False
section
variable {w:Xt}{H:Hp}{x e:Ww}{o':HO}
theorem ig.write (ok:ig P w H h)(mu:Oe (H x))(he:e=x\/H e=some (.own x))(k:∀b u,b≠e->h.get? b=some u->h'.get? b=some u)(Ot:∃u,h'.get? e=some u)
  (new:bh P w (bL H x o') h' x o'):ig P w (bL H x o') h':=λb u q=>by
 have Qu:∀c y,H c=some (.own y)->c≠x:=λc y r z=>by subst z;rw[r] at mu;exact mu
 have SW:∀c xs,H c=some (.tup xs)->c≠x:=λc xs r z=>by subst z;rw[r] at mu;exact mu
 by_cases hb:b=x
 ·subst hb;rw[aH] at q;cases q;exact new
 ·rw[aF hb] at q;by_cases hbe:b=e
  ·have q':H b=some (.own x):=by
    rcases he with z|z
    ·exact absurd (hbe.trans z) hb
    ·rw[hbe];exact z
   rw[q] at q';cases q';obtain⟨v,hv⟩:=Ot;exact⟨v,by rw[hbe];exact hv⟩
  ·refine (ok b u q).stay (λc v hc r=>k c v ?_ r) (λc r=>by rw[aF (Qu c b r)];exact r) λc xs r=>by rw[aF (SW c xs r)];exact r
   rcases hc with rfl|hc
   ·exact hbe
   ·rintro rfl;rcases he with z|z
    ·exact Qu c b hc z
    ·rw[hc] at z;cases z;exact hb rfl
end
structure Un (fs ex:List Ww)(H H':Hp)(h h':Y5):Prop where
 keep:∀b o,h.get? b=some o->H b=none->b∉fs->b∉ex->h'.get? b=some o
 slot:∀b o,h.get? b=some o->H b=none->b∈fs->b∉ex->∃sl,h'.get? b=some {o with slots:=sl}
 free:∀b o,h.get? b=some o->H b=none->b∉ex->H' b=none
 there:∀b o,h.get? b=some o->b∉ex->∃o',h'.get? b=some o'
 tups:∀b xs,H b=some (.tup xs)->H' b=some (.tup xs)
 frzs:∀b o u,H b=some (.frz o u)->H' b=some (.frz o u)
 tbls:∀b ps,H b=some (.tbl ps)->∃more,H' b=some (.tbl (ps++more))
section
variable {fs fs' ex ex':List Ww}{H H1 H2:Hp}{h1 h2:Y5}{x e:Ww}{o:HO}
theorem Un.any (u:Un fs ex H H1 h h1){ob:Obj}(q:h.get? b=some ob)(n:H b=none)(hx:b∉ex):∃sl,h1.get? b=some {ob with slots:=sl}:=by
 by_cases hb:b∈fs
 ·exact u.slot b ob q n hb hx
 ·exact⟨ob.slots,u.keep b ob q n hb hx⟩
theorem Un.kept (k:∀b u,h.get? b=some u->h'.get? b=some u):Un fs ex H H h h' :=
 ⟨λb ob q _ _ _=>k b ob q,λb ob q _ _ _=>⟨ob.slots,k b ob q⟩,λ_ _ _ n _=>n,λb ob q _=>⟨ob,k b ob q⟩,λ_ _ q=>q,λ_ _ _ q=>q,λ_ ps q=>⟨(List.toArray []),by rw[q];simp⟩⟩
theorem Un.refl:Un fs ex H H h h:=Un.kept λ_ _ q=>q
theorem Un.laid (k:∀b u,h.get? b=some u->h'.get? b=some u)(hp:h.objs.size<=a)(hn:H a=none):Un fs ex H (bL H a o) h h' where
 keep:=λb u q _ _ _=>k b u q
 slot:=λb u q _ _ _=>⟨u.slots,k b u q⟩
 free:=λb u q n _=>by rw[aF (WA (WV (Wq q) hp))];exact n
 there:=λb u q _=>⟨u,k b u q⟩
 tups:=λb xs q=>by rw[aF (ba q hn)];exact q
 frzs:=λb u xs q=>by rw[aF (ba q hn)];exact q
 tbls:=λb ps q=>⟨(List.toArray []),by rw[aF (ba q hn),q];simp⟩
theorem Un.write (mu:Oe (H x))(he:e=x\/H e=some (.own x))(k:∀b u,b≠e->h.get? b=some u->h'.get? b=some u)(Ot:∃u,h'.get? e=some u):Un fs ex H (bL H x o) h h':=by
 have hx:∀b,H b=none->b≠x:=λb n z=>by subst z;rw[n] at mu;exact mu
 have hb:∀b,H b=none->b≠e:=λb n z=>by
  subst z;rcases he with r|r
  ·exact hx b n r
  ·rw[n] at r;cases r
 have hm:∀b u,H b=some u->¬Oe (some u)->b≠x:=λb u q nm z=>by subst z;rw[q] at mu;exact nm mu
 refine⟨λb u q n _ _=>k b u (hb b n) q,λb u q n _ _=>⟨u.slots,k b u (hb b n) q⟩,λb u q n _=>by rw[aF (hx b n)];exact n,λb u q _=>?_,
  λb xs q=>by rw[aF (hm b _ q λz=>z)];exact q,λb u xs q=>by rw[aF (hm b _ q λz=>z)];exact q,λb ps q=>⟨(List.toArray []),by rw[aF (hm b _ q λz=>z),q];simp⟩⟩
 by_cases hbe:b=e
 ·subst hbe;exact Ot
 ·exact⟨u,k b u hbe q⟩
end
noncomputable def QR (h:Y5)(H:Hp):List Ww:=(Xf h.objs.size).filter λa=>(H a).isSome
noncomputable def uJ (h:Y5)(H:Hp):Y5:=PySem.W.hideAll h (QR h H)
theorem BM (h:Y5)(H:Hp):(uJ h H).objs.size=h.objs.size:=PySem.W.hideAll_size _ _
theorem Dk {H:Hp}{o:Obj}(e:h.get? b=some o)(n:H b=none):(uJ h H).get? b=some o:=
 PySem.W.hideAll_get _ e λhm=>by
  have q:(H b).isSome=true:=(List.mem_filter.mp hm).2;rw[n] at q;simp at q
theorem G_ {H:Hp}{o:Obj}(e:(uJ h H).get? b=some o):h.get? b=some o/\H b=none:=by
 have e':h.get? b=some o:=PySem.W.of_hideAll (QR h H) e;refine⟨e',?_⟩;cases q:H b with
 |none=>rfl
 |some x=>
  have hm:b∈QR h H:=List.mem_filter.mpr ⟨abA.mpr (Wq e'),by simp[q]⟩;have z:(uJ h H).get? b=none:=PySem.W.hideAll_none (QR h H) hm;rw[z] at e;cases e
end L2
variable {xs vs:List L2.V}{H H' H1 H2:L2.Hp}{v y:L2.V}{aN:List (List L2.Key×L2.V)}
namespace L2
structure Mod (K:Wc)(mg:Str->Option Wd)(base:Y5):Prop where
 kin:K.In base
 glob:base.Ns WL mg
 blt:∃mb,base.Ns builtinsNs mb/\∀x:Str,x≠"__name__"->mb x=W6 x
 nolimit:base.NoLimit
structure Cx where
 prog:YG
 w:Xt
 K:Wc
 mg:Str->Option Wd
 base:Y5
 A:W2
 N:List Str
 s₀:Wr
 H₀:Hp
 env:Env
 outer:List Env
 stack:List Env
 ex:List Ww
 fn:Str->Bool
 calm:Bool
 pn:List (Ww×Obj)
 xe:Wd->Wr->Prop
noncomputable def pP (l:List Env):List Ww:=l.filterMap (·.frame)
noncomputable abbrev Cx.fs (X:Cx):List Ww:=pP X.outer
def yx (sc:abz)(x:Str):Prop:=sc.names.lookup x=some .local\/sc.names.lookup x=some .cell\/sc.names.lookup x=some .free
def GY (sc:abz)(x:Str):Prop:=sc.names.lookup x=some .local\/sc.names.lookup x=some .cell
def Rv (env:Env)(h:Y5)(m:Str->Option Wd)(x:Str)(u:Wd):Prop:=
 (env.kindOf x=some .local/\m x=some u)\/((env.kindOf x=some .cell\/env.kindOf x=some .free)/\∃c,env.cells.lookup x=some c/\h.IsCell c (some u))
structure Cx.Ok (X:Cx):Prop where
 mod:Mod X.K X.mg X.base
 kind:X.env.scope.kind=.function
 glob:X.env.globals=WL
 blt:X.env.builtins=builtinsNs
 above:X.s₀.heap.objs.size<=X.env.locals
 inj:∀x y c,X.env.cells.lookup x=some c->X.env.cells.lookup y=some c->x=y
 has:∀x,(X.env.kindOf x=some .cell\/X.env.kindOf x=some .free)->∃c,X.env.cells.lookup x=some c
 cab:∀x c,X.fn x=true->X.env.cells.lookup x=some c->X.s₀.heap.objs.size<=c
 hd:X.calm=true->X.A.handled=none
 frames:X.A.frames=some X.stack
 stk:X.stack=X.outer\/(X.stack=X.env::X.outer/\X.env.frame=some X.env.locals)
 exf:∀b∈X.ex,b≠X.env.locals/\∀x c,X.env.cells.lookup x=some c->c≠b
 bs:∀b o,X.base.get? b=some o->X.s₀.heap.get? b=some o/\X.H₀ b=none
 bsz:X.base.objs.size<=X.s₀.heap.objs.size
 noex:∀b o,X.base.get? b=some o->b∉X.ex
 exfs:∀b∈X.ex,b∉X.fs
 funs:X.s₀.heap.FunFrames X.base X.outer
 frf:∀b∈X.fs,X.H₀ b=none
structure av (X:Cx)(pins:List (Ww×Obj))(σ:List (Option V))(H:Hp)(s:Wr):Prop where
 ok:X.Ok
 os:s.os=X.s₀.os
 bare:abB s.gens
 base:Un X.fs X.ex X.H₀ H X.s₀.heap s.heap
 loc:∃m,s.heap.Ns X.env.locals m/\∀(i:Nat) (x:Str) (v:V),X.N[i]? = some x->σ[i]? = some (some v)->yx X.env.scope x->∃u,aM v u/\Rv X.env s.heap m x u
 cell:∀x c,X.env.cells.lookup x=some c->∃v,s.heap.IsCell c v
 free:H X.env.locals=none
 freeC:∀x c,X.env.cells.lookup x=some c->H c=none
 pin:∀p∈X.pn++pins,s.heap.get? p.1=some p.2/\H p.1=none/\p.1≠X.env.locals/\p.1∉X.fs/\∀v,p.2.data≠.cell v
 hok:ig X.prog X.w H s.heap
 len:σ.length=X.N.length
section
variable {X:Cx}{σ:List (Option V)}
theorem Cx.Ok.nofr (ok:X.Ok){o:Obj}(e:X.base.get? b=some o):b∉X.fs:=λhb=>by
 have:=(ok.funs.mem hb).1;rw[e] at this;cases this
theorem av.bs (I:av X pins σ H s):∀b o,X.base.get? b=some o->s.heap.get? b=some o/\H b=none:=λb o e=>
 ⟨I.base.keep b o (I.ok.bs b o e).1 (I.ok.bs b o e).2 (I.ok.nofr e) (I.ok.noex b o e),I.base.free b o (I.ok.bs b o e).1 (I.ok.bs b o e).2 (I.ok.noex b o e)⟩
theorem av.bk (I:av X pins σ H s):∀b o,X.base.get? b=some o->s.heap.get? b=some o:=λb o e=>(I.bs b o e).1
theorem av.mod (I:av X pins σ H s):Mod X.K X.mg X.base:=I.ok.mod
theorem av.kIn (I:av X pins σ H s):X.K.In s.heap:=I.ok.mod.kin.keeps I.bk
theorem av.lt (I:av X pins σ H s):X.env.locals<s.heap.objs.size:=let ⟨_,hn,_⟩:=I.loc;hn.lt
theorem av.sz (I:av X pins σ H s):X.s₀.heap.objs.size<=s.heap.objs.size:=WD I.ok.above (abk I.lt)
theorem av.nofs (I:av X pins σ H s)(h:s.heap.objs.size<=a):a∉X.fs:=λhb=>by
 obtain⟨_,o,ho,_⟩:=I.ok.funs.mem hb;exact absurd (WV (Wq ho) (WD I.sz h)) (Yz _)
theorem av.cne (I:av X pins σ H s):∀x c,X.env.cells.lookup x=some c->c≠X.env.locals:=λx c e z=>by
 obtain⟨v,o,ho,hd⟩:=I.cell x c e;obtain⟨m,⟨o',es,ep,ho',hd',_⟩,_⟩:=I.loc;rw[z,ho'] at ho;cases ho;rw[hd'] at hd;cases hd
theorem av.funs (I:av X pins σ H s):s.heap.FunFrames X.base X.outer:=by
 have all:∀(l:List Env),(∀b∈pP l,b∈X.fs)->X.s₀.heap.FunFrames X.base l->s.heap.FunFrames X.base l:=by
  intro l
  induction l with
  |nil=>intro _ _;trivial
  |cons env r ih=>
   intro hs hl;obtain⟨hk,⟨L,o,hf,hn,ho,hd⟩,hr⟩:=hl;have hL:L∈X.fs:=hs L (by unfold pP;rw[ZS,hf];exact Wi);obtain⟨sl,e⟩:=I.base.slot L o ho (I.ok.frf L hL) hL λz=>I.ok.exfs L z hL;exact⟨hk,⟨L,_,hf,hn,e,hd⟩,ih (λb hb=>hs b (by unfold pP;rw[ZS,hf];exact Wh _ hb)) hr⟩
 exact all X.outer (λ_ hb=>hb) I.ok.funs
theorem av.stack (I:av X pins σ H s):s.heap.FunFrames X.base X.stack:=by
 rcases I.ok.stk with e|⟨e,hf⟩
 ·rw[e];exact I.funs
 ·rw[e];obtain⟨m,hn,_⟩:=I.loc;refine .cons (by rw[I.ok.kind];decide) hf hn ?_ I.funs;exact Heap.get?_none_of_le (WD I.ok.bsz I.ok.above)
theorem av.stkSub (I:av X pins σ H s):∀b∈pP X.stack,b∈X.env.locals::X.fs:=λb hb=>by
 rcases I.ok.stk with e|⟨e,hf⟩
 ·rw[e] at hb;exact Wh _ hb
 ·rw[e] at hb;unfold pP at hb;rw[ZS,hf] at hb;exact hb
theorem av.stkFree (I:av X pins σ H s):∀b∈pP X.stack,H b=none:=λb hb=>by
 rcases Wn.mp (I.stkSub b hb) with e|hb
 ·rw[e];exact I.free
 ·obtain⟨_,o,ho,_⟩:=I.ok.funs.mem hb;exact I.base.free b o ho (I.ok.frf b hb) λz=>I.ok.exfs b z hb
theorem av.step {t':Nat}{d':Drawn}(I:av X pins σ H s)(G3:∀b∈ch,(b∈X.ex\/X.s₀.heap.objs.size<=b)/\b≠X.env.locals/\(∀x c,X.env.cells.lookup x=some c->c≠b)/\∀p∈X.pn++pins,p.1≠b)(keep:∀b o,b≠X.env.locals->b∉X.fs->b∉ch->s.heap.get? b=some o->H b=none->h'.get? b=some o)(slot:∀b o,b≠X.env.locals->b∈X.fs->b∉ch->s.heap.get? b=some o->H b=none->∃sl,h'.get? b=some {o with slots:=sl})(free:∀b o,b∉ch->s.heap.get? b=some o->H b=none->H' b=none)(there:∀b o,b∉ch->s.heap.get? b=some o->∃o',h'.get? b=some o')(tups:∀b xs,H b=some (.tup xs)->H' b=some (.tup xs))(frzs:∀b o u,H b=some (.frz o u)->H' b=some (.frz o u))(tbls:∀b ps,H b=some (.tbl ps)->∃more,H' b=some (.tbl (ps++more)))(ns:∀m,s.heap.Ns X.env.locals m->h'.Ns X.env.locals m)(hok:ig X.prog X.w H' h')(hg:abB g') :
  av X pins σ H' {s with heap:=h',gens:=g',drawn:=d',toks:=t'}:=by
 have Jz:∀b o,X.s₀.heap.get? b=some o->b≠X.env.locals:=λb o e=>WA (WV (Wq e) I.ok.above);have Rl:∀b o,X.s₀.heap.get? b=some o->b∉X.ex->b∉ch:=λb o e hx hb=>by
  rcases (G3 b hb).1 with z|z
  ·exact hx z
  ·exact absurd (WV (Wq e) z) (Yz _)
 have K_:∀x c,X.env.cells.lookup x=some c->∀v,s.heap.IsCell c v->h'.IsCell c v:=λx c e v h00=>by
  obtain⟨o,ho,hd⟩:=h00;have Qv:c∉ch:=λz=>(G3 c z).2.2.1 x c e rfl;by_cases hc:c∈X.fs
  ·obtain⟨sl,q⟩:=slot c o (I.cne x c e) hc Qv ho (I.freeC x c e);exact⟨_,q,hd⟩
  ·exact⟨o,keep c o (I.cne x c e) hc Qv ho (I.freeC x c e),hd⟩
 refine⟨I.ok,I.os,hg,⟨λb o e n hb hx=>?_,λb o e n hb hx=>?_,λb o e n hx=>?_,λb o e hx=>?_,λb xs e=>tups b xs (I.base.tups b xs e),λb o xs e=>frzs b o xs (I.base.frzs b o xs e),λb ps e=>?_⟩,?_,λx c e=>?_,?_,λx c e=>?_,λp hp=>?_,hok,I.len⟩
 ·exact keep b o (Jz b o e) hb (Rl b o e hx) (I.base.keep b o e n hb hx) (I.base.free b o e n hx)
 ·obtain⟨sl,e1⟩:=I.base.slot b o e n hb hx;obtain⟨QM,e2⟩:=slot b _ (Jz b o e) hb (Rl b o e hx) e1 (I.base.free b o e n hx);exact⟨QM,e2⟩
 ·obtain⟨o',e1⟩:=I.base.there b o e hx;exact free b o' (Rl b o e hx) e1 (I.base.free b o e n hx)
 ·obtain⟨o',e1⟩:=I.base.there b o e hx;exact there b o' (Rl b o e hx) e1
 ·obtain⟨m1,e1⟩:=I.base.tbls b ps e;obtain⟨m2,e2⟩:=tbls b _ e1;exact⟨m1++m2,by rw[e2,Array.append_assoc]⟩
 ·obtain⟨m,hn,hl⟩:=I.loc;refine⟨m,ns m hn,λi x v e1 e2 e3=>?_⟩;obtain⟨u,r,l⟩:=hl i x v e1 e2 e3;refine⟨u,r,?_⟩;rcases l with l|⟨k,c,e,z⟩
  ·exact .inl l
  ·exact .inr ⟨k,c,e,K_ x c e _ z⟩
 ·obtain⟨v,z⟩:=I.cell x c e;exact⟨v,K_ x c e v z⟩
 ·obtain⟨m,⟨o,_,_,ho,_⟩,_⟩:=I.loc;exact free _ o (λz=>(G3 _ z).2.1 rfl) ho I.free
 ·obtain⟨v,o,ho,hd⟩:=I.cell x c e;exact free c o (λz=>(G3 c z).2.2.1 x c e rfl) ho (I.freeC x c e)
 ·obtain⟨e,n,ne,nf,d⟩:=I.pin p hp;have Qv:p.1∉ch:=λz=>(G3 p.1 z).2.2.2 p hp rfl;exact⟨keep p.1 p.2 ne nf Qv e n,free p.1 p.2 Qv e n,ne,nf,d⟩
theorem av.un {t':Nat}(I:av X pins σ H s)(u:Un X.fs [] H H' s.heap h')(hok:ig X.prog X.w H' h'):av X pins σ H' {s with heap:=h',toks:=t'}:=by
 obtain⟨m,⟨o,es,ep,ho,r⟩,_⟩:=id I.loc;obtain⟨sl,hL⟩:=u.any ho I.free (by simp);exact I.step (g':=s.gens) (d':=s.drawn) (ch:=[]) (λ_ z=>nomatch z) (λb o _ hb _ e n=>u.keep b o e n hb (by simp)) (λb o _ hb _ e n=>u.slot b o e n hb (by simp)) (λb o _ e n=>u.free b o e n (by simp)) (λb o _ e=>u.there b o e (by simp)) u.tups u.frzs u.tbls (λm' hm=>by
  obtain⟨o',es',ep',ho',r'⟩:=hm;rw[ho] at ho';cases ho';exact⟨_,es',ep',hL,r'⟩) hok I.bare
theorem av.call {t':Nat}{d':Drawn}(I:av X pins σ H s)(u:Un (pP X.stack) ch H H' s.heap h')(hok:ig X.prog X.w H' h')(hg:abB g')(G3:∀b∈ch,(b∈X.ex\/X.s₀.heap.objs.size<=b)/\b≠X.env.locals/\(∀x c,X.env.cells.lookup x=some c->c≠b)/\∀p∈X.pn++pins,p.1≠b) :
  av X pins σ H' {s with heap:=h',gens:=g',drawn:=d',toks:=t'}:=by
 obtain⟨m,⟨o,es,ep,ho,r⟩,_⟩:=id I.loc;obtain⟨sl,hL⟩:=u.any ho I.free λz=>(G3 _ z).2.1 rfl;exact I.step (ch:=ch) G3 (λb o hL hb hc e n=>u.keep b o e n (λz=>(Wn.mp (I.stkSub b z)).elim hL hb) hc) (λb o _ _ hc e n=>u.any e n hc) (λb o hc e n=>u.free b o e n hc) (λb o hc e=>u.there b o e hc) u.tups u.frzs u.tbls (λm' hm=>by
  obtain⟨o',es',ep',ho',r'⟩:=hm;rw[ho] at ho';cases ho';exact⟨_,es',ep',hL,r'⟩) hok hg
theorem av.turned {t':Nat}(I:av X pins σ H s)(k:∀b o,b≠it->s.heap.get? b=some o->h'.get? b=some o)(hn:H it=none)(hL:it≠X.env.locals)(h1:it∈X.ex\/X.s₀.heap.objs.size<=it)(h2:∀x c,X.env.cells.lookup x=some c->c≠it)(h3:∀p∈X.pn++pins,p.1≠it):av X pins σ H {s with heap:=h',toks:=t'}:=by
 have T6:∀b u,H b=some u->b≠it:=λb u e z=>by rw[z,hn] at e;cases e
 refine I.step (g':=s.gens) (d':=s.drawn) (ch:=[it]) (λb hb=>?_) (λb o _ _ hc e _=>k b o (λz=>hc (by simp[z])) e) (λb o _ _ hc e _=>⟨o.slots,k b o (λz=>hc (by simp[z])) e⟩) (λ_ _ _ _ n=>n)
  (λb o hc e=>⟨o,k b o (λz=>hc (by simp[z])) e⟩) (λ_ _ e=>e) (λ_ _ _ e=>e) (λb ps e=>⟨(List.toArray []),by rw[e];simp⟩) (λm hm=>?_) (λb u e=>?_) I.bare
 ·have e:b=it:=by simpa using hb
  subst e;exact⟨h1,hL,h2,h3⟩
 ·obtain⟨o,es,ep,ho,r⟩:=hm;exact⟨o,es,ep,k _ o (Ne.symm hL) ho,r⟩
 ·refine (I.hok b u e).stay (λc v hc q=>k c v ?_ q) (λ_ q=>q) λ_ _ q=>q;rcases hc with z|z
  ·rw[z];exact T6 b u e
  ·exact T6 c _ z
theorem av.tok (I:av X pins σ H s)(t:Nat):av X pins σ H {s with toks:=t}:=I.un (h':=s.heap) (t':=t) Un.refl I.hok
theorem av.kept {t':Nat}(I:av X pins σ H s)(k:∀b u,s.heap.get? b=some u->h'.get? b=some u):av X pins σ H {s with heap:=h',toks:=t'}:=I.un (Un.kept k) (I.hok.kept k)
theorem av.laid {t':Nat}{o:HO}(I:av X pins σ H s)(k:∀b u,s.heap.get? b=some u->h'.get? b=some u)(hp:s.heap.objs.size<=a)(new:bh X.prog X.w (bL H a o) h' a o) :
  av X pins σ (bL H a o) {s with heap:=h',toks:=t'}:=I.un (Un.laid k hp (I.hok.fresh hp)) (I.hok.laid k hp new)
theorem av.write {t':Nat}{x e:Ww}{o:HO}(I:av X pins σ H s)(mu:Oe (H x))(he:e=x\/H e=some (.own x))(k:∀b u,b≠e->s.heap.get? b=some u->h'.get? b=some u)(Ot:∃u,h'.get? e=some u)(new:bh X.prog X.w (bL H x o) h' x o):av X pins σ (bL H x o) {s with heap:=h',toks:=t'}:=I.un (Un.write mu he k Ot) (I.hok.write mu he k Ot new)
theorem av.pins_of {La:List (Ww×Obj)}(I:av X pins σ H s)(h:∀p∈La,s.heap.get? p.1=some p.2/\H p.1=none/\p.1≠X.env.locals/\p.1∉X.fs/\∀v,p.2.data≠.cell v):av X La σ H s:=
 ⟨I.ok,I.os,I.bare,I.base,I.loc,I.cell,I.free,I.freeC,λp hp=>(WE.mp hp).elim (λz=>I.pin p (Yc _ z)) (h p),I.hok,I.len⟩
theorem pQ (hN:N.Nodup)(a:N[i]? = some x)(b:N[j]? = some x):i=j:=by
 obtain⟨h1,e1⟩:=We.mp a;obtain⟨h2,e2⟩:=We.mp b;exact (List.getElem_inj hN).mp (e1.trans e2.symm)
theorem tq {A:W2}{u:Wd}{Q:Unit->Wr->Prop}(I:av X pins σ H s)(hN:X.N.Nodup)(hi:X.N[i]? = some x)(hx:GY X.env.scope x)(r:aM v u)(h:∀s',av X pins (σ.set i (some v)) H s'->(∃a,ZV a s.heap s'.heap/\(a=X.env.locals\/X.env.cells.lookup x=some a))->Q () s')(hf:X.fn x=true\/X.env.scope.names.lookup x=some .local:=by first|exact .inl rfl|exact .inr rfl|assumption):Wv M A (storeName X.env x u) Q E s:=by
 obtain⟨m,hn,hl⟩:=id I.loc;have NL:(X.env.scope.kind==.class||(X.env.scope.kind==.module&&X.env.locals != X.env.globals))=false:=by rw[I.ok.kind];rfl
 have Rm:i<σ.length:=by rw[I.len];exact (We.mp hi).1
 have cne:=I.cne;have BD:∀{a:Ww} {h':Y5},(∃o,s.heap.get? a=some o/\H a=none)->ZV a s.heap h'->ig X.prog X.w H h':=λ{a h'} ha hs b ob e=>by
  obtain⟨_,_,hfree⟩:=ha;refine (I.hok b ob e).stay (λc w' hc q=>(hs.2 c ?_).trans q) (λ_ q=>q) λ_ _ q=>q;rintro rfl;rcases hc with rfl|hc
  ·rw[hfree] at e;cases e
  ·rw[hfree] at hc;cases hc
 rcases hx with hk|hk
 ·refine wpAny_storeName_local hk hn (λh' SX hs=>?_) NL;obtain⟨oL,_,_,Le,_⟩:=id hn;refine h _ ⟨I.ok,I.os,I.bare,⟨λb o e n hb hx=>?_,λb o e n hb hx=>?_,I.base.free,λb o e hx=>?_,I.base.tups,I.base.frzs,I.base.tbls⟩,⟨_,SX,λj y v' e1 e2 e3=>?_⟩,λy c e=>?_,I.free,I.freeC,λp hp=>?_,BD ⟨oL,Le,I.free⟩ hs,by simpa using I.len⟩ ⟨_,hs,.inl rfl⟩
  ·exact (hs.2 b (WA (WV (Wq e) I.ok.above))).trans (I.base.keep b o e n hb hx)
  ·obtain⟨sl,e1⟩:=I.base.slot b o e n hb hx;exact⟨sl,(hs.2 b (WA (WV (Wq e) I.ok.above))).trans e1⟩
  ·obtain⟨o',e1⟩:=I.base.there b o e hx;exact⟨o',(hs.2 b (WA (WV (Wq e) I.ok.above))).trans e1⟩
  ·by_cases hj:j=i
   ·subst hj;rw[hi] at e1;cases e1;rw[Za Rm] at e2;cases e2;exact⟨u,r,.inl ⟨hk,by simp⟩⟩
   ·rw[WQ (Ne.symm hj)] at e2;obtain⟨u',r',q⟩:=hl j y v' e1 e2 e3;refine⟨u',r',?_⟩;rcases q with⟨k,e⟩|⟨k,c,e,z⟩
    ·refine .inl ⟨k,?_⟩;have:y≠x:=λe=>hj (pQ hN e1 (e▸hi));simp[this,e]
    ·exact .inr ⟨k,c,e,z.sameBut hs (cne y c e)⟩
  ·obtain⟨w',z⟩:=I.cell y c e;exact⟨w',z.sameBut hs (cne y c e)⟩
  ·obtain⟨e,n,ne,nf,d⟩:=I.pin p hp;exact⟨(hs.2 p.1 ne).trans e,n,ne,nf,d⟩
 ·have SY:X.fn x=true:=by
   rcases hf with z|z
   ·exact z
   ·rw[z] at hk;cases hk
  obtain⟨c,hc⟩:=I.ok.has x (.inl hk);obtain⟨w',z⟩:=I.cell x c hc;refine wpAny_storeName_cell I.ok.kind hk hc z (λh' T7 hs=>?_);obtain⟨oc,hoc,hocd⟩:=id z;refine h {s with heap:=h'} ⟨I.ok,I.os,I.bare,⟨λb o e n hb hx=>?_,λb o e n hb hx=>?_,I.base.free,λb o e hx=>?_,I.base.tups,I.base.frzs,I.base.tbls⟩,⟨m,hn.sameBut hs (Ne.symm (cne x c hc)),λj y v' e1 e2 e3=>?_⟩,λy c' e=>?_,I.free,I.freeC,λp hp=>?_,BD ⟨oc,hoc,I.freeC x c hc⟩ hs,by simpa using I.len⟩ ⟨c,hs,.inr hc⟩
  ·exact (hs.2 b (WA (WV (Wq e) (I.ok.cab x c SY hc)))).trans (I.base.keep b o e n hb hx)
  ·obtain⟨sl,e1⟩:=I.base.slot b o e n hb hx;exact⟨sl,(hs.2 b (WA (WV (Wq e) (I.ok.cab x c SY hc)))).trans e1⟩
  ·obtain⟨o',e1⟩:=I.base.there b o e hx;exact⟨o',(hs.2 b (WA (WV (Wq e) (I.ok.cab x c SY hc)))).trans e1⟩
  ·by_cases hj:j=i
   ·subst hj;rw[hi] at e1;cases e1;rw[Za Rm] at e2;cases e2;exact⟨u,r,.inr ⟨.inl hk,c,hc,T7⟩⟩
   ·rw[WQ (Ne.symm hj)] at e2;obtain⟨u',r',q⟩:=hl j y v' e1 e2 e3;refine⟨u',r',?_⟩;rcases q with q|⟨k,c',e,z'⟩
    ·exact .inl q
    ·refine .inr ⟨k,c',e,z'.sameBut hs ?_⟩;rintro rfl;exact hj (pQ hN e1 (I.ok.inj _ _ _ e hc▸hi))
  ·by_cases hcc:c'=c
   ·subst hcc;exact⟨_,T7⟩
   ·obtain⟨w2,z2⟩:=I.cell y c' e;exact⟨w2,z2.sameBut hs hcc⟩
  ·obtain⟨e,n,ne,nf,d⟩:=I.pin p hp;refine⟨(hs.2 p.1 ?_).trans e,n,ne,nf,d⟩;intro q;rw[q,hoc] at e;have q':oc=p.2:=WS e;exact d w' (by rw[←q'];exact hocd)
theorem ji {A:W2}{u:Wd}{Q:Unit->Wr->Prop}(I:av X pins σ H s)(hN:X.N.Nodup)(hi:X.N[i]? = some x)(hx:GY X.env.scope x)(r:aM v u)(h:∀s',av X pins (σ.set i (some v)) H s'->Q () s')(hf:X.fn x=true\/X.env.scope.names.lookup x=some .local:=by first|exact .inl rfl|exact .inr rfl|assumption):Wv M A (storeName X.env x u) Q E s:=
 tq I hN hi hx r (λs' I' _=>h s' I') hf
theorem av.call' {s':Wr}(I:av X pins σ H s)(ho:s'.os=s.os)(u:Un (pP X.stack) ch H H' s.heap s'.heap)(hok:ig X.prog X.w H' s'.heap)(hg:abB s'.gens)(G3:∀b∈ch,(b∈X.ex\/X.s₀.heap.objs.size<=b)/\b≠X.env.locals/\(∀x c,X.env.cells.lookup x=some c->c≠b)/\∀p∈X.pn++pins,p.1≠b):av X pins σ H' s':=by
 obtain⟨h',g',d',t',o'⟩:=s';have e:o'=s.os:=ho;subst e;exact I.call (g':=g') (t':=t') (d':=d') u hok hg G3
end
abbrev XK:=Wd->Option Ww->Hp->Prop
noncomputable abbrev St:=List (Option V)
abbrev VK:=V->Hp->Prop
abbrev TE:=St->Hp->VK->Prop
abbrev TT:=St->Hp->(Bool->Hp->Prop)->Prop
abbrev TA:=St->Hp->(List V->Hp->Prop)->Prop
structure km where
 nx:St->Hp->Prop
 rt:VK
 bk:St->Hp->Prop:=λ_ _=>False
 ct:St->Hp->Prop:=λ_ _=>False
abbrev TS:=km->St->Hp->Prop
def EP (X:Cx)(pins:List (Ww×Obj))(σ:St)(Q:VK)(u:Wd)(s':Wr):Prop:=∃v H',av X pins σ H' s'/\aM v u/\Q v H'
def TP (X:Cx)(pins:List (Ww×Obj))(σ:St)(Q:Bool->Hp->Prop)(b:Bool)(s':Wr):Prop:=∃H',av X pins σ H' s'/\Q b H'
def AP (X:Cx)(pins:List (Ww×Obj))(σ:St)(Q:List V->Hp->Prop)(us:List Wd)(s':Wr):Prop:=∃vs H',av X pins σ H' s'/\aP vs us/\Q vs H'
def SP (X:Cx)(pins:List (Ww×Obj))(D:km)(f:Flow)(s':Wr):Prop:=
 match f with
 | .next=>∃σ' H',av X pins σ' H' s'/\D.nx σ' H'
 | .brk=>∃σ' H',av X pins σ' H' s'/\D.bk σ' H'
 | .cont=>∃σ' H',av X pins σ' H' s'/\D.ct σ' H'
 | .ret u=>∃v σ' H',av X pins σ' H' s'/\aM v u/\D.rt v H'
def PE (X:Cx)(e:X4)(t:TE):Prop:=
 ∀(pins:List (Ww×Obj)) (s:Wr) (σ:St) (H:Hp) (Q:VK),av X pins σ H s->t σ H Q->Wv (WI X.prog X.w) X.A (YX e X.env) (EP X pins σ Q) X.xe s
def PT (X:Cx)(e:X4)(t:TT):Prop:=
 ∀(pins:List (Ww×Obj)) (s:Wr) (σ:St) (H:Hp) (Q:Bool->Hp->Prop),av X pins σ H s->t σ H Q->Wv (WI X.prog X.w) X.A (isTrue e X.env (YX e X.env)) (TP X pins σ Q) X.xe s
def PW (X:Cx)(e:X4)(t:TT):Prop:=
 ∀(mF:Sem Wd) (pins:List (Ww×Obj)) (s:Wr) (σ:St) (H:Hp) (Q:Bool->Hp->Prop),av X pins σ H s->t σ H Q->Wv (WI X.prog X.w) X.A (isTrue e X.env mF) (TP X pins σ Q) X.xe s
theorem PW.pt {X:Cx}{e:X4}{t:TT}(h:PW X e t):PT X e t:=h _
def PA (X:Cx)(es:List X4)(t:TA):Prop:=
 ∀(pos:Pos) (pins:List (Ww×Obj)) (s:Wr) (σ:St) (H:Hp) (Q:List V->Hp->Prop),av X pins σ H s->t σ H Q->Wv (WI X.prog X.w) X.A (spliced (Yp pos (Wm es X.env))) (AP X pins σ Q) X.xe s
def PS (X:Cx)(st:aaX)(t:TS):Prop:=
 ∀(pins:List (Ww×Obj)) (s:Wr) (σ:St) (H:Hp) (D:km),av X pins σ H s->t D σ H->Wv (WI X.prog X.w) X.A (exec st X.env) (SP X pins D) X.xe s
def pR (X:Cx)(st:List aaX)(t:TS):Prop:=
 ∀(pins:List (Ww×Obj)) (s:Wr) (σ:St) (H:Hp) (D:km),av X pins σ H s->t D σ H->Wv (WI X.prog X.w) X.A (execs st X.env) (SP X pins D) X.xe s
theorem cS {α:Type}{t:Sem α}{Q Q':α->Wr->Prop}{A:W2}(h:Wv M A t Q E s)(hQ:∀a s,Q a s->Q' a s):Wv M A t Q' E s:=Xg h hQ λ_ _ x=>x
end L2
variable {X:L2.Cx}{t:L2.TT}{tb:L2.TS}{σ:L2.St}{te:L2.TE}
namespace L2
section
theorem VP {a b:X4}{ta tb:TE}(ha:PE X a ta)(hb:PE X b tb){R:V->V->Hp->Prop}(I:av X pins σ H s)(h:ta σ H λx H1=>tb σ H1 λy H2=>R x y H2){α:Type}{Q:α->Wr->Prop}{f:Wd->Wd->Sem α}(hf:∀v u s2 x y H2,av X pins σ H2 s2->aM x v->aM y u->R x y H2->Wv (WI X.prog X.w) X.A (f v u) Q X.xe s2) :
  Wv (WI X.prog X.w) X.A (YX a X.env) (λv s₁=>Wv (WI X.prog X.w) X.A (YX b X.env) (λu s₂=>Wv (WI X.prog X.w) X.A (f v u) Q X.xe s₂) X.xe s₁) X.xe s:=by
 refine cS (ha pins s σ H _ I h) λv s1 ⟨x,H1,I1,r1,q1⟩=>?_;refine cS (hb pins s1 σ H1 _ I1 q1) λu s2 ⟨y,H2,I2,r2,q2⟩=>?_;exact hf v u s2 x y H2 I2 r1 r2 q2
def Dl (i:Nat):TE:=λσ H Q=>∃v,σ[i]? = some (some v)/\Q v H
def tC (v:V):TE:=λ_ H Q=>Q v H
theorem eJ (hN:X.N[i]? = some x)(hv:yx X.env.scope x)(hd:(x==("__debug__":Str))=false:=by decide)(iF:(x==("__classdict__":Str))=false:=by decide):PE X (.Name x pos) (Dl i):=by
 intro pins s σ H Q I h;obtain⟨v,e,h⟩:=h;obtain⟨m,hn,hl⟩:=I.loc;obtain⟨u,r,l⟩:=hl i x v hN e hv;have fin:EP X pins σ Q u s:=⟨v,H,I,r,h⟩;rcases l with⟨hk,hm⟩|⟨hk,c,hc,uF⟩
 ·exact wpAny_Name (wpAny_loadName_local I.ok.kind hk hn hm fin) hd
 ·rcases hk with hk|hk
  ·exact wpAny_Name (wpAny_loadName_cell I.ok.kind hk hc uF fin) hd
  ·exact wpAny_Name (wpAny_loadName_free I.ok.kind hk hc uF fin iF) hd
theorem Dm {i j pos}:PE X (.Constant (.int i) j pos) (tC (.int i)):=λ_ _ _ H _ I h=>wpAny_Constant_int ⟨.int i,H,I.tok _,⟨_,rfl⟩,h⟩
theorem z_ {b j pos}:PE X (.Constant (.bool b) j pos) (tC (.bl b)):=λ_ _ _ H _ I h=>Constant_bool ⟨.bl b,H,I,rfl,h⟩
theorem g5 {x j pos}:PE X (.Constant (.str x) j pos) (tC (.str x)):=λ_ _ _ H _ I h=>abl ⟨.str x,H,I.tok _,⟨_,rfl⟩,h⟩
def Gl (X:Cx)(x:Str):Prop:=X.env.kindOf x=some .globalImplicit
theorem jL {u:Wd}(I:av X pins σ H s)(hg:Gl X x)(hm:X.mg x=some u)(h:Q u s)(hd:(x==("__debug__":Str))=false:=by decide):Wv (WI X.prog X.w) X.A (YX (.Name x pos) X.env) Q E s:=
 abb I.ok.kind hg (Calls.loadGlobal_global (by rw[I.ok.glob];exact I.mod.glob.keeps I.bk) hm h) hd
theorem pS {u:Wd}(I:av X pins σ H s)(hg:Gl X x)(hm:X.mg x=none)(hv:W6 x=some u)(h:Q u s)(hn:x≠"__name__":=by decide)(hd:(x==("__debug__":Str))=false:=by decide):Wv (WI X.prog X.w) X.A (YX (.Name x pos) X.env) Q E s:=by
 obtain⟨mb,h1,h2⟩:=I.mod.blt;exact abb I.ok.kind hg (Calls.loadGlobal_builtin (by rw[I.ok.glob];exact I.mod.glob.keeps I.bk) hm (by rw[I.ok.blt];exact h1.keeps I.bk) ((h2 x hn).trans hv) h) hd
theorem uK {u:Wd}(hg:Gl X x)(hm:X.mg x=some u)(r:aM v u)(hd:(x==("__debug__":Str))=false:=by decide):PE X (.Name x pos) (tC v):=
 λ_ _ _ H _ I h=>jL I hg hm ⟨v,H,I,r,h⟩ hd
theorem ph {u:Wd}(hg:Gl X x)(hm:X.mg x=none)(hv:W6 x=some u)(r:aM v u)(hn:x≠"__name__":=by decide)(hd:(x==("__debug__":Str))=false:=by decide):PE X (.Name x pos) (tC v):=
 λ_ _ _ H _ I h=>pS I hg hm hv ⟨v,H,I,r,h⟩ hn hd
variable {a b:X4}{ta tb:TE}
def PC (X:Cx)(op:CmpOp)(a b:X4)(t:TE):Prop:=
 ∀(pins:List (Ww×Obj)) (s:Wr) (σ:St) (H:Hp) (Q:VK),av X pins σ H s->t σ H Q->
  Wv (WI X.prog X.w) X.A (YX a X.env) (λv s₁=>Wv (WI X.prog X.w) X.A (YX b X.env) (λu s₂=>Wv (WI X.prog X.w) X.A (XN op v u) (EP X pins σ Q) X.xe s₂) X.xe s₁) X.xe s
def tB (t:TE):TT:=λσ H Q=>t σ H λx H1=>∃c,x=.bl c/\Q c H1
theorem Rx {t:TE}(h:PC X op a b t)(h1:Zw op b=false:=by first|exact nobehind _ (by decide) (by decide)|rfl):PT X (.Compare a [op] [b] pos) (tB t):=by
 intro pins s σ H Q I hw;refine wpAny_isTrue_Compare1 (cS (h pins s σ H _ I hw) λv s1 h1=>cS h1 λu s2 h2=>cS h2 λc s3 ⟨x,H1,I1,r1,q1⟩=>?_) h1;obtain⟨d,rfl,q⟩:=q1;cases r1;exact YY ⟨H1,I1,q⟩
theorem Dn {e:X4}{t:TE}(h:PE X e t)(he:∀mF,isTrue e X.env mF=(do let v ←mF;standAt e.pos;holding [v] (truthy v)):=by intro _;rfl):PT X e (tB t):=by
 intro pins s σ H Q I hw;refine isTrue_plain (cS (h pins s σ H _ I hw) λv s1 ⟨x,H1,I1,r1,q1⟩=>?_) (he _);obtain⟨d,rfl,q⟩:=q1;cases r1;exact YY ⟨H1,I1,q⟩
variable {tA tB':TT}{rest:List X4}
def OD (t u:TT):TT:=λσ H Q=>t σ H λc H1=>if c=true then u σ H1 Q else Q false H1
def Tv (t u:TT):TT:=λσ H Q=>t σ H λc H1=>if c=true then Q true H1 else u σ H1 Q
def Ry (t:TT):TT:=λσ H Q=>t σ H λc H1=>Q (!c) H1
theorem Ha (ha:PT X a tA):PW X (.BoolOp .And [a] pos) tA:=by
 intro wh pins s σ H Q I h;refine isTrue_and (cS (ha pins s σ H Q I h) λc s1 e=>?_);cases c with
 |true=>exact isTrue_and_nil e
 |false=>exact e
theorem Ls (ha:PT X a tA):PW X (.BoolOp .Or [a] pos) tA:=by
 intro wh pins s σ H Q I h;refine isTrue_or (cS (ha pins s σ H Q I h) λc s1 e=>?_);cases c with
 |false=>exact isTrue_or_nil e
 |true=>exact e
theorem Lu (ha:PT X a tA)(hb:PW X (.BoolOp .And (b::rest) pos) tB'):PW X (.BoolOp .And (a::b::rest) pos) (OD tA tB'):=by
 intro wh pins s σ H Q I h;refine isTrue_and (cS (ha pins s σ H _ I h) λc s1 ⟨H1,I1,q1⟩=>?_);cases c with
 |true=>exact hb wh pins s1 σ H1 Q I1 q1
 |false=>exact⟨H1,I1,q1⟩
theorem OE (ha:PT X a tA)(hb:PW X (.BoolOp .Or (b::rest) pos) tB'):PW X (.BoolOp .Or (a::b::rest) pos) (Tv tA tB'):=by
 intro wh pins s σ H Q I h;refine isTrue_or (cS (ha pins s σ H _ I h) λc s1 ⟨H1,I1,q1⟩=>?_);cases c with
 |true=>exact⟨H1,I1,q1⟩
 |false=>exact hb wh pins s1 σ H1 Q I1 q1
theorem Dq (ha:PT X a tA):PT X (.UnaryOp .Not a pos) (Ry tA):=by
 intro pins s σ H Q I h;exact isTrue_not (ha pins s σ H (λc H1=>Q (!c) H1) I h)
def OF (ta tb:TE):TE:=λσ H Q=>ta σ H λx H1=>∃c,x=.bl c/\if c=true then tb σ H1 Q else Q (.bl false) H1
theorem Lw {op}{t:TE}(h:PE X a t):PE X (.BoolOp op [a] pos) t:=λpins s σ H Q I hw=>BoolOp_one (h pins s σ H Q I hw)
theorem Lx (ha:PE X a ta)(hb:PE X (.BoolOp .And (b::rest) pos) tb):PE X (.BoolOp .And (a::b::rest) pos) (OF ta tb):=by
 intro pins s σ H Q I h;refine BoolOp_and (cS (ha pins s σ H _ I h) λv s1 ⟨x,H1,I1,r1,q1⟩=>?_);obtain⟨c,rfl,q1⟩:=q1;cases r1;refine YY ?_;cases c with
 |true=>exact hb pins s1 σ H1 Q I1 q1
 |false=>exact⟨.bl false,H1,I1,rfl,q1⟩
end
end L2
namespace L2
def eF (K:Wc)(H:Hp)(a:Ww)(xs:List V):Prop:=
 Rd H a (.lst xs) \/
  ∃(o:Obj) (ao:Array Wd) (n:Nat),K.lookup a=some o/\o.cls=.type "list"/\o.dict=none/\o.data=.seq ao n/\ao.size<=Wa/\aP xs ao.toList
def eZ (K:Wc)(H:Hp)(a:Ww)(xs:List V):Prop:=
 Rd H a (.tup xs) \/
  ∃(o:Obj) (ao:Array Wd) (n:Nat),K.lookup a=some o/\o.cls=.type "tuple"/\o.data=.seq ao n/\ao.size<=Wa/\aP xs ao.toList
noncomputable def Rz:Wd->Option V
 | .none=>some .non
 | .bool b=>some (.bl b)
 | .int i _=>some (.int i)
 | .str x _=>some (.str x)
 | .bytes b _=>some (.byt b)
 | .float b _=>some (.flt b)
 | .ref a=>some (.ref a)
 | .type n=>some (.ty n)
 |_=>none
theorem aM.abs {x:V}{u:Wd}(r:aM x u):Rz u=some x:=by
 cases x with
 |non=>cases r;rfl
 |bl _=>cases r;rfl
 |int _=>obtain⟨t,rfl⟩:=r;rfl
 |str _=>obtain⟨t,rfl⟩:=r;rfl
 |byt _=>obtain⟨t,rfl⟩:=r;rfl
 |flt _=>obtain⟨t,rfl⟩:=r;rfl
 |ref _=>cases r;rfl
 |ty _=>cases r;rfl
theorem aM.inj {x:V}{u:Wd}(r:aM x u)(q:aM y u):x=y:=WS (r.abs.symm.trans q.abs)
theorem aP.inj:∀{xs ys:List V} {us:List Wd},aP xs us->aP ys us->xs=ys
 |_,_,_,.nil,.nil=>rfl
 |_,_,_,.cons r t,.cons r' t'=>by rw[r.inj r',aP.inj t t']
section
variable {ys:List V}
theorem eF.of (h:H a=some (.lst xs)):eF K H a xs:=.inl (.inl h)
theorem eZ.of (h:H a=some (.tup xs)):eZ K H a xs:=.inl (.inl h)
theorem av.list (I:av X pins σ H s)(h:eF X.K H a xs):∃ao:List Wd,aP xs ao/\PlainL s.heap a ao.toArray/\xs.length<=Wa:=by
 rcases h with h|⟨o,ao,n,hk,hc,hd,hs,hz,r⟩
 ·obtain⟨z,ao,n,r,e⟩:=h.ok I.hok;exact⟨ao,r,⟨_,n,e,rfl,rfl,rfl⟩,z⟩
 ·refine⟨ao.toList,r,⟨o,n,I.kIn a o hk,hc,hd,by simpa using hs⟩,?_⟩;have e:=r.length;simp only[Wg] at e;lia
theorem av.tuple (I:av X pins σ H s)(h:eZ X.K H a xs):∃ao:List Wd,aP xs ao/\IsTup s.heap a ao.toArray/\xs.length<=Wa:=by
 rcases h with h|⟨o,ao,n,hk,hc,hs,hz,r⟩
 ·obtain⟨z,ao,r,p,_⟩:=h.ok I.hok;exact⟨ao,r,p,z⟩
 ·refine⟨ao.toList,r,⟨o,I.kIn a o hk,hc,n,by simpa using hs⟩,?_⟩;have e:=r.length;simp only[Wg] at e;lia
theorem av.list_inj (I:av X pins σ H s)(h:eF X.K H a xs)(h':eF X.K H a ys):xs=ys:=by
 obtain⟨ao,r,⟨o,n,e,_,_,d⟩,_⟩:=I.list h;obtain⟨its',r',⟨o',n',e',_,_,d'⟩,_⟩:=I.list h';rw[e] at e';cases e';rw[d] at d';injection d' with d1 _
 have:ao=its':=by simpa using congrArg Array.toList d1
 subst this;exact r.inj r'
theorem av.tuple_inj (I:av X pins σ H s)(h:eZ X.K H a xs)(h':eZ X.K H a ys):xs=ys:=by
 obtain⟨ao,r,⟨o,e,_,n,d⟩,_⟩:=I.tuple h;obtain⟨its',r',⟨o',e',_,n',d'⟩,_⟩:=I.tuple h';rw[e] at e';cases e';rw[d] at d';injection d' with d1 _
 have:ao=its':=by simpa using congrArg Array.toList d1
 subst this;exact r.inj r'
end
noncomputable abbrev Cx.wish (X:Cx)(E:Wd->Wr->Prop):Cx:={X with xe:=E}
noncomputable abbrev Cx.nox (X:Cx):Cx:=X.wish λ_ _=>False
theorem Cx.Ok.wish (ok:X.Ok)(E:Wd->Wr->Prop):(X.wish E).Ok:=
 ⟨ok.mod,ok.kind,ok.glob,ok.blt,ok.above,ok.inj,ok.has,ok.cab,ok.hd,ok.frames,ok.stk,ok.exf,ok.bs,ok.bsz,ok.noex,ok.exfs,ok.funs,ok.frf⟩
theorem Cx.Ok.unwish (ok:(X.wish E).Ok):X.Ok:=
 ⟨ok.mod,ok.kind,ok.glob,ok.blt,ok.above,ok.inj,ok.has,ok.cab,ok.hd,ok.frames,ok.stk,ok.exf,ok.bs,ok.bsz,ok.noex,ok.exfs,ok.funs,ok.frf⟩
theorem av.wish (I:av X pins σ H s)(E:Wd->Wr->Prop):av (X.wish E) pins σ H s:=⟨I.ok.wish E,I.os,I.bare,I.base,I.loc,I.cell,I.free,I.freeC,I.pin,I.hok,I.len⟩
theorem av.unwish (I:av (X.wish E) pins σ H s):av X pins σ H s:=⟨I.ok.unwish,I.os,I.bare,I.base,I.loc,I.cell,I.free,I.freeC,I.pin,I.hok,I.len⟩
theorem SP.unwish {D:km}{f:Flow}{s':Wr}(h:SP (X.wish E) pins D f s'):SP X pins D f s':=by
 cases f with
 |next=>obtain⟨σ',H',I,q⟩:=h;exact⟨σ',H',I.unwish,q⟩
 |brk=>obtain⟨σ',H',I,q⟩:=h;exact⟨σ',H',I.unwish,q⟩
 |cont=>obtain⟨σ',H',I,q⟩:=h;exact⟨σ',H',I.unwish,q⟩
 |ret u=>obtain⟨v,σ',H',I,r,q⟩:=h;exact⟨v,σ',H',I.unwish,r,q⟩
theorem pR.nox {st:List aaX}{t:TS}(h:pR X.nox st t):pR X st t:=λpins s σ H D I hw=>
 Xg (h pins s σ H D (I.wish _) hw) (λ_ _ q=>q.unwish) λ_ _ z=>XA z
section
variable {rest:List aaX}{t u:TS}{e:X4}
def OG:TS:=λD σ H=>D.nx σ H
def RA (t u:TS):TS:=λD σ H=>t {D with nx:=u D} σ H
theorem uL:pR X [] OG:=λ_ _ σ H _ I h=>Z3 ⟨σ,H,I,h⟩
theorem jj (h1:PS X st t)(h2:pR X rest u):pR X (st::rest) (RA t u):=by
 intro pins s σ H D I h;refine wpAny_execs_cons (cS (h1 pins s σ H {D with nx:=u D} I h) λf s1 q=>?_);cases f with
 |next=>
  obtain⟨σ',H',I',q⟩:=q;exact h2 pins s1 σ' H' D I' q
 |ret v=>exact q
 |brk=>exact q
 |cont=>exact q
theorem jM (h1:PS X st t):pR X [st] t:=by
 intro pins s σ H D I h;refine wpAny_execs_cons (cS (h1 pins s σ H D I h) λf s1 q=>?_);cases f with
 |next=>exact Z3 q
 |ret v=>exact q
 |brk=>exact q
 |cont=>exact q
theorem av.quiet (I:av X pins σ H s):interactive X.env=false:=by simp[interactive,I.ok.kind]
def OH (te:TE):TS:=λD σ H=>te σ H λ_ H1=>D.nx σ H1
theorem Hb (he:PE X e te)(hs:Z4 e none pos.line X.env=pure false:=by rfl):PS X (.Expr e pos) (OH te):=by
 intro pins s σ H D I h;exact wpAny_Expr_any (cS (he pins s σ H _ I h) λv s1 ⟨x,H1,I1,r1,q1⟩=>⟨σ,H1,I1,q1⟩) I.quiet hs
def RB (te:TE):TS:=λD σ H=>te σ H D.rt
theorem kn (he:PE X e te):PS X (.Return (some e) pos) (RB te):=by
 intro pins s σ H D I h;exact wpAny_Return_some (cS (he pins s σ H _ I h) λv s1 ⟨x,H1,I1,r1,q1⟩=>⟨x,σ,H1,I1,r1,q1⟩)
def RC (c:TT)(t u:TS):TS:=λD σ H=>c σ H λb H1=>if b=true then t D σ H1 else u D σ H1
theorem Dr {a b:List aaX}{tc:TT}(hc:PT X c tc)(ha:pR X a t)(hb:pR X b u):PS X (.If c a b pos) (RC tc t u):=by
 intro pins s σ H D I h;refine wpAny_If (cS (hc pins s σ H _ I h) λd s1 ⟨H1,I1,q1⟩=>?_);cases d with
 |true=>exact ha pins s1 σ H1 D I1 q1
 |false=>exact hb pins s1 σ H1 D I1 q1
end
abbrev TG:=V->St->Hp->(St->Hp->Prop)->Prop
abbrev Hd:=List V->St->Hp->(St->Hp->Prop)->Prop
def PG (X:Cx)(nK:X4)(t:TG):Prop:=
 ∀(pins:List (Ww×Obj)) (s:Wr) (σ:St) (H:Hp) (v:V) (u:Wd) (Q:St->Hp->Prop),av X pins σ H s->aM v u->t v σ H Q->
  Wv (WI X.prog X.w) X.A (assign nK X.env u) (λ_ s'=>∃σ' H',av X pins σ' H' s'/\Q σ' H') X.xe s
def JJ (X:Cx)(ts:List X4)(t:Hd):Prop:=
 ∀(pins:List (Ww×Obj)) (s:Wr) (σ:St) (H:Hp) (vs:List V) (us:List Wd) (Q:St->Hp->Prop),av X pins σ H s->aP vs us->t vs σ H Q->
  Wv (WI X.prog X.w) X.A (assignInOrder ((Y9 ts X.env).map (·.2)) us) (λ_ s'=>∃σ' H',av X pins σ' H' s'/\Q σ' H') X.xe s
abbrev Ly:=V->V->V->Hp->(Hp->Prop)->Prop
def OI (X:Cx)(t:Ly):Prop:=
 ∀(pins:List (Ww×Obj)) (s:Wr) (σ:St) (H:Hp) (o i v:V) (ov iv u:Wd) (Q:Hp->Prop),av X pins σ H s->aM o ov->aM i iv->aM v u->t o i v H Q->
  Wv (WI X.prog X.w) X.A (setItem ov iv u) (λ_ s'=>∃H',av X pins σ H' s'/\Q H') X.xe s
def wz (i:Nat):TG:=λv σ H Q=>Q (σ.set i (some v)) H
theorem He (hN:X.N.Nodup)(hi:X.N[i]? = some x)(hx:GY X.env.scope x)(hf:X.fn x=true\/X.env.scope.names.lookup x=some .local:=by first|exact .inl rfl|exact .inr rfl|assumption):PG X (.Name x pos) (wz i):=by
 intro pins s σ H v u Q I r h;exact wpAny_assign_Name (ji I hN hi hx r (λs' I'=>⟨_,H,I',h⟩) hf)
def RD:Hd:=λvs σ H Q=>vs=[]/\Q σ H
def OJ (t:TG)(u:Hd):Hd:=λvs σ H Q=>∃v r,vs=v::r/\t v σ H λσ' H'=>u r σ' H' Q
theorem Hf:JJ X [] RD:=by
 intro pins s σ H vs us Q I r h;obtain⟨e,h⟩:=h;subst e;cases r;exact assignInOrder_nil ⟨σ,H,I,h⟩
theorem Ds {e:X4}{es:List X4}{t:TG}{u:Hd}(h1:PG X e t)(h2:JJ X es u)
  (hs:(Y9 (e::es) X.env).map (·.2)=assign e X.env::(Y9 es X.env).map (·.2):=by rfl):JJ X (e::es) (OJ t u):=by
 intro pins s σ H vs us Q I r h;obtain⟨v,vr,e1,h⟩:=h;subst e1;cases r with
 |cons r rr=>
  rw[hs];refine abm (cS (h1 pins s σ H _ _ _ I r h) λ_ s1 ⟨σ1,H1,I1,q1⟩=>?_);exact h2 pins s1 σ1 H1 _ _ Q I1 rr q1
def RE (K:Wc)(n:Nat)(t:Hd):TG:=λv σ H Q=>∃a xs,v=.ref a/\eZ K H a xs/\xs.length=n/\t xs σ H Q
theorem Lz {es:List X4}{t:Hd}(hc:X.calm=true)(h:JJ X es t)(hn:(Y9 es X.env).length=n:=by rfl)(fU:(Y9 es X.env).findIdx? (·.1)=none:=by rfl):PG X (.Tuple es k pos) (RE X.K n t):=by
 intro pins s σ H v u Q I r hw;obtain⟨a,xs,e1,hq,hl,hw⟩:=hw;subst e1;cases r;obtain⟨ao,rv,ht,hz⟩:=I.tuple hq;refine assign_Tuple_tuple (I.ok.hd hc) ht (by simp[hn,←hl,rv.length]) fU λh' hx=>?_;have I1:av X pins σ H {s with heap:=h'}:=I.kept (t':=s.toks) λb o e=>hx b o (WA (Wq e)) e;exact h pins _ σ H xs _ Q I1 (by simpa using rv) hw
def RF (to ti:TE)(t:Ly):TG:=λv σ H Q=>to σ H λo H1=>ti σ H1 λi H2=>t o i v H2 λH3=>Q σ H3
theorem LA {o i:X4}{to ti:TE}{t:Ly}(ho:PE X o to)(hi:PE X i ti)(hs:OI X t)
  (ha:∀v,assign (.Subscript o i pos) X.env v=(do
   let ov ←holding [v] (YX o X.env)
   let iv ←holding [v,ov] (YX i X.env)
   standAt pos
   holding [v,ov,iv] (setItem ov iv v)
   release [v,ov,iv] []):=by intro _;rfl):PG X (.Subscript o i pos) (RF to ti t):=by
 intro pins s σ H v u Q I r h;rw[ha];refine V3 (Xp (cS (ho pins s σ H _ I h) λov s1 ⟨x,H1,I1,r1,q1⟩=>?_));refine V3 (Xp (cS (hi pins s1 σ H1 _ I1 q1) λiv s2 ⟨y,H2,I2,r2,q2⟩=>?_));refine V3 (aaS (V3 (Xp (cS (hs pins s2 σ H2 x y v ov iv u _ I2 r1 r2 r q2) λ_ s3 ⟨H3,I3,q3⟩=>?_))));exact wpAny_release ⟨σ,H3,I3,q3⟩
def Dt (te:TE)(g:TG):TS:=λD σ H=>te σ H λx H1=>g x σ H1 D.nx
theorem LB {e:X4}{g:TG}(he:PE X e te)(hg:PG X tg g)(hs:swapsWithSole [tg] e pos.line X.env=pure false:=by rfl)(hw:swappedStores [tg] e X.env=pure none:=by rfl)(h1:(Y9 [tg] X.env).map (·.2)=[assign tg X.env]:=by rfl):PS X (.Assign [tg] e pos) (Dt te g):=by
 intro pins s σ H D I h;refine wpAny_Assign_stores (cS (he pins s σ H _ I h) λv s1 ⟨x,H1,I1,r1,q1⟩=>?_) hs hw;rw[h1];exact cS (hg pins s1 σ H1 x v _ I1 r1 q1) λ_ s2 q=>q
theorem pT {e:X4}{je:Pos}(hN:X.N.Nodup)(hi:X.N[i]? = some x)(hx:GY X.env.scope x)(he:PE X e te)(hs:Z4 e (some (.Name x je)) pos.line X.env=pure false:=by rfl)(hf:X.fn x=true\/X.env.scope.names.lookup x=some .local:=by first|exact .inl rfl|exact .inr rfl|assumption) :
  PS X (.Assign [.Name x je] e pos) (Dt te (wz i)):=by
 intro pins s σ H D I h;refine wpAny_Assign_Name (cS (he pins s σ H _ I h) λv s1 ⟨y,H1,I1,r1,q1⟩=>?_) hs;exact ji I1 hN hi hx r1 (λs2 I2=>⟨_,H1,I2,q1⟩) hf
def RG (i j:Nat)(ta:TA):TS:=λD σ H=>ta σ H λvs H1=>∃v w,vs=[v,w]/\D.nx ((σ.set i (some v)).set j (some w)) H1
theorem LC {y:Str}{a b:X4}{ta:TA}{px py pt:Pos}{kt k2 pt2}(hc:X.calm=true)(hN:X.N.Nodup)(hi:X.N[i]? = some x)(hj:X.N[j]? = some y)(tf:i≠j)(hx:X.env.scope.names.lookup x=some .local)(hy:X.env.scope.names.lookup y=some .local)(ha:PA X [a,b] ta)(hw:swappedStores [.Tuple [.Name x px,.Name y py] kt pt] (.Tuple [a,b] k2 pt2) X.env=pure (some [x,y]))(hs:swapsWithSole [.Tuple [.Name x px,.Name y py] kt pt] (.Tuple [a,b] k2 pt2) pos.line X.env=pure false:=by rfl) :
  PS X (.Assign [.Tuple [.Name x px,.Name y py] kt pt] (.Tuple [a,b] k2 pt2) pos) (RG i j ta):=by
 intro pins s σ H D I h;rw[exec_Assign_arm];refine V3 (aaS ?_);rw[hs];refine V3 (V8 ?_);rw[hV (by decide)];refine V3 (Tuple_ (cS (ha _ pins s σ H _ I h) λus s1 ⟨vs,H1,I1,r1,q1⟩=>?_));obtain⟨v,w,e1,q1⟩:=q1;subst e1;obtain⟨u1,u2,rfl,rv,yp⟩:∃u1 u2,us=[u1,u2]/\aM v u1/\aM w u2:=by
  cases r1 with
  |cons p q=>
   cases q with
   |cons p' q'=>
    cases q';exact⟨_,_,rfl,p,p'⟩
 refine WR ?_ (by show 2<=Wa;decide);have I2:av X pins σ H1 {s1 with heap:=s1.heap.push {cls:=.type "tuple",data:=.seq [u1,u2].toArray}}:=I1.kept (t':=s1.toks) λb o e=>V7 _ e;rw[hw];refine V3 (V8 ?_);show Wv (WI X.prog X.w) X.A (do rule "assign.swapped-stores";let items ←unpackItems (.ref s1.heap.objs.size) 2 none;assignInOrder [λv=>bindName X.env y v,λv=>bindName X.env x v] items.reverse;pure Flow.next) _ _ _;refine V3 (YI (V3 (unpackItems_tuple (items:=(List.toArray [u1,u2])) (I.ok.hd hc) (IsTup.new s1.heap _) λh' sG=>?_)));have I3:=I2.kept (h':=h') (t':=s1.toks) λb o e=>sG b o (WA (Wq e)) e;show Wv _ _ (assignInOrder [λv=>bindName X.env y v,λv=>bindName X.env x v] [u2,u1] >>= λ_=>pure Flow.next) _ _ _;refine V3 (abm (wpAny_bindName (ji I3 hN hj (.inl hy) yp (λs2 I4=>?_) (.inr hy))));refine abm (wpAny_bindName (ji I4 hN hi (.inl hx) rv (λs3 I5=>assignInOrder_nil (V8 ?_)) (.inr hx)));rw[List.set_comm _ _ (Ne.symm tf)] at I5;exact⟨_,H1,I5,q1⟩
def LD (c:TT)(tb:TS):TS:=λD σ H=>∃W:Nat->St->Hp->Prop,(∃m,W m σ H)/\∀m σ H,W m σ H->
 c σ H λb H1=>if b=true then ∃N:St->Hp->Prop,(∀σ' H',N σ' H'->∃m',m'<m/\W m' σ' H')/\tb {D with nx:=N,ct:=N,bk:=D.nx} σ H1 else D.nx σ H1
theorem Du {tc:TT}(hp:ab0 (WI X.prog X.w) X.A X.env X.xe)(hc:PT X c tc)(hb:pR X body tb):PS X (.While c body [] pos) (LD tc tb):=by
 intro pins s σ H D I h;obtain⟨W,⟨m0,w0⟩,turn⟩:=h;refine wpAny_While (codeAny_whileLoop (λn s'=>∃σ' H',av X pins σ' H' s'/\W n σ' H') ?_ m0 ⟨σ,H,I,w0⟩);rintro n s1 ⟨σ1,H1,I1,w1⟩;refine YZ hp (cS (hc pins s1 σ1 H1 _ I1 (turn n σ1 H1 w1)) λb s2 ⟨H2,I2,q2⟩=>?_);cases b with
 |true=>
  obtain⟨N,hN,q2⟩:=q2;rw[hZ rfl];refine YZ hp (cS (hb pins s2 σ1 H2 _ I2 q2) λf s3 q3=>?_);cases f with
  |next=>
   obtain⟨σ3,H3,I3,n3⟩:=q3;obtain⟨m',hm,w3⟩:=hN σ3 H3 n3;exact⟨m',hm,σ3,H3,I3,w3⟩
  |cont=>
   obtain⟨σ3,H3,I3,n3⟩:=q3;obtain⟨m',hm,w3⟩:=hN σ3 H3 n3;exact⟨m',hm,σ3,H3,I3,w3⟩
  |brk=>exact q3
  |ret v=>exact q3
 |false=>
  rw[hV V5];exact Z3 ⟨σ1,H2,I2,q2⟩
structure It where
 go:Nat->Hp->Prop
 yld:Nat->Hp->V->Hp->Prop
 stop:Nat->Hp->Prop
def oP (X:Cx)(pins:List (Ww×Obj))(H:Hp)(b:Ww):Prop:=
 H b=none/\b≠X.env.locals/\b∉X.fs/\(b∈X.ex\/X.s₀.heap.objs.size<=b)/\(∀x c,X.env.cells.lookup x=some c->c≠b)/\∀p∈X.pn++pins,p.1≠b
theorem av.fpOk (I:av X pins σ H s)(hb:s.heap.objs.size<=b)(hn:H' b=none):oP X pins H' b:=by
 refine⟨hn,ZW (WV I.lt hb),I.nofs hb,.inr (WD I.sz hb),λx c e z=>?_,λp hp z=>?_⟩
 ·obtain⟨v,q⟩:=I.cell x c e;exact absurd (WV q.lt (by rw[z];exact hb)) (Yz _)
 ·exact absurd (WV (Wq (I.pin p hp).1) (by rw[z];exact hb)) (Yz _)
structure yy (P:YG)(w:Xt)(K:Wc)(tg:X4)(J:It)(fp:List Ww)(it:Ww)(tn:Nat->Y5->Prop):Prop where
 mem:it∈fp
 obj:∀i h,tn i h->∀b∈fp,∃o,h.get? b=some o/\∀v,o.data≠.cell v
 keep:∀i h h',tn i h->(∀b∈fp,∀o,h.get? b=some o->h'.get? b=some o)->tn i h'
 item:∀(X:Cx),X.prog=P->X.w=w->X.K=K->X.calm=true->∀(i:Nat) (pins:List (Ww×Obj)) (s:Wr) (σ:St) (H:Hp) (E:Wd->Wr->Prop),av X pins σ H s->(∀b∈fp,oP X pins H b)->tn i s.heap->J.go i H->
  Wv (WI P w) X.A (aaN (.ref it)) (λr s1=>∃u,r=some u/\
   Wv (WI P w) X.A (aaY tg (.ref it) u) (λ_ s2=>∃x H',av X pins σ H' s2/\aM x u/\J.yld i H x H'/\tn (i+1) s2.heap/\∀b∈fp,H' b=none) E s1) E s
 done:∀(X:Cx),X.prog=P->X.w=w->X.K=K->X.calm=true->∀(i:Nat) (pins:List (Ww×Obj)) (s:Wr) (σ:St) (H:Hp) (E:Wd->Wr->Prop),av X pins σ H s->(∀b∈fp,oP X pins H b)->tn i s.heap->J.stop i H->
  Wv (WI P w) X.A (aaN (.ref it)) (λr s1=>r=none/\av X pins σ H s1) E s
 self:∀(A:W2) (i:Nat) (s:Wr) (Q:Wd->Wr->Prop) (E:Wd->Wr->Prop),tn i s.heap->Q (.ref it) s->Wv (WI P w) A (pyIter (.ref it)) Q E s
abbrev TI:=St->Hp->(It->Hp->Prop)->Prop
def Tw (X:Cx)(pins:List (Ww×Obj))(σ:St)(tg:X4)(R:It->Hp->Prop)(Rn:Wd)(s2:Wr):Prop:=
 ∃(it:Ww) (fp:List Ww) (tn:Nat->Y5->Prop) (J:It) (H':Hp),Rn=.ref it/\av X pins σ H' s2/\yy X.prog X.w X.K tg J fp it tn/\tn 0 s2.heap/\(∀b∈fp,oP X pins H' b)/\R J H'
def PI (X:Cx)(tg iter:X4)(wi:TI):Prop:=
 ∀(pins:List (Ww×Obj)) (s:Wr) (σ:St) (H:Hp) (R:It->Hp->Prop),av X pins σ H s->wi σ H R->
  Wv (WI X.prog X.w) X.A (YX iter X.env) (λv s1=>Wv (WI X.prog X.w) X.A (pyIter v) (Tw X pins σ tg R) X.xe s1) X.xe s
theorem Aa {A:W2}{u:Wd}{o:Obj}{n:String}{vs:Array Wd}{Q:Unit->Wr->Prop}(ho:s.heap.get? it=some o)(hc:o.cls=.type n)(hd:o.data=.fields vs)(hn:["enumerate","zip","dict_itemiterator","dict_reverseitemiterator","odict_iterator","itertools.zip_longest","itertools.pairwise"].contains n=false)(hQ:Q () s):Wv M A (aaY tg (.ref it) u) Q E s:=by
  unfold aaY;cases tg<;>first
    |exact V8 hQ
    | (cases u<;>first
        |exact V8 hQ
        | (refine V3 (wpAny_load ho ?_)
           rw[hc,hd];show Wv M A (if (["enumerate","zip","dict_itemiterator","dict_reverseitemiterator","odict_iterator","itertools.zip_longest","itertools.pairwise"].contains n&&vs[0]? == some (aag _))=true then _ else _) Q E s;rw[hV (by intro h;rw[hn,aaw] at h;cases h)];exact V8 hQ))
noncomputable def QS (K:Wc)(a:Ww):It:=
 ⟨λi H=>∃xs x,eF K H a xs/\xs[i]? = some x,λi H x H'=>H'=H/\∀xs,eF K H a xs->xs[i]? = some x,λi H=>∃xs,eF K H a xs/\xs.length<=i⟩
noncomputable def RH (K:Wc)(a:Ww):It:=
 ⟨λi H=>∃xs x,eZ K H a xs/\xs[i]? = some x,λi H x H'=>H'=H/\∀xs,eZ K H a xs->xs[i]? = some x,λi H=>∃xs,eZ K H a xs/\xs.length<=i⟩
noncomputable def QT (lo:Int)(n:Nat):It:=⟨λi _=>i<n,λi H x H'=>H'=H/\x=.int (lo+i),λi _=>n<=i⟩
theorem BN {w:Xt}(a it:Ww):yy P w K tg (QS K a) [it] it (λi h=>h.IsListIter it a i) where
 mem:=by simp
 obj:=λi h st b hb=>by
  have e:b=it:=by simpa using hb
  subst e;obtain⟨o,e,c,d⟩:=st;exact⟨o,e,λv z=>by rw[d] at z;cases z⟩
 keep:=λi h h' st k=>st.at λo e=>k it (by simp) o e
 item:=by
  intro X hP hw hK hc i pins s σ H E I hf st hg;subst hP hw hK;obtain⟨xs,x,hq,hx⟩:=hg;obtain⟨ao,rv,p,hz⟩:=I.list hq;obtain⟨u,hu,ru⟩:=rv.get hx;obtain⟨f0,f1,f2,f3,f4,f5⟩:=hf it (by simp);refine wpAny_pyNext_list_item st p.isList (x:=u) (by simpa using hu) λh' aK sb=>?_;have I1:av X pins σ H {s with heap:=h'}:=I.turned (t':=s.toks) (λb o hb e=>(sb.2 b hb).trans e) f0 f1 f3 f4 f5;obtain⟨o,e,c,d⟩:=id aK;exact⟨u,rfl,Aa (s:={s with heap:=h'}) e c d (by decide) ⟨x,H,I1,ru,⟨rfl,λys hy=>by rw[I.list_inj hy hq];exact hx⟩,aK,λb hb=>(hf b hb).1⟩⟩
 done:=by
  intro X hP hw hK hc i pins s σ H E I hf st hg;subst hP hw hK;obtain⟨xs,hq,hx⟩:=hg;obtain⟨ao,rv,p,hz⟩:=I.list hq;obtain⟨f0,f1,f2,f3,f4,f5⟩:=hf it (by simp);have hl:=rv.length;exact wpAny_pyNext_list_end (I.ok.hd hc) st p.isList (by simp;lia) λh' eb=>⟨rfl,I.turned (t':=s.toks) (λb o hb e=>eb b o hb e) f0 f1 f3 f4 f5⟩
 self:=λ_ _ _ _ _ st h=>wpAny_pyIter_listiter st h
theorem yz {w:Xt}(a it:Ww):yy P w K tg (RH K a) [it] it (λi h=>h.IsTupleIter it a i) where
 mem:=by simp
 obj:=λi h st b hb=>by
  have e:b=it:=by simpa using hb
  subst e;obtain⟨o,e,c,d⟩:=st;exact⟨o,e,λv z=>by rw[d] at z;cases z⟩
 keep:=λi h h' st k=>st.at λo e=>k it (by simp) o e
 item:=by
  intro X hP hw hK hc i pins s σ H E I hf st hg;subst hP hw hK;obtain⟨xs,x,hq,hx⟩:=hg;obtain⟨ao,rv,p,hz⟩:=I.tuple hq;obtain⟨u,hu,ru⟩:=rv.get hx;obtain⟨f0,f1,f2,f3,f4,f5⟩:=hf it (by simp);refine wpAny_pyNext_tuple_item st (show s.heap.IsTuple a ao.toArray from p) (x:=u) (by simpa using hu) λh' aK sb=>?_;have I1:av X pins σ H {s with heap:=h'}:=I.turned (t':=s.toks) (λb o hb e=>(sb.2 b hb).trans e) f0 f1 f3 f4 f5;obtain⟨o,e,c,d⟩:=id aK;exact⟨u,rfl,Aa (s:={s with heap:=h'}) e c d (by decide) ⟨x,H,I1,ru,⟨rfl,λys hy=>by rw[I.tuple_inj hy hq];exact hx⟩,aK,λb hb=>(hf b hb).1⟩⟩
 done:=by
  intro X hP hw hK hc i pins s σ H E I hf st hg;subst hP hw hK;obtain⟨xs,hq,hx⟩:=hg;obtain⟨ao,rv,p,hz⟩:=I.tuple hq;obtain⟨f0,f1,f2,f3,f4,f5⟩:=hf it (by simp);have hl:=rv.length;exact wpAny_pyNext_tuple_end (I.ok.hd hc) st (show s.heap.IsTuple a ao.toArray from p) (by simp;lia) λh' eb=>⟨rfl,I.turned (t':=s.toks) (λb o hb e=>eb b o hb e) f0 f1 f3 f4 f5⟩
 self:=λ_ _ _ _ _ st h=>wpAny_pyIter_tupleiter st h
theorem yA {w:Xt}(it:Ww)(lo:Int)(n:Nat):yy P w K tg (QT lo n) [it] it (λi h=>IsRangeIter h it (lo+(i:Nat)*1) ((n:Int)-(i:Nat)) 1) where
 mem:=by simp
 obj:=λi h st b hb=>by
  have e:b=it:=by simpa using hb
  subst e;exact⟨_,st,λv z=>by
   have z':Data.fields _=Data.cell v:=z;cases z'⟩
 keep:=λi h h' st k=>k it (by simp) _ st
 item:=by
  intro X hP hw hK hc i pins s σ H E I hf st hg;subst hP hw hK;obtain⟨f0,f1,f2,f3,f4,f5⟩:=hf it (by simp);have W:=Walks.range (prog:=X.prog) (w:=X.w) (I.ok.hd hc) it lo 1 n;refine W.item i s _ _ hg st λv h' tk hv aK kk=>?_;obtain⟨t,rfl⟩:=hv;have I1:av X pins σ H {s with heap:=h',toks:=tk}:=I.turned (λb o hb e=>kk b o (by simpa using hb) e) f0 f1 f3 f4 f5;refine⟨_,rfl,Aa (s:={s with heap:=h',toks:=tk}) (n:="range_iterator") aK rfl rfl (by decide) ⟨.int (lo+i),H,I1,⟨t,?_⟩,⟨rfl,rfl⟩,aK,λb hb=>(hf b hb).1⟩⟩;rw[Int.mul_one]
 done:=by
  intro X hP hw hK hc i pins s σ H E I hf st hg;subst hP hw hK;obtain⟨f0,f1,f2,f3,f4,f5⟩:=hf it (by simp);exact wpAny_pyNext_range_end (I.ok.hd hc) st (by have:n<=i:=hg;lia) λh' eb=>⟨rfl,I.turned (t':=s.toks) (λb o hb e=>eb b o hb e) f0 f1 f3 f4 f5⟩
 self:=λ_ _ _ _ _ st h=>wpAny_pyIter_rangeiter st h
end L2
variable {wi:L2.TI}
namespace L2
def OL (K:Wc)(tl:TE):TI:=λσ H R=>tl σ H λx H1=>∃a,x=.ref a/\(∃xs,eF K H1 a xs)/\R (QS K a) H1
def RI (K:Wc)(tl:TE):TI:=λσ H R=>tl σ H λx H1=>∃a,x=.ref a/\(∃xs,eZ K H1 a xs)/\R (RH K a) H1
theorem Hg {l:X4}{tl:TE}(hl:PE X l tl):PI X tg l (OL X.K tl):=by
 intro pins s σ H R I h;refine cS (hl pins s σ H _ I h) λv s1 ⟨x,H1,I1,r1,q1⟩=>?_;obtain⟨a,e,⟨xs,hq⟩,q⟩:=q1;subst e;cases r1;obtain⟨ao,rv,p,hz⟩:=I1.list hq;refine aak p.isList ?_;refine⟨s1.heap.objs.size,[s1.heap.objs.size],_,_,H1,rfl,I1.kept (t':=s1.toks) λb o e=>V7 _ e,BN a _,⟨_,Wj _ rfl,rfl,rfl⟩,λb hb=>?_,q⟩;have e:b=s1.heap.objs.size:=by simpa using hb
 subst e;exact I1.fpOk (Wf _) (I1.hok.fresh (Wf _))
theorem LF {l:X4}{tl:TE}(hl:PE X l tl):PI X tg l (RI X.K tl):=by
 intro pins s σ H R I h;refine cS (hl pins s σ H _ I h) λv s1 ⟨x,H1,I1,r1,q1⟩=>?_;obtain⟨a,e,⟨xs,hq⟩,q⟩:=q1;subst e;cases r1;obtain⟨ao,rv,p,hz⟩:=I1.tuple hq;refine wpAny_pyIter_tuple (show s1.heap.IsTuple a ao.toArray from p) ?_;refine⟨s1.heap.objs.size,[s1.heap.objs.size],_,_,H1,rfl,I1.kept (t':=s1.toks) λb o e=>V7 _ e,yz a _,⟨_,Wj _ rfl,rfl,rfl⟩,λb hb=>?_,q⟩;have e:b=s1.heap.objs.size:=by simpa using hb
 subst e;exact I1.fpOk (Wf _) (I1.hok.fresh (Wf _))
theorem Dv {R:It->Hp->Prop}{lo hi:Int}{t u v:Tok}{tk:Nat}(I:av X pins σ H s)(h1 : -(2 ^ 62)<=lo)(h2:lo<2 ^ 62)(h3 : -(2 ^ 62)<=hi)(h4:hi<2 ^ 62)(q:R (QT lo (hi-lo).toNat) H):Wv (WI X.prog X.w) X.A (pyIter (.ref s.heap.objs.size)) (Tw X pins σ tg R) E {s with heap:=s.heap.push {cls:=.type "range",data:=.fields (List.toArray [.int lo t,.int hi u,.int 1 v])},toks:=tk}:=by
 refine wpAny_pyIter_range (IsRange.new ..) (small_one h1 h2 h3 h4) ?_;have I1:av X pins σ H {s with heap:=s.heap.push {cls:=.type "range",data:=.fields (List.toArray [.int lo t,.int hi u,.int 1 v])},toks:=tk}:=I.kept λb o e=>V7 _ e;refine⟨(s.heap.push {cls:=.type "range",data:=.fields (List.toArray [.int lo t,.int hi u,.int 1 v])}).objs.size,[(s.heap.push {cls:=.type "range",data:=.fields (List.toArray [.int lo t,.int hi u,.int 1 v])}).objs.size],_,_,H,rfl,
  I1.kept (t':=tk) λb o e=>V7 _ e,yA _ lo (hi-lo).toNat,?_,λb hb=>?_,q⟩
 ·have e1:lo+((0:Nat):Int)*1=lo:=by simp
  have e2:(((hi-lo).toNat:Nat):Int)-((0:Nat):Int)=Z5 lo hi 1:=by rw[rangeSize_one];split<;>lia
  show IsRangeIter _ _ (lo+((0:Nat):Int)*1) ((((hi-lo).toNat:Nat):Int)-((0:Nat):Int)) 1;rw[e1,e2];exact Wj _ rfl
 ·have e:b=(s.heap.push {cls:=.type "range",data:=.fields (List.toArray [.int lo t,.int hi u,.int 1 v])}).objs.size:=by simpa using hb
  subst e;exact I1.fpOk (Wf _) (I1.hok.fresh (Wf _))
def OM (ta:TA):TI:=λσ H R=>ta σ H λvs H1=>∃j:Int,vs=[.int j]/\ -(2 ^ 62)<=j/\j<2 ^ 62/\R (QT 0 j.toNat) H1
theorem BO {a:X4}{ta:TA}{p:Pos}(hg:Gl X "range")(hm:X.mg "range"=none)(ha:PA X [a] ta)(hs:Wm [a] X.env=[(false,YX a X.env)]:=by rfl):PI X tg (.Call (.Name "range" p) [a] [] pos) (OM ta):=by
 intro pins s σ H R I h;refine Call_ (pS I hg hm boot_range (Zi (cS (ha pos pins s σ H _ I h) λus s1 ⟨vs,H1,I1,r1,q1⟩=>?_) hs rfl));obtain⟨j,e,q1,q2,q⟩:=q1;subst e;cases r1 with
 |cons r rr=>
  cases rr;obtain⟨t,rfl⟩:=r;exact call_range_1 (Dv I1 (by lia) (by lia) q1 q2 (by simpa using q))
def RJ (wi:TI)(g:TG)(tb:TS):TS:=λD σ H=>wi σ H λJ H1=>∃W:Nat->Nat->St->Hp->Prop,(∃m,W 0 m σ H1)/\∀i m σ H,W i m σ H->
 (J.stop i H/\D.nx σ H)\/(J.go i H/\∃N:St->Hp->Prop,(∀σ' H',N σ' H'->∃m',m'<m/\W (i+1) m' σ' H')/\∀x H',J.yld i H x H'->g x σ H' λσ2 H2=>tb {D with nx:=N,ct:=N,bk:=D.nx} σ2 H2)
noncomputable def pU (fp:List Ww)(h:Y5):List (Ww×Obj):=fp.filterMap λb=>(h.get? b).map λo=>(b,o)
theorem iH {o:Obj}(hb:b∈fp)(e:h.get? b=some o):(b,o)∈pU fp h:=abn.mpr ⟨b,hb,by rw[e];rfl⟩
theorem BP {p:Ww×Obj}(hp:p∈pU fp h):p.1∈fp/\h.get? p.1=some p.2:=by
 obtain⟨b,hb,e⟩:=abn.mp hp;cases q:h.get? b with
 |none=>rw[q] at e;cases e
 |some o=>
  rw[q] at e;have e':(b,o)=p:=WS e;subst e';exact⟨hb,q⟩
theorem av.pinned (I:av X pins σ H s)(hf:∀b∈fp,oP X pins H b)(ho:∀b∈fp,∃o,s.heap.get? b=some o/\∀v,o.data≠.cell v):av X (pins++pU fp s.heap) σ H s:=
 I.pins_of λp hp=>(WE.mp hp).elim (λz=>I.pin p (WJ _ z)) λz=>by
  obtain⟨hb,e⟩:=BP z;obtain⟨f0,f1,f2,_⟩:=hf p.1 hb;obtain⟨o,e',d⟩:=ho p.1 hb;rw[e] at e';cases e';exact⟨e,f0,f1,f2,d⟩
theorem av.unpinned {pl:List (Ww×Obj)}(I:av X (pins++pl) σ H s):av X pins σ H s:=I.pins_of λp hp=>I.pin p (WJ _ (Yc _ hp))
theorem LG {g:TG}(hp:ab0 (WI X.prog X.w) X.A X.env X.xe)(hc:X.calm=true)(hi:PI X tg iter wi)(hg:PG X tg g)(hb:pR X body tb)(hs:∀x,Yf iter X.env x=pure x:=by intro _;rfl):PS X (.For tg iter body [] pos) (RJ wi g tb):=by
 intro pins s σ H D I h;refine wpAny_For (cS (hi pins s σ H _ I h) λv s1 h1=>cS h1 λRn s2 h2=>?_) hs;obtain⟨it,fp,tn,J,H2,e,I2,T,j3,f2,W,⟨m0,w0⟩,turn⟩:=h2;subst e;have NM:∀{H':Hp},(∀b∈fp,H' b=none)->∀b∈fp,oP X pins H' b:=λhn b hb=>⟨hn b hb,(f2 b hb).2⟩;refine codeAny_forLoop_any (λn s'=>∃i σ' H',av X pins σ' H' s'/\tn i s'.heap/\(∀b∈fp,H' b=none)/\W i n σ' H') ?_ m0 ⟨0,σ,H2,I2,j3,λb hb=>(f2 b hb).1,w0⟩;rintro n s3 ⟨i,σ3,H3,I3,G7,fr3,w3⟩;rcases turn i n σ3 H3 w3 with⟨stop,qn⟩|⟨go,N,hN,step⟩
 ·refine YZ hp (cS (T.done X rfl rfl rfl hc i pins s3 σ3 H3 X.xe I3 (NM fr3) G7 stop) λr s4 ⟨hr,I4⟩=>?_);subst hr;exact Z3 ⟨σ3,H3,I4,qn⟩
 ·refine YZ hp (cS (T.item X rfl rfl rfl hc i pins s3 σ3 H3 X.xe I3 (NM fr3) G7 go) λr s4 ⟨u,hr,h4⟩=>?_);subst hr;refine YZ hp (cS h4 λ_ s5 ⟨x,H5,I5,r5,y5,st5,fr5⟩=>?_);have S0:=I5.pinned (NM fr5) (T.obj _ _ st5);refine YZ hp (cS (hg _ s5 σ3 H5 x u _ S0 r5 (step x H5 y5)) λ_ s6 ⟨σ6,H6,I6,q6⟩=>?_);refine YZ hp (cS (hb _ s6 σ6 H6 _ I6 q6) λf s7 q7=>?_);have again:∀{σ7:St} {H7:Hp},av X (pins++pU fp s5.heap) σ7 H7 s7->N σ7 H7->∃m,m<n/\∃i σ' H',av X pins σ' H' s7/\tn i s7.heap/\(∀b∈fp,H' b=none)/\W i m σ' H':=λ{σ7 H7} I7 n7=>by
   obtain⟨m',hm,w7⟩:=hN σ7 H7 n7;refine⟨m',hm,i+1,σ7,H7,I7.unpinned,T.keep _ _ _ st5 λb hb o e=>(I7.pin (b,o) (WJ _ (WJ _ (iH hb e)))).1,λb hb=>?_,w7⟩;obtain⟨o,e,d⟩:=T.obj _ _ st5 b hb;exact (I7.pin (b,o) (WJ _ (WJ _ (iH hb e)))).2.1
  cases f with
  |next=>obtain⟨σ7,H7,I7,n7⟩:=q7;exact again I7 n7
  |cont=>obtain⟨σ7,H7,I7,n7⟩:=q7;exact again I7 n7
  |brk=>obtain⟨σ7,H7,I7,q7⟩:=q7;exact⟨σ7,H7,I7.unpinned,q7⟩
  |ret v=>obtain⟨x7,σ7,H7,I7,r7,q7⟩:=q7;exact⟨x7,σ7,H7,I7.unpinned,r7,q7⟩
end L2
namespace L2
abbrev R2:=V->V->Hp->VK->Prop
def i9 (X:Cx)(f:Wd->Wd->Sem Wd)(r:R2):Prop:=
 ∀(pins:List (Ww×Obj)) (s:Wr) (σ:St) (H:Hp) (x y:V) (v u:Wd) (Q:VK),av X pins σ H s->aM x v->aM y u->r x y H Q->
  Wv (WI X.prog X.w) X.A (f v u) (EP X pins σ Q) X.xe s
def cU (X:Cx)(f:Wd)(r:List V->Hp->VK->Prop):Prop:=
 ∀(pins:List (Ww×Obj)) (s:Wr) (σ:St) (H:Hp) (xs:List V) (us:List Wd) (Q:VK),av X pins σ H s->aP xs us->r xs H Q->
  Wv (WI X.prog X.w) X.A (call f us) (EP X pins σ Q) X.xe s
def RK (X:Cx)(r:V->Hp->(Bool->Hp->Prop)->Prop):Prop:=
 ∀(pins:List (Ww×Obj)) (s:Wr) (σ:St) (H:Hp) (x:V) (v:Wd) (Q:Bool->Hp->Prop),av X pins σ H s->aM x v->r x H Q->
  Wv (WI X.prog X.w) X.A (truthy v) (TP X pins σ Q) X.xe s
def ON (r:R2)(ta tb:TE):TE:=λσ H Q=>ta σ H λx H1=>tb σ H1 λy H2=>r x y H2 Q
def rI (C:Int->Int->Prop)(g:Int->Int->V):R2:=λx y H Q=>∃i j,x=.int i/\y=.int j/\C i j/\Q (g i j) H
def yB (g:Int->Int->V):R2:=λx y H Q=>∃i j,x=.int i/\y=.int j/\Q (g i j) H
section
variable {a b:X4}{ta tb tc:TE}
theorem LH (ha:PE X a ta)(hb:PE X b tb){R:V->V->Hp->Prop}(I:av X pins σ H s)(h:ta σ H λx H1=>tb σ H1 λy H2=>R x y H2){f:Wd->Wd->Sem Wd}(hf:∀v u s2 x y H2,av X pins σ H2 s2->aM x v->aM y u->R x y H2->Wv (WI X.prog X.w) X.A (f v u) Q X.xe s2) :
  Wv (WI X.prog X.w) X.A (YX a X.env) (λv s₁=>Wv (WI X.prog X.w) X.A (YX b X.env) (λu s₂=>Wv (WI X.prog X.w) X.A (f v u) Q X.xe s₂) X.xe s₁) X.xe s:=by
 refine cS (ha pins s σ H _ I h) λv s1 ⟨x,H1,I1,r1,q1⟩=>?_;refine cS (hb pins s1 σ H1 _ I1 q1) λu s2 ⟨y,H2,I2,r2,q2⟩=>?_;exact hf v u s2 x y H2 I2 r1 r2 q2
theorem JK {op:Operator}{r:R2}(ho:i9 X (Zf op) r)(ha:PE X a ta)(hb:PE X b tb):PE X (.BinOp a op b pos) (ON r ta tb):=by
 intro pins s σ H Q I h;exact wpAny_BinOp (LH ha hb I h λv u s2 x y H2 I2 rx ry q=>ho pins s2 σ H2 x y v u Q I2 rx ry q)
theorem QU {f:Wd->Wd->Sem Wd}{C:Int->Int->Prop}{g:Int->Int->Int}
  (rule:∀(i j:Int) (t u:Tok) (s:Wr) (Q:Wd->Wr->Prop) (E:Wd->Wr->Prop),C i j->Q (.int (g i j) s.toks) {s with toks:=s.toks+1}->Wv (WI X.prog X.w) X.A (f (.int i t) (.int j u)) Q E s) :
  i9 X f (rI C λi j=>.int (g i j)):=by
 intro pins s σ H x y v u Q I rx ry h;obtain⟨i,j,rfl,rfl,hc,q⟩:=h;obtain⟨t,rfl⟩:=rx;obtain⟨t',rfl⟩:=ry;exact rule i j t t' s _ _ hc ⟨.int (g i j),H,I.tok _,⟨_,rfl⟩,q⟩
theorem OO {f:Wd->Wd->Sem Wd}{g:Int->Int->Int}
  (rule:∀(i j:Int) (t u:Tok) (s:Wr) (Q:Wd->Wr->Prop) (E:Wd->Wr->Prop),Q (.int (g i j) s.toks) {s with toks:=s.toks+1}->Wv (WI X.prog X.w) X.A (f (.int i t) (.int j u)) Q E s) :
  i9 X f (yB λi j=>.int (g i j)):=by
 intro pins s σ H x y v u Q I rx ry h;obtain⟨i,j,rfl,rfl,q⟩:=h;obtain⟨t,rfl⟩:=rx;obtain⟨t',rfl⟩:=ry;exact rule i j t t' s _ _ ⟨.int (g i j),H,I.tok _,⟨_,rfl⟩,q⟩
theorem Hh {f:Wd->Wd->Sem Wd}{g:Int->Int->Bool}
  (rule:∀(i j:Int) (t u:Tok) (s:Wr) (Q:Wd->Wr->Prop) (E:Wd->Wr->Prop),Q (.bool (g i j)) s->Wv (WI X.prog X.w) X.A (f (.int i t) (.int j u)) Q E s) :
  i9 X f (yB λi j=>.bl (g i j)):=by
 intro pins s σ H x y v u Q I rx ry h;obtain⟨i,j,rfl,rfl,q⟩:=h;obtain⟨t,rfl⟩:=rx;obtain⟨t',rfl⟩:=ry;exact rule i j t t' s _ _ ⟨.bl (g i j),H,I,rfl,q⟩
def OP (i j:Int):Prop:=0<=j/\j<=1000000/\i.natAbs<2 ^ 64
def Hi (i j:Int):Prop:=(-(2 ^ 64)<i/\i<2 ^ 64)\/(-(2 ^ 64)<j/\j<2 ^ 64)
theorem Hi.ok {i j:Int}(h:Hi i j):IntMulOk i j:=by
 rcases h with⟨h1,h2⟩|⟨h1,h2⟩
 ·exact .of_left (intBits_le_64 h1 h2)
 ·exact .of_right (intBits_le_64 h1 h2)
theorem LJ:i9 X (Zf .Add) (yB λi j=>.int (i+j)):=OO λ_ _ _ _ _ _ _ q=>add_int q
theorem LK:i9 X (Zf .Sub) (yB λi j=>.int (i-j)):=OO λ_ _ _ _ _ _ _ q=>sub_int q
theorem kq:i9 X (Zf .Mult) (rI Hi λi j=>.int (i*j)):=QU λ_ _ _ _ _ _ _ hc q=>mul_int q hc.ok
theorem jk:i9 X (Zf .Mod) (rI (λ_ j=>0<j) λi j=>.int (i % j)):=QU λi j _ _ _ _ _ hc q=>by
 have h1:(0:Int)<j:=hc;exact mod_int' (by lia) (by rw[Int.fmod_eq_emod_of_nonneg i (by lia)];exact q)
theorem Dx:i9 X (Zf .Pow) (rI OP λi j=>.int (i ^ j.toNat)):=QU λ_ _ _ _ _ _ _ hc q=>pow_int_small hc.1 hc.2.1 hc.2.2 q
end
noncomputable def OQ:V->V->Bool
 | .non,.non=>true|.non,.int _=>true|.int _,.non=>true|.non,.bl _=>true|.bl _,.non=>true|.non,.str _=>true|.str _,.non=>true
 | .int _,.int _=>true|.bl _,.bl _=>true|.str _,.str _=>true|.byt _,.byt _=>true
 | .int _,.str _=>true|.str _,.int _=>true|.bl _,.str _=>true|.str _,.bl _=>true
 |_,_=>false
def Tx:R2:=λx y H Q=>OQ x y=true/\Q (.bl (decide (x=y))) H
def Tz:R2:=λx y H Q=>OQ x y=true/\Q (.bl (!decide (x=y))) H
theorem pj {i j:Int}:decide (V.int i=V.int j)=(i==j):=by
 rw[Xl];simp
theorem uM {i j:Bool}:decide (V.bl i=V.bl j)=(i==j):=by
 rw[Xl];simp
theorem pq {i j:Str}:decide (V.str i=V.str j)=(i==j):=by
 rw[Xl];simp
theorem Ab {i j:Array UInt8}:decide (V.byt i=V.byt j)=(i.toList==j.toList):=by
 rw[Xl];cases i;cases j;simp
section
variable {a b:X4}{ta tb tc:TE}
theorem bu {Q:VK}{k k':Bool}(I:av X pins σ H s)(q:Q (.bl k) H)(e:k=k'):EP X pins σ Q (.bool k') s:=by
 subst e;exact⟨.bl k,H,I,rfl,q⟩
theorem tw:i9 X (XN .Eq) Tx:=by
 intro pins s σ H x y v u Q I rx ry h;obtain⟨hs,q⟩:=h;cases x with
 |non=>
  cases rx;cases y with
  |non=>cases ry;exact PySem.EqNone.eq_none_none (bu I q (by simp))
  |bl j=>cases ry;exact PySem.EqNone.eq_none_bool (bu I q (by simp))
  |int j=>obtain⟨t',rfl⟩:=ry;exact PySem.EqNone.eq_none_int (bu I q (by simp))
  |str j=>obtain⟨t',rfl⟩:=ry;exact PySem.EqNone.eq_none_str (bu I q (by simp))
  |_=>exact absurd (show false=true from hs) V5
 |bl i=>
  cases rx;cases y with
  |non=>cases ry;exact PySem.EqNone.eq_bool_none (bu I q (by simp))
  |bl j=>cases ry;exact eq_bool (bu I q uM)
  |str j=>obtain⟨t',rfl⟩:=ry;exact PySem.EqMixed.eq_bool_str (bu I q (by simp))
  |_=>exact absurd (show false=true from hs) V5
 |int i=>
  obtain⟨t,rfl⟩:=rx;cases y with
  |non=>cases ry;exact PySem.EqNone.eq_int_none (bu I q (by simp))
  |int j=>obtain⟨t',rfl⟩:=ry;exact eq_int (bu I q pj)
  |str j=>obtain⟨t',rfl⟩:=ry;exact PySem.EqMixed.eq_int_str (bu I q (by simp))
  |_=>exact absurd (show false=true from hs) V5
 |str i=>
  obtain⟨t,rfl⟩:=rx;cases y with
  |non=>cases ry;exact PySem.EqNone.eq_str_none (bu I q (by simp))
  |bl j=>cases ry;exact PySem.EqMixed.eq_str_bool (bu I q (by simp))
  |int j=>obtain⟨t',rfl⟩:=ry;exact PySem.EqMixed.eq_str_int (bu I q (by simp))
  |str j=>obtain⟨t',rfl⟩:=ry;exact eq_str (bu I q pq)
  |_=>exact absurd (show false=true from hs) V5
 |byt i=>
  obtain⟨t,rfl⟩:=rx;cases y with
  |byt j=>obtain⟨t',rfl⟩:=ry;exact PySem.W.eq_bytes (bu I q Ab)
  |_=>exact absurd (show false=true from hs) V5
 |_=>cases y<;>exact absurd (show false=true from hs) V5
theorem pV:i9 X (XN .NotEq) Tz:=by
 intro pins s σ H x y v u Q I rx ry h;obtain⟨hs,q⟩:=h;cases x with
 |non=>
  cases rx;cases y with
  |non=>cases ry;exact PySem.EqNone.ne_none_none (bu I q (by simp))
  |bl j=>cases ry;exact PySem.EqNone.ne_none_bool (bu I q (by simp))
  |int j=>obtain⟨t',rfl⟩:=ry;exact PySem.EqNone.ne_none_int (bu I q (by simp))
  |str j=>obtain⟨t',rfl⟩:=ry;exact PySem.EqNone.ne_none_str (bu I q (by simp))
  |_=>exact absurd (show false=true from hs) V5
 |bl i=>
  cases rx;cases y with
  |non=>cases ry;exact PySem.EqNone.ne_bool_none (bu I q (by simp))
  |bl j=>cases ry;exact ne_bool (bu I q (congrArg not uM))
  |str j=>obtain⟨t',rfl⟩:=ry;exact PySem.EqMixed.ne_bool_str (bu I q (by simp))
  |_=>exact absurd (show false=true from hs) V5
 |int i=>
  obtain⟨t,rfl⟩:=rx;cases y with
  |non=>cases ry;exact PySem.EqNone.ne_int_none (bu I q (by simp))
  |int j=>obtain⟨t',rfl⟩:=ry;exact ne_int (bu I q (congrArg not pj))
  |str j=>obtain⟨t',rfl⟩:=ry;exact PySem.EqMixed.ne_int_str (bu I q (by simp))
  |_=>exact absurd (show false=true from hs) V5
 |str i=>
  obtain⟨t,rfl⟩:=rx;cases y with
  |non=>cases ry;exact PySem.EqNone.ne_str_none (bu I q (by simp))
  |bl j=>cases ry;exact PySem.EqMixed.ne_str_bool (bu I q (by simp))
  |int j=>obtain⟨t',rfl⟩:=ry;exact PySem.EqMixed.ne_str_int (bu I q (by simp))
  |str j=>obtain⟨t',rfl⟩:=ry;exact ne_str (bu I q (congrArg not pq))
  |_=>exact absurd (show false=true from hs) V5
 |byt i=>
  obtain⟨t,rfl⟩:=rx;cases y with
  |byt j=>obtain⟨t',rfl⟩:=ry;exact PySem.W.ne_bytes (bu I q (congrArg not Ab))
  |_=>exact absurd (show false=true from hs) V5
 |_=>cases y<;>exact absurd (show false=true from hs) V5
theorem OR:i9 X (XN .Lt) (yB λi j=>.bl (decide (i<j))):=Hh λ_ _ _ _ _ _ _ q=>lt_int q
theorem OS:i9 X (XN .LtE) (yB λi j=>.bl (decide (i<=j))):=Hh λ_ _ _ _ _ _ _ q=>le_int q
theorem tE:i9 X (XN .Gt) (yB λi j=>.bl (decide (j<i))):=Hh λ_ _ _ _ _ _ _ q=>gt_int q
theorem OT:i9 X (XN .GtE) (yB λi j=>.bl (decide (j<=i))):=Hh λ_ _ _ _ _ _ _ q=>ge_int q
theorem i9.or {f:Wd->Wd->Sem Wd}{r r':R2}(h:i9 X f r)(h':i9 X f r'):i9 X f (λx y H Q=>r x y H Q\/r' x y H Q):=by
 intro pins s σ H x y v u Q I rx ry q;rcases q with q|q
 ·exact h pins s σ H x y v u Q I rx ry q
 ·exact h' pins s σ H x y v u Q I rx ry q
theorem bz (b:X4)(h:op≠.In:=by decide)(h2:op≠.NotIn:=by decide):Zw op b=false:=by
 have e1:(op==CmpOp.In)=false:=by cases op<;>first|rfl|exact absurd rfl h
 have e2:(op==CmpOp.NotIn)=false:=by cases op<;>first|rfl|exact absurd rfl h2
 cases b<;>simp[Zw,e1,e2]
theorem Hj {r:R2}(ho:i9 X (XN op) r)(ha:PE X a ta)(hb:PE X b tb)(hm:Zw op b=false):PE X (.Compare a [op] [b] pos) (ON r ta tb):=by
 intro pins s σ H Q I h;exact wpAny_Compare1 (LH ha hb I h λv u s2 x y H2 I2 rx ry q=>ho pins s2 σ H2 x y v u Q I2 rx ry q) hm
def OU (t:TE):TT:=λσ H Q=>t σ H λx H'=>∃k,x=.bl k/\Q k H'
theorem Ac {r:R2}(ho:i9 X (XN op) r)(ha:PE X a ta)(hb:PE X b tb)(hm:Zw op b=false):PT X (.Compare a [op] [b] pos) (OU (ON r ta tb)):=by
 intro pins s σ H Q I h;refine wpAny_isTrue_Compare1 (cS (ha pins s σ H _ I h) λv s1 ⟨x,H1,I1,r1,q1⟩=>cS (hb pins s1 σ H1 _ I1 q1) λu s2 ⟨y,H2,I2,r2,q2⟩=>
  cS (ho pins s2 σ H2 x y v u _ I2 r1 r2 q2) λc s3 ⟨z,H3,I3,r3,k,e,q3⟩=>?_) hm
 subst e;cases r3;exact YY ⟨H3,I3,q3⟩
def RL (K:Wc)(x:V)(H:Hp)(k:Bool):Prop:=
 match x with
 | .non=>k=false
 | .bl b=>k=b
 | .int i=>k=(i != 0)
 | .str y=>y.length<=Wa/\k=((y.length:Int) != 0)
 | .byt y=>y.size<=Wa/\k=((y.size:Int) != 0)
 | .ref p=>(∃xs,eF K H p xs/\k = !xs.isEmpty)\/(∃xs,eZ K H p xs/\k = !xs.isEmpty)\/∃aN,H p=some (.dK aN)/\k = !aN.isEmpty
 |_=>False
theorem yC {κ:Type}{aN:List (κ×V)}{vs:List (κ×Wd)}(r:KV aN vs):(!vs.isEmpty) = !aN.isEmpty:=by
 cases r<;>rfl
theorem pW (r:aP xs ao):(!ao.toArray.isEmpty) = !xs.isEmpty:=by
 cases r<;>simp
theorem mI:(Wa:Nat)<2 ^ 63:=by rw[Yg];decide
theorem RM:RK X (λx H Q=>∃k,RL X.K x H k/\Q k H):=by
 intro pins s σ H x v Q I rx h;obtain⟨k,e,q⟩:=h;have hl:=mI;have hs:Wa=16777216:=Yg;cases x with
 |non=>
  cases rx;have e':k=false:=e;subst e';exact truthy_none ⟨H,I,q⟩
 |bl b=>
  cases rx;have e':k=b:=e;subst e';exact YY ⟨H,I,q⟩
 |int i=>
  obtain⟨t,rfl⟩:=rx;have e':k=(i != 0):=e;subst e';exact PySem.P.truthy_int ⟨H,I,q⟩
 |str y=>
  obtain⟨t,rfl⟩:=rx;obtain⟨hy,e'⟩:y.length<=Wa/\k=((y.length:Int) != 0):=e;subst e';exact PySem.P.truthy_str (by lia) ⟨H,I.tok _,q⟩
 |byt y=>
  obtain⟨t,rfl⟩:=rx;obtain⟨hy,e'⟩:y.size<=Wa/\k=((y.size:Int) != 0):=e;subst e';exact PySem.W.truthy_bytes (by lia) ⟨H,I.tok _,q⟩
 |ref p=>
  cases rx;have e':(∃xs,eF X.K H p xs/\k = !xs.isEmpty)\/(∃xs,eZ X.K H p xs/\k = !xs.isEmpty)\/∃aN,H p=some (.dK aN)/\k = !aN.isEmpty:=e;rcases e' with⟨xs,hx,e'⟩|⟨xs,hx,e'⟩|⟨aN,hx,e'⟩
  ·subst e';obtain⟨ao,r,pl,hz⟩:=I.list hx;have cv:=r.length;exact wpAny_truthy_list pl.isList (by simp only[Wb];lia) ⟨H,I.tok _,by rw[pW r];exact q⟩
  ·subst e';obtain⟨ao,r,pl,hz⟩:=I.tuple hx;have cv:=r.length;exact truthy_tuple pl (by simp only[Wb];lia) ⟨H,I.tok _,by rw[pW r];exact q⟩
  ·subst e';obtain⟨hz,hS,vs,r,m⟩:aN.length<=Wa/\(p==XM)=false/\∃vs,KV aN vs/\s.heap.DictOf (cw X.prog X.w) p vs:=I.hok p _ hx;have cv:aN.length=vs.length:=Zv r;exact wpAny_truthy_dict hS m (by lia) ⟨H,I.tok _,by rw[yC r];exact q⟩
 |_=>exact (show False from e).elim
theorem gT {x:V}{us:List Wd}(r:aP [x] us):∃u,us=[u]/\aM x u:=by
 cases r with
 |cons r1 r2=>cases r2;exact⟨_,rfl,r1⟩
theorem tF {x:V}{us:List Wd}(r:aP [x,y] us):∃u w',us=[u,w']/\aM x u/\aM y w':=by
 cases r with
 |cons r1 r2=>
  cases r2 with
  |cons r3 r4=>cases r4;exact⟨_,_,rfl,r1,r3⟩
theorem wA:cU X (.builtin "abs") (λxs H Q=>∃i,xs=[.int i]/\Q (.int (if i<0 then -i else i)) H):=by
 intro pins s σ H xs us Q I r h;obtain⟨i,rfl,q⟩:=h;obtain⟨u,rfl,t,rfl⟩:=gT r;exact call_abs_int λu tk=>⟨.int (if i<0 then -i else i),H,I.tok _,⟨_,rfl⟩,q⟩
theorem BQ (hc:X.calm=true):cU X (.builtin "max") (λxs H Q=>∃i j,xs=[.int i,.int j]/\Q (.int (if j>i then j else i)) H):=by
 intro pins s σ H xs us Q I r h;obtain⟨i,j,rfl,q⟩:=h;obtain⟨u,w',rfl,⟨t,rfl⟩,⟨t',rfl⟩⟩:=tF r;refine max_two_ints (I.ok.hd hc) λh' tk k=>⟨_,H,I.kept k,?_,q⟩;by_cases hj:j>i
 ·rw[hZ hj,hZ hj];exact⟨_,rfl⟩
 ·rw[hV hj,hV hj];exact⟨_,rfl⟩
theorem mJ (hc:X.calm=true):cU X (.builtin "min") (λxs H Q=>∃i j,xs=[.int i,.int j]/\Q (.int (if j<i then j else i)) H):=by
 intro pins s σ H xs us Q I r h;obtain⟨i,j,rfl,q⟩:=h;obtain⟨u,w',rfl,⟨t,rfl⟩,⟨t',rfl⟩⟩:=tF r;refine min_two_ints (I.ok.hd hc) λh' tk k=>⟨_,H,I.kept k,?_,q⟩;by_cases hj:j<i
 ·rw[hZ hj,hZ hj];exact⟨_,rfl⟩
 ·rw[hV hj,hV hj];exact⟨_,rfl⟩
def OV (K:Wc)(x:V)(H:Hp)(n:Nat):Prop:=
 match x with
 | .str y=>y.length<=Wa/\n=y.length
 | .byt y=>y.size<=Wa/\n=y.size
 | .ref p=>(∃xs,eF K H p xs/\n=xs.length)\/∃xs,eZ K H p xs/\n=xs.length
 |_=>False
theorem f6:cU X (.builtin "len") (λxs H Q=>∃x n,xs=[x]/\OV X.K x H n/\Q (.int n) H):=by
 intro pins s σ H xs us Q I r h;obtain⟨x,n,rfl,e,q⟩:=h;obtain⟨u,rfl,rx⟩:=gT r;have hl:=mI;have hs:Wa=16777216:=Yg;cases x with
 |str y=>
  obtain⟨t,rfl⟩:=rx;obtain⟨hy,e'⟩:y.length<=Wa/\n=y.length:=e;subst e';exact len_str (by lia) ⟨.int _,H,I.tok _,⟨_,rfl⟩,q⟩
 |byt y=>
  obtain⟨t,rfl⟩:=rx;obtain⟨hy,e'⟩:y.size<=Wa/\n=y.size:=e;subst e';exact PySem.W.len_bytes (by lia) ⟨.int _,H,I.tok _,⟨_,rfl⟩,q⟩
 |ref p=>
  cases rx;have e':(∃xs,eF X.K H p xs/\n=xs.length)\/∃xs,eZ X.K H p xs/\n=xs.length:=e;rcases e' with⟨xs,hx,e'⟩|⟨xs,hx,e'⟩
  ·subst e';obtain⟨ao,r',pl,hz⟩:=I.list hx;have cv:=r'.length;exact Calls.call_len_list pl.isList (by simp only[Wb];lia) ⟨.int xs.length,H,I.tok _,⟨_,by simp only[Wb];rw[cv]⟩,q⟩
  ·subst e';obtain⟨ao,r',pl,hz⟩:=I.tuple hx;have cv:=r'.length;exact len_tuple pl (by simp only[Wb];lia) ⟨.int xs.length,H,I.tok _,⟨_,by simp only[Wb];rw[cv]⟩,q⟩
 |_=>exact (show False from e).elim
end
end L2
variable {r:L2.R2}
namespace L2
structure LL (h:Y5)(x dx C:Ww)(mA:Str->Option Wd):Prop where
 obj:h.get? x=some (PySem.W.instObj C dx)
 ns:h.Ns1 dx mA
 ne:dx≠x
theorem BR {dx:Ww}{mA:Str->Option Wd}(n:h.Ns1 dx mA):∃od,h.get? dx=some od/\∀name,PySem.W.lookIn name od=some (mA name):=by
 obtain⟨o,es,ep,ho,hd,hk,_,hm⟩:=n;refine⟨o,ho,λname=>?_⟩;have e:=hm name;unfold nsFind findBy at e;rw[←Array.find?_toList] at e;unfold PySem.W.lookIn;rw[hd];dsimp only;split
 ·rename_i y q;rw[q] at e;exact congrArg some e
 ·rename_i q;rw[q] at e;have a:es.toList.any (·.refKey)=false:=by
   rw[List.any_eq_false];intro y hy;obtain⟨z,t,hkey⟩:=hk y (Array.mem_toList_iff.mp hy);simp[DictEntry.refKey,hkey]
  have a':¬es.toList.any (·.refKey)=true:=by rw[a];exact V5
  rw[hV a'];exact congrArg some e
theorem LL.look {x dx:Ww}{mA:Str->Option Wd}(I:LL h x dx C mA):∃od,PySem.W.InstAt h x (PySem.W.instObj C dx) C (some od)/\∀name,PySem.W.lookIn name od=some (mA name):=
 let ⟨od,ho,hl⟩:=BR I.ns
 ⟨od,⟨I.obj,rfl,rfl,ho⟩,hl⟩
theorem kl.some_of {o:Option Wd}(r:kl (some v) o):∃u,o=some u/\aM v u:=by
 cases o with
 |none=>exact (show False from r).elim
 |some u=>exact⟨u,rfl,r⟩
section
variable {w:Xt}{dx:Ww}{fs fs':List (Str×V)}
theorem Hk (hok:ig P w H h)(e:H a=some (.ins C dx fs)):∃mA,LL h a dx C mA/\(∀f,kl (fs.lookup f) (mA f))/\PySem.Within mA (fs.map (·.1))/\fs.length<=1000/\H dx=some (.own a):=by
 obtain⟨d,z,ne,ob,mA,n,r,q⟩:=(show bh P w H h a (.ins C dx fs) from hok a _ e);exact⟨mA,⟨ob,n,ne⟩,r,q,z,d⟩
end
structure RN (K:Wc)(C:Ww):Prop where
 pg:PySem.W.plainGet K C Str.empty=true
 hd:PySem.W.hasDictIn K C=true
 po:PySem.W.plainOver K C=true
 sa:YR K (.ref C) "__setattr__"=some (some (.builtin "object.__setattr__"))
theorem RN.get (c:RN K C)(f:Str):PySem.W.plainGet K C f=true:=c.pg
structure VQ (K:Wc)(C:Ww)(f:Str)(v:V)(u:Wd):Prop where
 at_:YR K (.ref C) f=some (some u)
 rel:aM v u
 get:abL K u "__get__"=some none
 cp:PySem.W.copiedNames.contains f=false
structure Uu (K:Wc)(C:Ww)(m:Str)(f:Ww):Prop where
 at_:YR K (.ref C) m=some (some (.ref f))
 fn:PySem.W.isFn K (.ref f)=true
 kp:XR K (.ref f)=true
section
variable {A:W2}{c:Wd}{b:Bool}
inductive mK (K:Wc)(H:Hp):V->Wd->Prop where
 |non:mK K H .non (.type "NoneType")
 |bl (x:Bool):mK K H (.bl x) (.type "bool")
 |int (i:Int):mK K H (.int i) (.type "int")
 |str (x:Str):mK K H (.str x) (.type "str")
 |flt (x:UInt64):mK K H (.flt x) (.type "float")
 |lst {a:Ww} {xs:List V} (e:H a=some (.lst xs)):mK K H (.ref a) (.type "list")
 |frz {a:Ww} {o:Obj} {xs:List V} (e:H a=some (.frz o (.lst xs))):mK K H (.ref a) (.type "list")
 |tup {a:Ww} {xs:List V} (e:H a=some (.tup xs)):mK K H (.ref a) (.type "tuple")
 |dK {a:Ww} {aN:List (Key×V)} (e:H a=some (.dK aN)):mK K H (.ref a) (.type "dict")
 |dT {a:Ww} {aN:List (List Key×V)} (e:H a=some (.dT aN)):mK K H (.ref a) (.type "dict")
 |ins {a C dx:Ww} {fs:List (Str×V)} (e:H a=some (.ins C dx fs)) (cl:RN K C) (ha:YR K (.ref C) "__class__"=some (some (.builtin "object.__class__")))
   (hn:abL K (.builtin "object.__class__") "__get__"=some (some (.builtin "getset_descriptor.__get__"))) (htk:PySem.W.takesIn K (.builtin "object.__class__")=some true)
   (hm:PySem.W.mroIn K C (.type "object")=some true):mK K H (.ref a) (.ref C)
theorem BS {x:V}{u t:Wd}(I:av X pins σ H s)(rx:aM x u)(ty:mK X.K H x t)(e:X5 X.K t c=some b)(h:∀tk,Q (.bool b) {s with toks:=tk}) :
  Wv (WI X.prog X.w) A (call (.builtin "isinstance") [u,c]) Q E s:=by
 cases ty with
 |non=>cases (show u=Value.none from rx);exact XF PySem.W.kitx_none I.kIn True.intro e (λz=>nomatch z) h
 |bl y=>cases (show u=Value.bool y from rx);exact XF PySem.W.kitx_bool I.kIn True.intro e (λz=>nomatch z) h
 |int i=>obtain⟨t,q⟩:=(show ∃t,u=Value.int i t from rx);cases q;exact XF PySem.W.kitx_int I.kIn True.intro e (λz=>nomatch z) h
 |str y=>obtain⟨t,q⟩:=(show ∃t,u=Value.str y t from rx);cases q;exact XF PySem.W.kitx_str I.kIn True.intro e (λz=>nomatch z) h
 |flt y=>obtain⟨t,q⟩:=(show ∃t,u=Value.float y t from rx);cases q;exact XF PySem.W.kitx_float I.kIn True.intro e (λz=>nomatch z) h
 | @lst a xs ea=>
  cases (show u=Value.ref a from rx);obtain⟨_,_,n,_,h1⟩:=(show bh X.prog X.w H s.heap a (.lst xs) from I.hok a _ ea);exact XF aal I.kIn ⟨_,h1,rfl⟩ e (λz=>nomatch z) h
 | @frz a ob xs ea=>
  cases (show u=Value.ref a from rx);obtain⟨_,_,_,n,_,h1⟩:=(show bh X.prog X.w H s.heap a (.frz ob (.lst xs)) from I.hok a _ ea);exact XF aal I.kIn ⟨_,h1,rfl⟩ e (λz=>nomatch z) h
 | @tup a xs ea=>
  cases (show u=Value.ref a from rx);obtain⟨_,_,_,p,_⟩:=(show bh X.prog X.w H s.heap a (.tup xs) from I.hok a _ ea);obtain⟨o,h1,h2,_⟩:=p;exact XF PySem.W.kitx_tuple I.kIn ⟨o,h1,h2⟩ e (λz=>nomatch z) h
 | @dK a aN ea=>
  cases (show u=Value.ref a from rx);obtain⟨_,_,vs,_,p⟩:=(show bh X.prog X.w H s.heap a (.dK aN) from I.hok a _ ea);obtain⟨o,es,ep,h1,h2,_⟩:=p;exact XF aam I.kIn ⟨o,h1,h2.1⟩ e (λz=>nomatch z) h
 | @dT a aN ea=>
  cases (show u=Value.ref a from rx);obtain⟨_,_,xs,_,o,es,ep,h1,h2,_⟩:=(show bh X.prog X.w H s.heap a (.dT aN) from I.hok a _ ea);exact XF aam I.kIn ⟨o,h1,h2.1⟩ e (λz=>nomatch z) h
 | @ins a C dx fs ea cl ha hn htk hm=>
  cases (show u=Value.ref a from rx);obtain⟨mA,O,_⟩:=Hk I.hok ea;obtain⟨od,J,_⟩:=O.look;exact XF (PySem.W.kitx_own (cl.get _) cl.hd ha hn htk hm) I.kIn J e (λz=>nomatch z) h
end
end L2
namespace L2
structure dw (k:Nat)(A:W2):Prop where
 hd:A.handled=none
 dp:A.depth+3*k+5<abC
 un:A.units+16*k+200<XG
theorem dw.mono {A:W2}(r:dw k A)(h:j<=k):dw j A:=⟨r.hd,by have:=r.dp;lia,by have:=r.un;lia⟩
theorem dw.deeper {A:W2}(r:dw (k+1) A)(env:Env):dw k (A.deeper env):=
 ⟨r.hd,by have:=r.dp;show A.depth+1+3*k+5<_;lia,by have:=r.un;show A.units+3+16*k+200<_;lia⟩
theorem dw.depth {A:W2}(r:dw k A):A.depth<abC:=by have:=r.dp;lia
theorem dw.units {A:W2}(r:dw k A):A.units+64<XG:=by have:=r.un;lia
def RO:TA:=λ_ H Q=>Q [] H
def OW (ta:TE)(tr:TA):TA:=λσ H Q=>ta σ H λx H1=>tr σ H1 λxs H2=>Q (x::xs) H2
section
variable {e:X4}{es:List X4}{t:TA}
theorem cT:PA X [] RO:=λ_ _ _ _ H Q I h=>Calls.spliced_nil ⟨[],H,I,.nil,h⟩
theorem aO (ha:PE X e te)(hr:PA X es t)(hs:Wm (e::es) X.env=(false,YX e X.env)::Wm es X.env:=by rfl):PA X (e::es) (OW te t):=by
 intro pos pins s σ H Q I h;rw[hs];show Wv _ _ (spliced ((false,YX e X.env)::Yp pos (Wm es X.env))) _ _ s;refine abo (cS (ha pins s σ H _ I h) λu s1 ⟨x,H1,I1,r1,q1⟩=>?_);exact cS (hr pos pins s1 σ H1 _ I1 q1) λus s2 ⟨xs,H2,I2,r2,q2⟩=>⟨x::xs,H2,I2,.cons r1 r2,q2⟩
def RP (t:TA):TE:=λσ H Q=>t σ H λxs H1=>xs.length<=Wa/\∀p,H1 p=none->Q (.ref p) (bL H1 p (.tup xs))
def RQ (t:TA):TE:=λσ H Q=>t σ H λxs H1=>xs.length<=Wa/\∀p,H1 p=none->Q (.ref p) (bL H1 p (.lst xs))
theorem Dy {x1}(h:PA X es t):PE X (.Tuple es x1 pos) (RP t):=by
 intro pins s σ H Q I hq;refine wpAny_Tuple_spliced (cS (h pos pins s σ H _ I hq) λus s1 ⟨xs,H1,I1,r,z,q⟩=>⟨by rw[←r.length];exact z,?_⟩);have hf:H1 s1.heap.objs.size=none:=I1.hok.fresh (Wf _);refine⟨.ref s1.heap.objs.size,bL H1 s1.heap.objs.size (.tup xs),I1.laid (t':=s1.toks) (λb u e=>V7 _ e) (Wf _) ?_,rfl,q _ hf⟩;exact⟨z,us,r,⟨_,Wj _ rfl,rfl,_,rfl⟩,_,Wj _ rfl⟩
theorem uN (h:PA X es t):PE X (.List es pos) (RQ t):=by
 intro pins s σ H Q I hq;refine wpAny_List_spliced (cS (h pos pins s σ H _ I hq) λus s1 ⟨xs,H1,I1,r,z,q⟩=>⟨by rw[←r.length];exact z,?_⟩);have hf:H1 s1.heap.objs.size=none:=I1.hok.fresh (Wf _);refine⟨.ref s1.heap.objs.size,bL H1 s1.heap.objs.size (.lst xs),I1.laid (t':=s1.toks) (λb u e=>V7 _ e) (Wf _) ?_,rfl,q _ hf⟩;exact⟨z,us,0,r,Wj _ rfl⟩
end
abbrev Sp:=List V->Hp->VK->XK->Prop
abbrev CXT:=List Env->Hp->Wr->XK->Wd->Wr->Prop
structure BU (P:YG)(w:Xt)(K:Wc)(mg:Str->Option Wd)(base:Y5)(A:W2)(outer:List Env)(s:Wr)(H:Hp):Prop where
 frames:A.frames=some outer
 mod:Mod K mg base
 bs:∀b o,base.get? b=some o->s.heap.get? b=some o/\H b=none
 bsz:base.objs.size<=s.heap.objs.size
 funs:s.heap.FunFrames base outer
 frf:∀b∈pP outer,H b=none
 hok:ig P w H s.heap
 bare:abB s.gens
def CE (outer:List Env)(P:YG)(w:Xt)(H:Hp)(s:Wr)(Q:VK)(u:Wd)(s':Wr):Prop:=
 ∃v H',s'.os=s.os/\abB s'.gens/\Un (pP outer) [] H H' s.heap s'.heap/\ig P w H' s'.heap/\aM v u/\Q v H'
def CR (CX:CXT)(outer:List Env)(P:YG)(w:Xt)(H:Hp)(s:Wr)(Q:VK)(E:XK)(r:Result)(s':Wr):Prop:=
 match r with
 | .ok (.ret u)=>CE outer P w H s Q u s'
 | .ok _=>False
 | .error e=>CX outer H s E e s'
structure iI (P:YG)(w:Xt)(K:Wc)(mg:Str->Option Wd)(base:Y5)(CX:CXT)(k:Nat)(f:Ww)(fd:Zu)(ps:List Str)(sp:Sp):Prop where
 len:∀vs H Q E,sp vs H Q E->vs.length=ps.length
 run:∀(A:W2) (outer:List Env) (s:Wr) (H:Hp) (args:Args) (us:List Wd) (vs:List V) (Q:VK) (E:XK),dw k A->BU P w K mg base A outer s H->BindsTo s fd args (ps.zip us)->aP vs us->sp vs H Q E->
  abD (WI P w) A (.call (.ref f) args) (CR CX outer P w H s Q E) s
theorem iI.imp {w:Xt}{CX:CXT}{sp T8:Sp}(F:iI P w K mg base CX k f fd ps sp)(h:∀vs H Q E,T8 vs H Q E->sp vs H Q E):iI P w K mg base CX k f fd ps T8:=
 ⟨λvs H Q E q=>F.len vs H Q E (h _ _ _ _ q),λA outer s H args us vs Q E hr he hb hv hs=>F.run A outer s H args us vs Q E hr he hb hv (h _ _ _ _ hs)⟩
section
variable {s':Wr}
theorem av.env0 (I:av X pins σ H s):BU X.prog X.w X.K X.mg X.base X.A X.stack s H:=
 ⟨I.ok.frames,I.ok.mod,I.bs,WD I.ok.bsz I.sz,I.stack,I.stkFree,I.hok,I.bare⟩
theorem av.after {Q:VK}{u:Wd}(I:av X pins σ H s)(h:CE X.stack X.prog X.w H s Q u s'):EP X pins σ Q u s':=by
 obtain⟨v,H',os,bare,un,hok,r,q⟩:=h;obtain⟨hh,g,d,t,os'⟩:=s';obtain rfl:os'=s.os:=os;exact⟨v,H',I.call (h':=hh) (g':=g) (d':=d) (t':=t) (ch:=[]) un hok bare (λb z=>absurd z (by simp)),r,q⟩
end
def Dz (sp:Sp)(Lb:List V)(E:XK)(t:TA):TE:=λσ H Q=>t σ H λvs H1=>sp (vs++Lb) H1 Q E
def jm (K:Wc)(fd:Zu)(ps:List Str)(ds:List Wd):Prop:=
 ∀(s:Wr) (us:List Wd),K.In s.heap->(us++ds).length=ps.length->BindsTo s fd ⟨us,[]⟩ (ps.zip (us++ds))
theorem jm.all (h:∀us:List Wd,us.length=ps.length->bindArgs fd ⟨us,[]⟩=pure (ps.zip us)):jm K fd ps []:=λs us _ hl=>by
 rw[WN] at hl ⊢;exact .of_eq (h us hl)
def yD (CX:CXT)(X:Cx)(E:XK):Prop:=∀(pins:List (Ww×Obj)) (σ:St) (H:Hp) (s:Wr) (e:Wd) (s':Wr),av X pins σ H s->CX X.stack H s E e s'->X.xe e s'
section
variable {CX:CXT}{sp:Sp}{Lb:List V}{ds:List Wd}{E:XK}{m:Str}{p cR:Pos}{e o:X4}{es:List X4}{ta:TE}{t:TA}
theorem LM {Q:VK}{us:List Wd}(F:iI X.prog X.w X.K X.mg X.base CX k f fd ps sp)(hr:dw k X.A)(hb:jm X.K fd ps ds)(hd:aP Lb ds)(hx:yD CX X E)(I:av X pins σ H s)(r:aP vs us)(h:sp (vs++Lb) H Q E):Wv (WI X.prog X.w) X.A (call (.ref f) us) (EP X pins σ Q) X.xe s:=by
 have r2:aP (vs++Lb) (us++ds):=r.append hd;have hl:(us++ds).length=ps.length:=by rw[←r2.length];exact F.len _ _ _ _ h
 refine wpAny_call (ZX (F.run X.A X.stack s H ⟨us,[]⟩ (us++ds) (vs++Lb) Q E hr I.env0 (hb s us I.kIn hl) r2 h) λr s' hq=>?_);cases r with
 |error e=>exact hx pins σ H s e s' I hq
 |ok fl=>
  cases fl with
  |ret u=>exact I.after hq
  |next=>exact XA hq
  |brk=>exact XA hq
  |cont=>exact XA hq
theorem Hl (F:iI X.prog X.w X.K X.mg X.base CX k f fd ps sp)(hr:dw k X.A)(hg:Gl X x)(hm:X.mg x=some (.ref f))(hk:XR X.K (.ref f)=true)(hb:jm X.K fd ps ds)(hd:aP Lb ds)(hx:yD CX X E)
  (ha:PA X (e::es) t) (v9:(x==("__debug__":Str))=false:=by decide) (he:Wm (e::es) X.env=(false,YX e X.env)::Wm es X.env:=by rfl) (j_:(Yp pos (Wm es X.env)).any (·.1)=false:=by rfl) :
  PE X (.Call (.Name x p) (e::es) [] pos) (Dz sp Lb E t):=by
 intro pins s σ H Q I h;refine Zg (jL I hg hm ?_ v9);refine abp (h₀:=X.base) I.ok.mod.kin hk (cS (ha pos pins s σ H _ I h) λus s1 ⟨vs,H1,I1,r,q⟩=>⟨I1.kIn,?_⟩) he j_;exact LM F hr hb hd hx I1 r q
structure Mk (K:Wc)(C f:Ww):Prop where
 makes:PySem.W.makesIn K C=true
 init:YR K (.ref C) "__init__"=some (some (.ref f))
 fn:PySem.W.isFn K (.ref f)=true
 kp:XR K (.ref C)=true
end
section
variable {CX:CXT}{ks:List Str}{sp:Sp}{E:XK}{m:Str}{p cR kpos:Pos}{e o:X4}{es:List X4}{kws:List abE}{ta:TE}{t tk:TA}{nm:Option Str}
structure RS (K:Wc)(fd:Zu)(ps ks:List Str)(g:List Wd->List Wd->List Wd)(gV:List V->List V->List V):Prop where
 to:∀(s:Wr) (us ws:List Wd),K.In s.heap->(g us ws).length=ps.length->BindsTo s fd ⟨us,ks.zip ws⟩ (ps.zip (g us ws))
 rel:∀{vs:List V} {us:List Wd} {zs:List V} {ws:List Wd},aP vs us->aP zs ws->aP (gV vs zs) (g us ws)
variable {g:List Wd->List Wd->List Wd}{gV:List V->List V->List V}
end
structure aR (N P:List Str)(sc:abz):Prop where
 kind:sc.kind=.function
 co:sc.isCoroutine=false
 gen:sc.isGenerator=false
 nd:N.Nodup
 pre:N.take P.length=P
 par:∀x∈P,sc.names.lookup x=some .local\/sc.names.lookup x=some .cell
 nofree:∀y∈sc.names,y.2≠.free
theorem tG {XB:Str->Option abY}{x:Str}:∀{binds:List (Str×Wd)} {m:Str->Option Wd},(∀v,(x,v)∉binds)->bindL XB binds m x=m x
 | [],_,_=>rfl
 | (n,v)::r,m,h=>by
  unfold bindL;rw[tG λw hw=>h w (Wh _ hw)];split
  ·have:x≠n:=by rintro rfl;exact h v Wi
   simp[this]
  ·rfl
theorem tH {XB:Str->Option abY}{x:Str}:∀{binds:List (Str×Wd)} {m:Str->Option Wd},(∀v,(x,v)∉binds)->bindC XB binds m x=m x
 | [],_,_=>rfl
 | (n,v)::r,m,h=>by
  unfold bindC;rw[tH λw hw=>h w (Wh _ hw)];split
  ·rfl
  ·have:x≠n:=by rintro rfl;exact h v Wi
   simp[this]
theorem mL {XB:Str->Option abY}{x:Str}{v:Wd}:∀{P:List Str} {vs:List Wd} {i:Nat} {m:Str->Option Wd},P.Nodup->P[i]? = some x->vs[i]? = some v->XB x=some .local->
  bindL XB (P.zip vs) m x=some v
 | [],_,_,_,_,h,_,_=>by simp at h
 |_::_,[],_,_,_,_,h,_=>by simp at h
 |p::P,w::vs,0,m,nd,h1,h2,hk=>by
  simp at h1 h2;subst h1;subst h2;show bindL XB ((p,w)::P.zip vs) m p=_;unfold bindL;rw[tG λv hv=>(Y0.mp nd).1 (aaZ hv).1,hZ hk];simp
 |p::P,w::vs,i+1,m,nd,h1,h2,hk=>by
  show bindL XB ((p,w)::P.zip vs) m x=_;unfold bindL;exact mL (i:=i) (Y0.mp nd).2 (by simpa using h1) (by simpa using h2) hk
theorem mM {XB:Str->Option abY}{x:Str}{v:Wd}:∀{P:List Str} {vs:List Wd} {i:Nat} {m:Str->Option Wd},P.Nodup->P[i]? = some x->vs[i]? = some v->XB x≠some .local->
  bindC XB (P.zip vs) m x=some v
 | [],_,_,_,_,h,_,_=>by simp at h
 |_::_,[],_,_,_,_,h,_=>by simp at h
 |p::P,w::vs,0,m,nd,h1,h2,hk=>by
  simp at h1 h2;subst h1;subst h2;show bindC XB ((p,w)::P.zip vs) m p=_;unfold bindC;rw[tH λv hv=>(Y0.mp nd).1 (aaZ hv).1,hV hk];simp
 |p::P,w::vs,i+1,m,nd,h1,h2,hk=>by
  show bindC XB ((p,w)::P.zip vs) m x=_;unfold bindC;exact mM (i:=i) (Y0.mp nd).2 (by simpa using h1) (by simpa using h2) hk
noncomputable def aa0 (N:List Str)(vs:List V):St:=vs.map some++WO (N.length-vs.length) none
noncomputable def gP (CX:CXT)(P:YG)(w:Xt)(K:Wc)(mg:Str->Option Wd)(base:Y5)(N:List Str)(qual:Str)(scope:abz)(f:Ww)(cd:Wd)(A:W2)(outer:List Env)(s:Wr)(H:Hp)(E:XK):Cx where
 prog:=P
 w:=w
 K:=K
 mg:=mg
 base:=base
 A:=A.deeper (Yq qual scope s.heap.objs.size f cd)
 N:=N
 s₀:=s
 H₀:=H
 env:=Yq qual scope s.heap.objs.size f cd
 outer:=outer
 stack:=Yq qual scope s.heap.objs.size f cd::outer
 ex:=[]
 calm:=true
 fn:=λ_=>true
 pn:=[]
 xe:=λe s'=>Wv (WI P w) (A.deeper (Yq qual scope s.heap.objs.size f cd)) (leaving (Yq qual scope s.heap.objs.size f cd) e) (λ_ Di=>CX outer H s E e Di) (λe' Di=>CX outer H s E e' Di) s'
theorem kQ {sc:abz}(h:sc.names.lookup x=some .cell):∃c,(cellsFrom n sc.names []).lookup x=some c:=by
 have q:=aah sc.names n [] (.inl h);exact ZY.mp q
theorem BV {CX:CXT}{w:Xt}{cd:Wd}{A:W2}{outer:List Env}{s1:Wr}{E:XK}{us:List Wd}(S:aR N ps scope)(hd:A.handled=none)(e0:BU P w K mg base A outer s H)(hl:vs.length=ps.length)(r:aP vs us)(x:InCallC s s.heap.objs.size (bindL (Yq qual scope s.heap.objs.size f cd).kindOf (ps.zip us) λ_=>none) (cellsFrom (s.heap.objs.size+1) scope.names []) (bindC (Yq qual scope s.heap.objs.size f cd).kindOf (ps.zip us) λ_=>none) s1) :
  av (gP CX P w K mg base N qual scope f cd A outer s H E) [] (aa0 N vs) H s1:=by
 have j_:ps.length<=N.length:=by have:=congrArg aan S.pre;rw[Wx] at this;lia
 obtain⟨h1,tk,rfl,hk⟩:=x.done;have JA:∀b:Ww,b∉(gP CX P w K mg base N qual scope f cd A outer s H E).ex:=λb z=>absurd (show b∈([]:List Ww) from z) (by simp);refine⟨⟨e0.mod,S.kind,rfl,rfl,Wf _,λy z c h1 h2=>?_,λy hy=>?_,λy c _ h=>?_,λ_=>hd,Around.frames_deeper e0.frames,.inr ⟨rfl,rfl⟩,λb z=>absurd z (JA b),e0.bs,e0.bsz,λb _ _=>JA b,λb z=>absurd z (JA b),e0.funs,e0.frf⟩,
  rfl,e0.bare,Un.kept hk,⟨_,x.toInCall.ns,λi y v h1 h2 h3=>?_⟩,λy c h=>⟨_,x.cell y c h⟩,e0.hok.fresh (Wf _),λy c h=>?_,λp hp=>absurd (show p∈([]:List (Ww×Obj)) from hp) (by simp),e0.hok.kept hk,?_⟩
 ·exact name_of_addr x.apart (W3 h1) (W3 h2)
 ·have hy:scope.names.lookup y=some .cell\/scope.names.lookup y=some .free:=hy;rcases hy with hy|hy
  ·exact kQ hy
  ·exact absurd rfl (S.nofree _ (W3 hy))
 ·exact abk (x.above y c (W3 h))
 ·have hi:i<vs.length:=by
   unfold aa0 at h2;by_cases hi:i<vs.length
   ·exact hi
   ·rw[Xw (by simpa using hi)] at h2;rw[Z6] at h2;split at h2<;>cases h2
  have ha:vs[i]? = some v:=by
   unfold aa0 at h2;rw[XS (by simpa using hi),Wu] at h2;cases e:vs[i]? with
   |none=>rw[e] at h2;cases h2
   |some a=>rw[e] at h2;cases h2;rfl
  obtain⟨u,hu,rv⟩:=r.get ha;have hp:ps[i]? = some y:=by
   rw[←S.pre,abM (by lia)];exact h1
  have Qw:ps.Nodup:=by rw[←S.pre];exact S.nd.sublist (List.take_sublist _ _)
  refine⟨u,rv,?_⟩;rcases S.par y (Xq hp) with k|k
  ·exact .inl ⟨k,mL Qw hp hu k⟩
  ·obtain⟨c,e⟩:=kQ (n:=s.heap.objs.size+1) k;refine .inr ⟨.inl k,c,e,?_⟩;have q:=x.cell y c e;rw[mM Qw hp hu (by show scope.names.lookup y≠_;rw[k];decide)] at q;exact q
 ·exact e0.hok.fresh (abk (x.above y c (W3 h)))
 ·unfold aa0;show _=N.length;rw[V9,V6,Zj];lia
theorem JL {CX:CXT}{w:Xt}{params:Arguments}{dV kV jF pm bC ct oc:Wd}{sp:Sp}(lk:K.lookup f=some ⟨oc,od,.func (XH name qual params body scope dV kV jF pm an bC ct),osl⟩)(iF:aax K bC qual=true)(S:aR N ps scope)(len:∀vs H Q E,sp vs H Q E->vs.length=ps.length)(eB:∀(A:W2) (outer:List Env) (s:Wr) (H:Hp) (vs:List V) (Q:VK) (E:XK),dw k (A.deeper (Yq qual scope s.heap.objs.size f bC))->sp vs H Q E->
   ∃t,pR (gP CX P w K mg base N qual scope f bC A outer s H E) body t/\t {nx:=λ_ H'=>Q .non H',rt:=Q} (aa0 N vs) H) :
  iI P w K mg base CX (k+1) f (XH name qual params body scope dV kV jF pm an bC ct) ps sp:=by
 refine⟨len,λA outer s H args us vs Q E hr e0 hb r GJ=>?_⟩;have hl:=len _ _ _ _ GJ;have KX:K.In s.heap:=e0.mod.kin.keeps λb o e=>(e0.bs b o e).1;have S1:s.heap.NoLimit:=e0.mod.nolimit.keeps λb o e=>(e0.bs b o e).1;have GK:∀y∈ps.zip us,scope.names.lookup y.1=some .local\/(scope.names.lookup y.1=some .cell/\((cellsFrom (s.heap.objs.size+1) scope.names []).lookup y.1).isSome=true):=fun⟨n,v⟩ hy=>by
  rcases S.par n (aaZ hy).1 with q|q
  ·exact .inl q
  ·exact .inr ⟨q,aah _ _ _ (.inl q)⟩
 refine codeAny_call_function hr.depth (KX _ _ lk) rfl S.co S.gen rfl (PySem.W.codeRec_of KX iF) (hb _ _ _ _ ?_);refine wpAny_newFunctionEnv_cells S.kind GK λenv he s1 x=>?_;subst he;refine⟨S1.keeps x.toInCall.keep,codeAny_func ?_⟩;obtain⟨t,ht,hq⟩:=eB A outer s H vs Q E (hr.deeper _) GJ;have I:av (gP CX P w K mg base N qual scope f bC A outer s H E) [] (aa0 N vs) H s1:=BV S hr.hd e0 hl r x;refine Xg (ht [] s1 (aa0 N vs) H _ I hq) (λfl s' hs=>?_) λe s' hs=>hs;have fin:∀{σ':St} {H':Hp} {v:V} {u:Wd},av (gP CX P w K mg base N qual scope f bC A outer s H E) [] σ' H' s'->aM v u->Q v H'->CE outer P w H s Q u s' :=
  λ{σ' H' v u} J rv q=>⟨v,H',J.os,J.bare,J.base,J.hok,rv,q⟩
 cases fl with
 |ret u=>
  obtain⟨v,σ',H',J,rv,q⟩:=hs;exact fin J rv q
 |next=>
  obtain⟨σ',H',J,q⟩:=hs;exact fin (v:=V.non) (u:=Value.none) J rfl q
 |brk=>
  obtain⟨_,_,_,q⟩:=hs;exact XA q
 |cont=>
  obtain⟨_,_,_,q⟩:=hs;exact XA q
end L2
variable {CX:L2.CXT}{sp:L2.Sp}
namespace L2
section
variable {p:Pos}{e:X4}{es:List X4}{t:TA}{id:String}{r:List V->Hp->VK->Prop}
def RT (r:List V->Hp->VK->Prop)(t:TA):TE:=λσ H Q=>t σ H λvs H1=>r vs H1 Q
theorem f7 (hc:cU X (.builtin id) r)(hg:Gl X x)(hm:X.mg x=none)(hv:W6 x=some (.builtin id))(ha:PA X (e::es) t)(hn:x≠"__name__":=by decide)(v9:(x==("__debug__":Str))=false:=by decide)
  (he:Wm (e::es) X.env=(false,YX e X.env)::Wm es X.env:=by rfl) (j_:(Yp pos (Wm es X.env)).any (·.1)=false:=by rfl):PE X (.Call (.Name x p) (e::es) [] pos) (RT r t):=by
 intro pins s σ H Q I h;refine Zg (pS I hg hm hv ?_ hn v9);exact PyProof.Rows.callWith_builtin1 (cS (ha pos pins s σ H _ I h) λus s1 ⟨vs,H1,I1,r1,q1⟩=>hc pins s1 σ H1 vs us Q I1 r1 q1) he j_
theorem ij (hc:cU X (.type T) r)(hg:Gl X x)(hm:X.mg x=none)(hv:W6 x=some (.type T))(ha:PA X (e::es) t)(hn:x≠"__name__":=by decide)(v9:(x==("__debug__":Str))=false:=by decide)
  (he:Wm (e::es) X.env=(false,YX e X.env)::Wm es X.env:=by rfl) (j_:(Yp pos (Wm es X.env)).any (·.1)=false:=by rfl):PE X (.Call (.Name x p) (e::es) [] pos) (RT r t):=by
 intro pins s σ H Q I h;refine Zg (pS I hg hm hv ?_ hn v9);exact Zi (cS (ha pos pins s σ H _ I h) λus s1 ⟨vs,H1,I1,r1,q1⟩=>hc pins s1 σ H1 vs us Q I1 r1 q1) he j_
end
end L2
namespace HT
section
variable {w:Xt}{A:W2}
theorem cat_tup {t:Ww}{vs ws:List Wd}(ht:IsTup s.heap t vs.toArray)(hb:IsTup s.heap b ws.toArray)(hv:vs≠[])(h1:ws=[]->Q (.ref t) s)(h2:ws≠[]->Q (.ref s.heap.objs.size) {s with heap:=s.heap.push {cls:=.type "tuple",data:=.seq (vs++ws).toArray}})(hsz:vs.length+ws.length<=Wa):Wv (WI prog w) A (Zf .Add (.ref t) (.ref b)) Q E s:=by
 obtain⟨⟨cls,dd,data,sl⟩,ho,hc,n,hd⟩:=id ht;obtain⟨⟨cls2,OA,data2,sl2⟩,ho2,hc2,n2,JG⟩:=id hb;simp only at hc hd hc2 JG;subst hc hd hc2 JG;have e:vs.toArray++ws.toArray=(vs++ws).toArray:=by simp
 by_cases hw:ws=[]
 ·exact concat_meets ⟨_,ho,rfl⟩ ⟨_,ho2,rfl⟩ noFill_tuple_add seq_tuple_add aai Z7 (ZZ _ _)
   (tuple_addW1 t b vs.toArray ws.toArray n n2 dd OA sl sl2 (by simpa using hv) (by simp[hw])) ⟨ho,ho2,h1 hw⟩
 ·refine concat_meets ⟨_,ho,rfl⟩ ⟨_,ho2,rfl⟩ noFill_tuple_add seq_tuple_add aai Z7 (ZZ _ _)
   (tuple_addW2 t b vs.toArray ws.toArray n n2 dd OA sl sl2 (by simpa using hv) (by simpa using hw) (by rw[Wb,Wb];exact hsz)) ⟨ho,ho2,?_⟩
  rw[e];exact h2 hw
noncomputable def sIx (n d:Nat):Option Int->Nat
 |none=>d
 |some v=>if v<0 then (v+(n:Int)).toNat else min v.toNat n
theorem sIx_none (n d:Nat):sIx n d none=d:=rfl
theorem sIx_nat (n d k:Nat):sIx n d (some (k:Int))=min k n:=by
 show (if (k:Int)<0 then ((k:Int)+(n:Int)).toNat else min (k:Int).toNat n)=min k n;rw[hV (by lia),Xs]
theorem LN (n d:Nat)(hd:d<=n)(o:Option Int):sIx n d o<=n:=by
 cases o with
 |none=>exact hd
 |some v=>
  show (if v<0 then (v+(n:Int)).toNat else min v.toNat n)<=n;by_cases hv:v<0
  ·rw[hZ hv];lia
  ·rw[hV hv];exact Nat.min_le_right _ _
theorem Ad (v:Int)(n d:Nat):(if v<0 then max (v+(n:Int)) 0 else min v (n:Int))=((sIx n d (some v):Nat):Int):=by
 show (if v<0 then max (v+(n:Int)) 0 else min v (n:Int))=(((if v<0 then (v+(n:Int)).toNat else min v.toNat n):Nat):Int);by_cases hv:v<0
 ·simp only[hZ hv];lia
 ·simp only[hV hv];lia
theorem yE (lo hi:Option Int)(n:Nat):ZJ lo hi 1 (n:Int)=(((sIx n 0 lo:Nat):Int),((sIx n n hi:Nat):Int)):=by
 have h1:¬((1:Int)<0):=(by lia)
 unfold ZJ;simp only[h1,if_false];refine Prod.ext ?_ ?_
 ·cases lo with
  |none=>rfl
  |some v=>exact Ad v n 0
 ·cases hi with
  |none=>rfl
  |some v=>exact Ad v n n
theorem yF (i j:Nat):YS (i:Int) (j:Int) 1=j-i:=by
 unfold YS;have h1:(1:Int)>0:=(by lia)
 simp only[h1,if_true,Int.ediv_one];split<;>lia
theorem pX {v:Wd}{o:Option Int}{Q:Option Int->Wr->Prop}(p:IsPart v o)(h:Q o s):Wv (WI prog w) A (Builtin.Slice.slicePartIndex v) Q E s:=by
 cases p with
 |none=>exact slicePart_none h
 |int i t=>exact slicePart_int h
theorem ik {sl:Ww}{vl vu:Wd}{lo:Option Int}{Q:Int×Int×Nat->Wr->Prop}(hs:s.heap.IsSliceOf sl vl vu .none)(pl:IsPart vl lo)(pu:IsPart vu hi)(h:Q (((sIx n 0 lo:Nat):Int),1,sIx n n hi-sIx n 0 lo) s):Wv (WI prog w) A (abc (.ref sl) (pure (n:Int))) Q E s:=by
 obtain⟨os,G9,hcs,hds⟩:=id hs;unfold abc Builtin.Slice.sliceFields;refine V3 (V3 (X0 G9 hds (x:=vl) rfl (V3 (X0 G9 hds (x:=vu) rfl (V3 (X0 G9 hds (x:=.none) rfl (V8 ?_)))))));refine V3 (slicePart_none ?_);show Wv _ _ (if ((1:Int)==0)=true then _ else _) _ _ s;rw[hV (by decide)];refine V3 (pX pl (V3 (pX pu (V3 (V8 ?_)))));show Wv _ _ (match ZJ lo hi 1 (n:Int) with|(lo,hi)=>pure (lo,(1:Int),YS lo hi 1)) _ _ s;rw[yE lo hi n];show Wv _ _ (pure (((sIx n 0 lo:Nat):Int),(1:Int),YS ((sIx n 0 lo:Nat):Int) ((sIx n n hi:Nat):Int) 1)) _ _ s;rw[yF];exact V8 h
theorem DC (xs:Array Wd)(i k:Nat):((Xf k).filterMap λ(m:Nat)=>xs[((i:Int)+(m:Int)*1).toNat]?).toArray=((xs.toList.drop i).take k).toArray:=by
 have e:(λ(m:Nat)=>xs[((i:Int)+(m:Int)*1).toNat]?)=λm=>xs[i+m]? := by
  funext m;have:((i:Int)+(m:Int)*1).toNat=i+m:=(by lia)
  rw[this]
 rw[e];have:=pick_run xs i k;rw[List.filterMap_map] at this;have e2:((λx=>xs[x]?)∘λx=>i+x)=λm=>xs[i+m]? := rfl;rw[e2] at this;rw[this]
theorem getItem_tuple_cut {t sl:Ww}{items:Array Wd}{vl vu:Wd}{lo:Option Int}(ht:IsTup s.heap t items)(hs:s.heap.IsSliceOf sl vl vu .none)(pl:IsPart vl lo)(pu:IsPart vu hi)(hw:¬(sIx items.size 0 lo=0/\sIx items.size items.size hi=items.size))(h:Q (.ref s.heap.objs.size) {s with heap:=s.heap.push {cls:=.type "tuple",data:=.seq ((items.toList.drop (sIx items.size 0 lo)).take (sIx items.size items.size hi-sIx items.size 0 lo)).toArray}})(hsz:items.size<=Wa):Wv (WI prog w) A (aa1 (.ref t) (.ref sl)) Q E s:=by
 have BE:sizeOk (.seq ((items.toList.drop (sIx items.size 0 lo)).take (sIx items.size items.size hi-sIx items.size 0 lo)).toArray):=by
  show ((items.toList.drop (sIx items.size 0 lo)).take (sIx items.size items.size hi-sIx items.size 0 lo)).toArray.size<=Wa;rw[Wb,Wx,W9,Wg];lia
 have hj:sIx items.size items.size hi<=items.size:=LN _ _ (Wf _) hi;obtain⟨os,G9,hcs,hds⟩:=id hs;have S2:s.TypeIs (.ref sl) "slice":=⟨os,G9,hcs⟩;unfold aa1
 try with_reducible refine Xp ?_
 first|refine V3 (V8 ?_)|skip
 refine V3 (wpAny_sequenceKey ht.typeIs (by decide) ?_);refine V3 (W_ (name:=XO "__getitem__") ht.typeIs Yh
  (Xe Yh ht.typeIs entry_tuple_getitem ?_ (args_tuple_getitem _ _)))
 show Wv _ _ (ZD (.ref t) >>= _) _ _ s;refine V3 (tupleItemsOf_ ht ?_);refine V3 (aaB S2 ?_);rw[hZ (by decide)];refine V3 (ik hs pl pu ?_);have S3:¬((((sIx items.size 0 lo:Nat):Int)==0&&(1:Int)==1&&(sIx items.size items.size hi-sIx items.size 0 lo)==items.size)=true):=by
  intro q;rw[Wt,Wt] at q;have q1:((sIx items.size 0 lo:Nat):Int)=0:=eq_of_beq q.1.1;have q2:sIx items.size items.size hi-sIx items.size 0 lo=items.size:=eq_of_beq q.2;exact hw ⟨(by lia),(by lia)⟩
 show Wv _ _ (if (((sIx items.size 0 lo:Nat):Int)==0&&(1:Int)==1&&(sIx items.size items.size hi-sIx items.size 0 lo)==items.size)=true then _ else _) _ _ s;rw[hV S3,DC]
 first
  |exact V3 (m:=XC _) (WR (V8 ⟨_,rfl,V8 h⟩) BE)
  |exact V3 (m:=XC _) (WR (V3 (V8 (V8 ⟨_,rfl,V8 h⟩))) BE)
  |exact V3 (V3 (m:=XC _) (WR (V8 (V8 ⟨_,rfl,V8 h⟩)) BE))
  |exact V3 (V3 (m:=XC _) (WR (V8 ⟨_,rfl,V8 h⟩) BE))
end
end HT
namespace L2
abbrev TO:=St->Hp->(Option Int->Hp->Prop)->Prop
def PO (X:Cx)(e:Option X4)(t:TO):Prop:=
 ∀(pins:List (Ww×Obj)) (s:Wr) (σ:St) (H:Hp) (Q:Option Int->Hp->Prop),av X pins σ H s->t σ H Q->
  Wv (WI X.prog X.w) X.A (evalPart e X.env) (λu s'=>∃o H',av X pins σ H' s'/\IsPart u o/\Q o H') X.xe s
def Hm:TO:=λ_ H Q=>Q none H
def OX (t:TE):TO:=λσ H Q=>t σ H λx H1=>∃i,x=.int i/\Q (some i) H1
theorem kr:∀{us:List Wd},aP (ns.map V.int) us->aa2 us ns:=by
 induction ns with
 |nil=>intro us r;rw[Ym] at r;cases r;exact .nil
 |cons n ns ih=>
  intro us r;rw[V_] at r;cases r with
  |cons r1 r2=>
   obtain⟨t,e⟩:=r1;subst e;exact .cons n t (ih r2)
section
variable {e:X4}{lo hi:Option X4}{tl th:TO}
theorem Hn:PO X none Hm:=by
 intro pins s σ H Q I h;rw[evalPart_none];exact V8 ⟨none,H,I,.none,h⟩
theorem Ho (h:PE X e te):PO X (some e) (OX te):=by
 intro pins s σ H Q I hw;rw[evalPart_some];refine cS (h pins s σ H _ I hw) λu s1 ⟨x,H1,I1,r1,q1⟩=>?_;obtain⟨i,rfl,q⟩:=q1;obtain⟨t,rfl⟩:=r1;exact⟨some i,H1,I1,.int i t,q⟩
def DF (X:Cx)(r:V->Option Int->Option Int->Hp->VK->Prop):Prop:=
 ∀(pins:List (Ww×Obj)) (s:Wr) (σ:St) (H:Hp) (x:V) (v vl vu:Wd) (lo hi:Option Int) (sl:Ww) (Q:VK),av X pins σ H s->aM x v->s.heap.IsSliceOf sl vl vu .none->IsPart vl lo->IsPart vu hi->r x lo hi H Q->
  ∃T id,typeLookup (.type T) "__getitem__"=pure (some (.builtin id))/\s.TypeIs v T/\Wv (WI X.prog X.w) X.A (aa1 v (.ref sl)) (EP X pins σ Q) X.xe s
theorem DF.or {r r':V->Option Int->Option Int->Hp->VK->Prop}(h:DF X r)(h':DF X r'):DF X (λx lo hi H Q=>r x lo hi H Q\/r' x lo hi H Q):=by
 intro pins s σ H x v vl vu lo hi sl Q I rx hs pl pu q;rcases q with q|q
 ·exact h pins s σ H x v vl vu lo hi sl Q I rx hs pl pu q
 ·exact h' pins s σ H x v vl vu lo hi sl Q I rx hs pl pu q
def Uv (r:V->Option Int->Option Int->Hp->VK->Prop)(te:TE)(tl th:TO):TE:=λσ H Q=>te σ H λx H1=>tl σ H1 λl H2=>th σ H2 λu H3=>r x l u H3 Q
theorem DH {r:V->Option Int->Option Int->Hp->VK->Prop}(hr:DF X r)(he:PE X e te)(hl:PO X lo tl)(hu:PO X hi th):PE X (.Subscript e (.Slice lo hi none p2) pos) (Uv r te tl th):=by
 intro pins s σ H Q I h;refine Subscript_ (cS (he pins s σ H _ I h) λv s1 ⟨x,H1,I1,r1,q1⟩=>?_);refine wpAny_Slice (cS (hl pins s1 σ H1 _ I1 q1) λvl s2 ⟨l,H2,I2,pl,q2⟩=>cS (hu pins s2 σ H2 _ I2 q2) λvu s3 ⟨u,H3,I3,pu,q3⟩=>?_);rw[evalPart_none];refine V8 ?_;have I4:av X pins σ H3 {s3 with heap:=s3.heap.push {cls:=.type "slice",data:=.fields (List.toArray [vl,vu,.none])}}:=I3.kept (t':=s3.toks) λb ob q=>V7 _ q;obtain⟨T,id,hT,ht,hg⟩:=hr pins {s3 with heap:=s3.heap.push {cls:=.type "slice",data:=.fields (List.toArray [vl,vu,.none])}} σ H3 x v vl vu l u s3.heap.objs.size Q I4 r1 (Heap.IsSliceOf.new ..) pl pu q3;show Wv (WI X.prog X.w) X.A (subscriptTail e (.Slice lo hi none p2) v (.ref s3.heap.objs.size)) (EP X pins σ Q) X.xe {s3 with heap:=s3.heap.push {cls:=.type "slice",data:=.fields (List.toArray [vl,vu,.none])}};exact tail_any (ops:=[.ref s3.heap.objs.size,v]) ht hT hg (by with_unfolding_all rfl)
noncomputable def pY (xs:List V)(lo hi:Option Int):List V:=(xs.drop (HT.sIx xs.length 0 lo)).take (HT.sIx xs.length xs.length hi-HT.sIx xs.length 0 lo)
theorem nV (xs:List V)(lo hi:Option Int):(pY xs lo hi).length<=xs.length:=by
 unfold pY;rw[Wx,W9];lia
def OY (K:Wc):V->Option Int->Option Int->Hp->VK->Prop:=λx lo hi H Q=>∃a xs,x=.ref a/\eZ K H a xs/\
 ¬(HT.sIx xs.length 0 lo=0/\HT.sIx xs.length xs.length hi=xs.length)/\∀p,H p=none->Q (.ref p) (bL H p (.tup (pY xs lo hi)))
theorem LO:DF X (OY X.K):=by
 intro pins s σ H x v vl vu lo hi sl Q I rx hs pl pu h;obtain⟨a,xs,rfl,hx,hw,q⟩:=h;cases rx;obtain⟨ao,r,ht,hz⟩:=I.tuple hx;have cv:ao.toArray.size=xs.length:=by rw[Wb];exact r.length.symm
 refine⟨"tuple",_,PyProof.Rows.slot_tuple_getitem.lookup,ht.typeIs,?_⟩;refine HT.getItem_tuple_cut ht hs pl pu (by rw[cv];exact hw) ?_ (by rw[cv];exact hz);rw[cv];refine⟨.ref s.heap.objs.size,_,I.laid (t':=s.toks) (o:=.tup (pY xs lo hi)) (λb ob q=>V7 _ q) (Wf _) ?_,rfl,q _ (I.hok.fresh (Wf _))⟩;exact⟨WD (nV xs lo hi) hz,_,(r.drop (HT.sIx xs.length 0 lo)).take (HT.sIx xs.length xs.length hi-HT.sIx xs.length 0 lo),IsTup.new _ _,_,Wj _ rfl⟩
def OZ (K:Wc):R2:=λx y H Q=>∃a b xs ys,x=.ref a/\y=.ref b/\eZ K H a xs/\eZ K H b ys/\xs≠[]/\xs.length+ys.length<=Wa/\
 (ys=[]->Q (.ref a) H)/\(ys≠[]->∀p,H p=none->Q (.ref p) (bL H p (.tup (xs++ys))))
theorem aP.nil_iff {us:List Wd}(r:aP xs us):us=[]↔xs=[]:=by
 cases r with
 |nil=>simp
 |cons _ _=>simp
theorem Hq:i9 X (Zf .Add) (OZ X.K):=by
 intro pins s σ H x y v u Q I rx ry h;obtain⟨a,b,xs,ys,rfl,rfl,ha,hb,hx,hz,q1,q2⟩:=h;cases rx;cases ry;obtain⟨ao,r1,p1,_⟩:=I.tuple ha;obtain⟨its2,r2,p2,_⟩:=I.tuple hb;refine HT.cat_tup p1 p2 (λz=>hx (r1.nil_iff.mp z)) (λz=>⟨.ref a,H,I,rfl,q1 (r2.nil_iff.mp z)⟩) (λz=>?_) (by rw[←r1.length,←r2.length];exact hz);refine⟨.ref s.heap.objs.size,_,I.laid (t':=s.toks) (o:=.tup (xs++ys)) (λb ob q=>V7 _ q) (Wf _) ?_,rfl,q2 (λw=>z (r2.nil_iff.mpr w)) _ (I.hok.fresh (Wf _))⟩;exact⟨by rw[V9];exact hz,_,r1.append r2,IsTup.new _ _,_,Wj _ rfl⟩
end
end L2
namespace L2
noncomputable def yG (n:Nat)(i:Int):Option Nat:=if 0<=i then (if i<n then some i.toNat else none) else if -(n:Int)<=i then some (i+n).toNat else none
noncomputable def ku {α:Type}(xs:List α)(i:Int):Option α:=(yG xs.length i).bind λj=>xs[j]?
theorem Ae {i:Int}(h:yG n i=some j):abN i n=some j/\j<n/\ -(n:Int)<=i/\i<n:=by
 unfold yG at h;by_cases h0:0<=i
 ·rw[hZ h0] at h;by_cases h1:i<n
  ·rw[hZ h1] at h;have e:i.toNat=j:=WS h;exact⟨by rw[seqIndex_of h0 h1,e],(by lia),(by lia),h1⟩
  ·rw[hV h1] at h;cases h
 ·rw[hV h0] at h;by_cases h1 : -(n:Int)<=i
  ·rw[hZ h1] at h;have e:(i+n).toNat=j:=WS h;exact⟨by rw[seqIndex_neg (by lia) h1,e],(by lia),h1,(by lia)⟩
  ·rw[hV h1] at h;cases h
theorem uO {α:Type}{xs:List α}{i:Int}{v:α}(h:ku xs i=some v):∃j,abN i xs.length=some j/\xs[j]? = some v/\j<xs.length/\ -(xs.length:Int)<=i/\i<xs.length:=by
 unfold ku at h;cases e:yG xs.length i with
 |none=>rw[e] at h;cases h
 |some j=>
  rw[e] at h;obtain⟨h1,h2,h3,h4⟩:=Ae e;exact⟨j,h1,h,h2,h3,h4⟩
def Af (b:X4):Prop:=∀o i,subscripted b false o i=operate [o,i] (aa1 o i)
def GZ (X:Cx)(r:R2):Prop:=
 ∀(value slice:X4) (pins:List (Ww×Obj)) (s:Wr) (σ:St) (H:Hp) (x y:V) (v u:Wd) (Q:VK),av X pins σ H s->aM x v->aM y u->r x y H Q->
  subscripted slice false v u=operate [v,u] (aa1 v u)->Wv (WI X.prog X.w) X.A (subscriptTail value slice v u) (EP X pins σ Q) X.xe s
def C_ (X:Cx)(id:String)(r:V->List V->Hp->VK->Prop):Prop:=
 ∀(pins:List (Ww×Obj)) (s:Wr) (σ:St) (H:Hp) (x:V) (xs:List V) (v:Wd) (us:List Wd) (Q:VK),av X pins σ H s->aM x v->aP xs us->r x xs H Q->
  Wv (WI X.prog X.w) X.A (call (.builtin id) (v::us)) (EP X pins σ Q) X.xe s
section
variable {a b:X4}{ta tb:TE}
theorem GZ.or {r':R2}(h:GZ X r)(h':GZ X r'):GZ X (λx y H Q=>r x y H Q\/r' x y H Q):=by
 intro value slice pins s σ H x y v u Q I rx ry q hs;rcases q with q|q
 ·exact h value slice pins s σ H x y v u Q I rx ry q hs
 ·exact h' value slice pins s σ H x y v u Q I rx ry q hs
theorem C_.or {id:String}{r r':V->List V->Hp->VK->Prop}(h:C_ X id r)(h':C_ X id r'):C_ X id (λx xs H Q=>r x xs H Q\/r' x xs H Q):=by
 intro pins s σ H x xs v us Q I rx rs q;rcases q with q|q
 ·exact h pins s σ H x xs v us Q I rx rs q
 ·exact h' pins s σ H x xs v us Q I rx rs q
theorem JM (hr:GZ X r)(ha:PE X a ta)(hb:PE X b tb)(hs:Af b):PE X (.Subscript a b pos) (ON r ta tb):=by
 intro pins s σ H Q I h;exact Subscript_ (LH ha hb I h λv u s2 x y H2 I2 rx ry q=>hr a b pins s2 σ H2 x y v u Q I2 rx ry q (hs _ _))
def O0 (K:Wc):R2:=λx y H Q=>∃p xs i v,x=.ref p/\y=.int i/\eF K H p xs/\ku xs i=some v/\Q v H
def O1 (K:Wc):R2:=λx y H Q=>∃p xs i v,x=.ref p/\y=.int i/\eZ K H p xs/\ku xs i=some v/\Q v H
def O2:R2:=λx y H Q=>∃z i c,x=.str z/\y=.int i/\z.length<=Wa/\ku z.cps.toList i=some c/\Q (.str ⟨(List.toArray [c])⟩) H
theorem Ag:GZ X (O0 X.K):=by
 intro value slice pins s σ H x y v u Q I rx ry h hs;obtain⟨p,xs,i,z,rfl,rfl,hq,he,q⟩:=h;cases rx;obtain⟨t,rfl⟩:=ry;obtain⟨ao,r,pl,hz⟩:=I.list hq;obtain⟨j,h1,h2,h3,h4,h5⟩:=uO he;obtain⟨w,ew,yp⟩:=r.get h2;have hl:=r.length;have hn:=mI;have fin:EP X pins σ Q w s:=⟨z,H,I,yp,q⟩;by_cases h0:0<=i
 ·have hj:i.toNat=j:=by
   rw[seqIndex_of h0 h5] at h1;exact WS h1
  exact item_listR pl.isList h0 (by lia) (by rw[hj];simpa using ew) fin hs
 ·have hj:(i+(ao.toArray.size:Int)).toNat=j:=by
   rw[seqIndex_neg (by lia) h4] at h1;rw[Wb,←hl];exact WS h1
  exact subscriptTail_builtinR (x:=w) pl.isList.typeIs slot_list_getitem.lookup
   (wpAny_getItem_list_neg (Q:=λr s'=>r=w/\EP X pins σ Q r s') pl.isList (by lia) (by rw[Wb]<;>lia) (by lia) (by rw[hj];simpa using ew) ⟨rfl,fin⟩) hs
theorem LP:GZ X (O1 X.K):=by
 intro value slice pins s σ H x y v u Q I rx ry h hs;obtain⟨p,xs,i,z,rfl,rfl,hq,he,q⟩:=h;cases rx;obtain⟨t,rfl⟩:=ry;obtain⟨ao,r,pl,hz⟩:=I.tuple hq;obtain⟨j,h1,h2,h3,h4,h5⟩:=uO he;obtain⟨w,ew,yp⟩:=r.get h2;have hl:=r.length;have hn:=mI;have fin:EP X pins σ Q w s:=⟨z,H,I,yp,q⟩;exact subscriptTail_builtinR (x:=w) pl.typeIs slot_tuple_getitem.lookup
  (getItem_tuple (j:=j) (Q:=λr s'=>r=w/\EP X pins σ Q r s') pl (by lia) (by lia) (by rw[Wb,←hl];exact h1) (by simpa using ew) ⟨rfl,fin⟩) hs
theorem LQ:GZ X O2:=by
 intro value slice pins s σ H x y v u Q I rx ry h hs;obtain⟨z,i,c,rfl,rfl,hz,he,q⟩:=h;obtain⟨t,rfl⟩:=rx;obtain⟨t',rfl⟩:=ry;obtain⟨j,h1,h2,h3,h4,h5⟩:=uO he;have hl:z.cps.toList.length=z.length:=by simp[Str.length]
 rw[hl] at h1 h4 h5;have hn:=mI;exact tail_any (typeIs_str s z t) slot_str_getitem.lookup (getItem_str (c:=c) (by
  have e1:decide (i < -(2 ^ 63:Int))=false:=hJ (by lia);have e2:decide (i≥2 ^ 63)=false:=hJ (by lia);rw[e1,e2,Bool.or_false]) (by rw[h1];simpa using h2) ⟨.str ⟨(List.toArray [c])⟩,H,I.tok _,⟨_,rfl⟩,q⟩) hs
def TB (K:Wc):R2:=λx y H Q=>O0 K x y H Q\/O1 K x y H Q\/O2 x y H Q
theorem dY:GZ X (TB X.K):=Ag.or (LP.or LQ)
theorem yH (ao:List Wd)(n j:Nat)(u:Wd):Zx (·.setIfInBounds j u) {cls:=.type "list",data:=.seq ao.toArray n}={cls:=.type "list",data:=.seq (ao.set j u).toArray n}:=by
 simp[Zx]
theorem av.lst (I:av X pins σ H s)(h:H p=some (.lst xs)) :
  ∃(ao:List Wd) (n:Nat),aP xs ao/\s.heap.get? p=some {cls:=.type "list",data:=.seq ao.toArray n}/\xs.length<=Wa:=by
 obtain⟨z,ao,n,r,e⟩:=I.hok p _ h;exact⟨ao,n,r,e,z⟩
theorem av.lstUpd {ys:List V}{its':List Wd}{n':Nat}{f:Obj->Obj}(I:av X pins σ H s)(h:H p=some (.lst xs))(ho:s.heap.get? p=some {cls:=.type "list",data:=.seq ao.toArray n})(hf:f {cls:=.type "list",data:=.seq ao.toArray n}={cls:=.type "list",data:=.seq its'.toArray n'})(r:aP ys its')(hz:ys.length<=Wa)(t:Nat) :
  av X pins σ (bL H p (.lst ys)) {s with heap:=s.heap.update p f,toks:=t}:=by
 have e:(s.heap.update p f).get? p=some {cls:=.type "list",data:=.seq its'.toArray n'}:=by
  rw[Zk f ho (by rw[hf]<;>rfl),hf]
 refine I.write (x:=p) (e:=p) (by rw[h];trivial) (.inl rfl) (λb u hb q=>(Heap.get?_update_other _ _ (Ne.symm hb)).trans q) ⟨_,e⟩ ?_;exact⟨hz,its',n',r,e⟩
def O3:V->V->V->Hp->(Hp->Prop)->Prop:=λo i v H Q=>∃p xs k j,o=.ref p/\i=.int k/\H p=some (.lst xs)/\yG xs.length k=some j/\Q (bL H p (.lst (xs.set j v)))
theorem DJ:OI X O3:=by
 intro pins s σ H o i v ov iv u Q I ro ri rv h;obtain⟨p,xs,k,j,rfl,rfl,hp,hj,q⟩:=h;cases ro;obtain⟨t,rfl⟩:=ri;obtain⟨ao,n,r,ho,hz⟩:=I.lst hp;obtain⟨h1,h2,h3,h4⟩:=Ae hj;have hl:=r.length;have hn:=mI;have I':av X pins σ (bL H p (.lst (xs.set j v))) {s with heap:=s.heap.update p (Zx (·.setIfInBounds j u))}:=
  I.lstUpd hp ho (yH ao n j u) (r.set rv j) (by rw[XI];exact hz) s.toks
 by_cases h0:0<=k
 ·have hk:k.toNat=j:=by
   rw[seqIndex_of h0 h4] at h1;exact WS h1
  exact PySem.W.ki_setAt ho h0 (by lia) (by rw[Wb,←hl];exact h4) (by rw[hk];exact⟨_,I',q⟩)
 ·have hk:(k+(ao.toArray.size:Int)).toNat=j:=by
   rw[seqIndex_neg (by lia) h3] at h1;rw[Wb,←hl];exact WS h1
  exact PySem.W.ki_setBack ho (by lia) (by rw[Wb,←hl];exact h3) (by lia) (by rw[hk];exact⟨_,I',q⟩)
theorem uP (lo hi:Option Int)(n:Nat):(aao lo hi none n).1=((HT.sIx n 0 lo:Nat):Int)/\(aao lo hi none n).2.1=((HT.sIx n n hi:Nat):Int)/\(aao lo hi none n).2.2=1:=by
 refine⟨?_,?_,rfl⟩
 ·cases lo with
  |none=>simp[aao,HT.sIx]
  |some i=>
   simp only[aao,HT.sIx,aaI,show (1:Int)>0 by decide,if_true];by_cases h:i<0
   ·simp only[h,if_true]<;>lia
   ·simp only[h,if_false]<;>lia
 ·cases hi with
  |none=>simp[aao,HT.sIx]
  |some i=>
   simp only[aao,HT.sIx,aaI,show (1:Int)>0 by decide,if_true];by_cases h:i<0
   ·simp only[h,if_true]<;>lia
   ·simp only[h,if_false]<;>lia
theorem sI (ao:List Wd)(lo hi:Option Int):slicePick ao.toArray lo hi none=((ao.drop (HT.sIx ao.length 0 lo)).take (HT.sIx ao.length ao.length hi-HT.sIx ao.length 0 lo)).toArray:=by
 obtain⟨h1,h2,h3⟩:=uP lo hi ao.toArray.size;unfold slicePick;rw[h1,h2,h3];simp only[sliceRange_one,pick_run,Wb]<;>rfl
def Hr (K:Wc):V->Option Int->Option Int->Hp->VK->Prop:=λx lo hi H Q=>∃a xs,x=.ref a/\eF K H a xs/\∀p,H p=none->Q (.ref p) (bL H p (.lst (pY xs lo hi)))
theorem Hs:DF X (Hr X.K):=by
 intro pins s σ H x v vl vu lo hi sl Q I rx hs pl pu h;obtain⟨a,xs,rfl,hx,q⟩:=h;cases rx;obtain⟨ao,r,ht,hz⟩:=I.list hx;have cv:=r.length;refine⟨"list",_,slot_list_getitem.lookup,ht.isList.typeIs,?_⟩;refine wpAny_getItem_list_slice ht.isList hs pl pu .none (by simp) ?_ (by rw[Wb]<;>lia);rw[sI,←cv];refine⟨.ref s.heap.objs.size,_,I.laid (t':=s.toks) (o:=.lst (pY xs lo hi)) (λb ob q=>V7 _ q) (Wf _) ?_,rfl,q _ (I.hok.fresh (Wf _))⟩;exact⟨WD (nV xs lo hi) hz,_,0,(r.drop (HT.sIx xs.length 0 lo)).take (HT.sIx xs.length xs.length hi-HT.sIx xs.length 0 lo),Wj _ rfl⟩
noncomputable def jn:V->Bool
 | .non=>true
 | .bl _=>true
 | .int _=>true
 | .str _=>true
 |_=>false
noncomputable def Dd:V->V->Bool
 | .non,.non=>true
 | .bl a,.bl b=>a==b
 | .bl a,.int b=>(if a then 1 else 0)==b
 | .int a,.bl b=>a==(if b then 1 else 0)
 | .int a,.int b=>a==b
 | .str a,.str b=>a==b
 |_,_=>false
theorem LS {A:W2}{x:V}{u v:Wd}(ry:aM y u)(rx:aM x v)(fy:jn y=true)(fx:jn x=true):YJ A s u v (Dd y x):=by
 cases y with
 |non=>
  cases ry;cases x with
  |non=>cases rx;exact Z8 _
  |bl b=>cases rx;exact SeqAt.EqAt.none_bool b
  |int b=>obtain⟨t,rfl⟩:=rx;exact SeqAt.EqAt.none_int b t
  |str b=>obtain⟨t,rfl⟩:=rx;exact SeqAt.EqAt.none_str b t
  |_=>exact absurd (show false=true from fx) V5
 |bl a=>
  cases ry;cases x with
  |non=>cases rx;exact SeqAt.EqAt.bool_none a
  |bl b=>cases rx;exact SeqAt.EqAt.bool_bool a b
  |int b=>obtain⟨t,rfl⟩:=rx;exact SeqAt.EqAt.bool_int a b t
  |str b=>obtain⟨t,rfl⟩:=rx;exact SeqAt.EqAt.bool_str a b t
  |_=>exact absurd (show false=true from fx) V5
 |int a=>
  obtain⟨t',rfl⟩:=ry;cases x with
  |non=>cases rx;exact SeqAt.EqAt.int_none a t'
  |bl b=>cases rx;exact SeqAt.EqAt.int_bool a t' b
  |int b=>obtain⟨t,rfl⟩:=rx;exact abq a t' b t
  |str b=>obtain⟨t,rfl⟩:=rx;exact abi a t' b t
  |_=>exact absurd (show false=true from fx) V5
 |str a=>
  obtain⟨t',rfl⟩:=ry;cases x with
  |non=>cases rx;exact SeqAt.EqAt.str_none a t'
  |bl b=>cases rx;exact SeqAt.EqAt.str_bool a t' b
  |int b=>obtain⟨t,rfl⟩:=rx;exact abj a t' b t
  |str b=>obtain⟨t,rfl⟩:=rx;exact SeqAt.EqAt.str_str a t' b t
  |_=>exact absurd (show false=true from fx) V5
 |_=>exact absurd (show false=true from fy) V5
noncomputable def LU (x:V)(u:Wd):Bool:=match u with
 | .none=>Dd .non x
 | .bool b=>Dd (.bl b) x
 | .int i _=>Dd (.int i) x
 | .str z _=>Dd (.str z) x
 |_=>false
theorem yI {x:V}{u:Wd}(r:aM y u)(f:jn y=true):LU x u=Dd y x:=by
 cases y with
 |non=>cases r;rfl
 |bl b=>cases r;rfl
 |int i=>obtain⟨t,rfl⟩:=r;rfl
 |str z=>obtain⟨t,rfl⟩:=r;rfl
 |_=>exact absurd (show false=true from f) V5
theorem pZ {A:W2}{s:Wr}{x:V}{v:Wd}(rx:aM x v)(fx:jn x=true):∀{xs:List V} {us:List Wd},aP xs us->xs.all jn=true->∀u∈us,YJ A s u v (LU x u)
 |_,_,.nil,_=>λu hu=>by cases hu
 |y::xs,u::us,.cons r t,f=>λu' hu=>by
  rw[Yj,Wt] at f;rcases Wn.mp hu with rfl|hu
  ·rw[yI r f.1];exact LS r rx f.1 fx
  ·exact pZ rx fx t f.2 u' hu
theorem kR:cU X (.type "list") (λxs H Q=>∃p ys,xs=[.ref p]/\(eF X.K H p ys\/eZ X.K H p ys)/\∀l,H l=none->Q (.ref l) (bL H l (.lst ys))):=by
 intro pins s σ H xs us Q I r h;obtain⟨p,ys,rfl,hq,q⟩:=h;obtain⟨u,rfl,rx⟩:=gT r;cases rx;have fin:∀(ao:List Wd),aP ys ao->ys.length<=Wa->∀(h':Y5) (c':Nat),(∀b o',s.heap.get? b=some o'->h'.get? b=some o')->
   h'.get? s.heap.objs.size=some {cls:=.type "list",dict:=none,data:=.seq ao.toArray c',slots:=(List.toArray [])}->EP X pins σ Q (.ref s.heap.objs.size) {s with heap:=h'}:=λao r' hz h' c' kp e=>
  ⟨.ref s.heap.objs.size,_,I.laid (t':=s.toks) kp (Wf _) (show bh X.prog X.w _ h' _ (.lst ys) from ⟨hz,ao,c',r',e⟩),rfl,q _ (I.hok.fresh (Wf _))⟩
 rcases hq with hq|hq
 ·obtain⟨ao,r',pl,hz⟩:=I.list hq;have cv:=r'.length;obtain⟨o,ho,hc,n,hd⟩:=pl.isList;exact call_list_seq p (.inl rfl) ho hc hd (λh' c' kp e=>fin ao r' hz h' c' kp e) (by simp only[Wb]<;>lia)
 ·obtain⟨ao,r',pl,hz⟩:=I.tuple hq;have cv:=r'.length;obtain⟨o,ho,hc,n,hd⟩:=pl;exact call_list_seq p (.inr rfl) ho hc hd (λh' c' kp e=>fin ao r' hz h' c' kp e) (by simp only[Wb]<;>lia)
theorem cm:cU X (.type "tuple") (λxs H Q=>∃p ys,xs=[.ref p]/\((eF X.K H p ys/\∀l,H l=none->Q (.ref l) (bL H l (.tup ys)))\/(eZ X.K H p ys/\Q (.ref p) H))):=by
 intro pins s σ H xs us Q I r h;obtain⟨p,ys,rfl,h⟩:=h;obtain⟨u,rfl,rx⟩:=gT r;cases rx;rcases h with⟨hq,q⟩|⟨hq,q⟩
 ·obtain⟨ao,r',pl,hz⟩:=I.list hq;have cv:=r'.length;refine call_tuple_list pl.isList (λh' kp=>?_) (by simp only[Wb]<;>lia);have I1:av X pins σ H {s with heap:=h'}:=I.kept (t':=s.toks) kp;have I2:av X pins σ (bL H h'.objs.size (.tup ys)) {s with heap:=h'.push {cls:=.type "tuple",data:=.seq ao.toArray}}:=
   I1.laid (t':=s.toks) (λb o e=>V7 _ e) (Wf _) (show bh X.prog X.w _ _ _ (.tup ys) from ⟨hz,ao,r',IsTup.new _ _,_,Wj _ rfl⟩)
  exact⟨.ref h'.objs.size,_,I2,rfl,q _ (I1.hok.fresh (Wf _))⟩
 ·obtain⟨ao,r',pl,hz⟩:=I.tuple hq;exact call_tuple_same pl ⟨.ref p,H,I,rfl,q⟩
def QV (K:Wc)(T:String)(x:V)(H:Hp):Prop:=match x with
 | .str _=>T="str"
 | .int _=>T="int"
 | .ref p=>(T="list"/\∃xs,eF K H p xs)\/(T="tuple"/\((∃o,K.lookup p=some o/\o.cls=.type "tuple"/\o.dict=none)\/∃xs,H p=some (.tup xs))) \/
   (T="dict"/\((∃aN,H p=some (.dK aN))\/∃aN,H p=some (.dT aN)))\/(T="set"/\∃S n,H p=some (.set S n))
 |_=>False
theorem DK {x:V}{v:Wd}(I:av X pins σ H s)(r:aM x v)(ty:QV X.K T x H) :
  s.TypeIs v T/\∀a,v=.ref a->∃ob,s.heap.get? a=some ob/\ob.dict=none:=by
 cases x with
 |str z=>
  obtain⟨t,rfl⟩:=r;cases (show T="str" from ty);exact⟨typeIs_str s z t,λ_ e=>nomatch e⟩
 |int i=>
  obtain⟨t,rfl⟩:=r;cases (show T="int" from ty);exact⟨typeIs_int s i t,λ_ e=>nomatch e⟩
 |ref p=>
  cases r;rcases ty with⟨rfl,xs,hq⟩|⟨rfl,⟨o,hk,hc,hd⟩|⟨xs,hq⟩⟩|⟨rfl,hk⟩|⟨rfl,S,n,hk⟩
  ·obtain⟨ao,_,pl,_⟩:=I.list hq;refine⟨pl.isList.typeIs,λa e=>?_⟩;cases e;obtain⟨o,n,e,c,hd,_⟩:=pl;exact⟨o,e,hd⟩
  ·refine⟨⟨o,I.kIn p o hk,hc⟩,λa e=>?_⟩;cases e;exact⟨o,I.kIn _ o hk,hd⟩
  ·obtain⟨_,ao,_,⟨o,e,c,_⟩,n2,e2⟩:=I.hok p _ hq;refine⟨⟨o,e,c⟩,λa e'=>?_⟩;cases e';exact⟨_,e2,rfl⟩
  ·have z:∃o,s.heap.get? p=some o/\o.ExactDict:=by
    rcases hk with⟨aN,hk⟩|⟨aN,hk⟩
    ·obtain⟨_,_,_,_,o,_,_,e,ex,_⟩:=I.hok p _ hk;exact⟨o,e,ex⟩
    ·obtain⟨_,_,_,_,o,_,_,e,ex,_⟩:=I.hok p _ hk;exact⟨o,e,ex⟩
   obtain⟨o,e,ex⟩:=z;refine⟨⟨o,e,ex.1⟩,λa e2=>?_⟩;cases e2;exact⟨o,e,ex.2.1⟩
  ·obtain⟨o,_,_,_,e,ex,_⟩:=I.hok p _ hk;refine⟨⟨o,e,ex.1⟩,λa e2=>?_⟩;cases e2;exact⟨o,e,ex.2.1⟩
 |_=>exact XA ty
def O4 (K:Wc)(T:String)(r:V->List V->Hp->VK->Prop)(to:TE):TE:=λσ H Q=>to σ H λx H1=>QV K T x H1/\r x [] H1 Q
def TC (K:Wc)(T:String)(r:V->List V->Hp->VK->Prop)(to:TE)(t:TA):TE:=λσ H Q=>to σ H λx H1=>QV K T x H1/\t σ H1 λxs H2=>r x xs H2 Q
variable {o e:X4}{es:List X4}{to:TE}{t:TA}{cR cpos:Pos}{id:String}{r:V->List V->Hp->VK->Prop}
theorem LV (pa:PlainAttrs T)(slot:Slot T name id)(NO:typeOf (.builtin id)=pure (.type "method_descriptor"))(hm:C_ X id r)(ho:PE X o to)
  (r9:Zy o name X.env (YX o X.env)=YX o X.env:=by rfl) (r_:(cR.endLine==cpos.line)=true:=by rfl):PE X (.Call (.Attribute o name cR) [] [] cpos) (O4 X.K T r to):=by
 intro pins s σ H Q I h;refine wpAny_Call_method0_late r9 r_ (cS (ho pins s σ H _ I h) λv s1 ⟨x,H1,I1,r1,ty,q1⟩=>?_);obtain⟨h1,h2⟩:=DK I1 r1 ty;exact⟨T,id,pa,slot,NO,h1,h2,Zb rfl (PySem.evalArgs_none (hm pins s1 σ H1 x [] v [] Q I1 r1 .nil q1))⟩
theorem DL (pa:PlainAttrs T)(slot:Slot T name id)(NO:typeOf (.builtin id)=pure (.type "method_descriptor"))(hm:C_ X id r)(ho:PE X o to)(ha:PA X (e::es) t)
  (r9:Zy o name X.env (YX o X.env)=YX o X.env:=by rfl)
  (NP:((Yp cpos (Wm (e::es) X.env)).all (λx=> !x.1)&&(backToKw cpos (keywordEach [] X.env)).all (λx=>x.1.isSome)
   && decide ((e::es).length+([]:List abE).length+(if ([]:List abE).isEmpty then 0 else 1)<30))=true:=by rfl)
  (r_:(cR.endLine==cpos.line)=true:=by rfl) (hs:Wm (e::es) X.env=(false,YX e X.env)::Wm es X.env:=by rfl) (zV:(Yp cpos (Wm es X.env)).any (·.1)=false:=by rfl) :
  PE X (.Call (.Attribute o name cR) (e::es) [] cpos) (TC X.K T r to t):=by
 intro pins s σ H Q I h;refine wpAny_Call_method_late r9 NP r_ rfl (cS (ho pins s σ H _ I h) λv s1 ⟨x,H1,I1,r1,ty,q1⟩=>?_);obtain⟨h1,h2⟩:=DK I1 r1 ty;refine⟨T,id,pa,slot,NO,h1,h2,?_⟩;have hA:=ha cpos pins s1 σ H1 _ I1 q1;rw[hs] at hA ⊢;refine Zb (by show (false||(Yp cpos (Wm es X.env)).any (·.1))=false;rw[zV]<;>rfl) (aaO ?_);exact cS hA λus s2 ⟨vs,H2,I2,r2,q2⟩=>hm pins s2 σ H2 x vs v us Q I2 r1 r2 q2
end
end L2
namespace L2
def Of (X:Cx)(id:String)(r:V->List V->Hp->VK->Prop):Prop:=
 ∀(pins:List (Ww×Obj)) (s:Wr) (σ:St) (H:Hp) (x:V) (xs:List V) (v:Wd) (us:List Wd) (Q:VK),av X pins σ H s->aM x v->aP xs us->r x xs H Q->
  Wv (WI X.prog X.w) X.A (call (.builtin id) (v::us)) (EP X pins σ Q) X.xe s
theorem aP.one:∀{x:V} {us:List Wd},aP [x] us->∃u,us=[u]/\aM x u
 |_,_,.cons r .nil=>⟨_,rfl,r⟩
theorem aP.zero:∀{us:List Wd},aP [] us->us=[]
 |_,.nil=>rfl
theorem aP.dropLast {us:List Wd}(h:aP xs us):aP xs.dropLast us.dropLast:=by
 induction h with
 |nil=>exact .nil
 |cons r t ih=>
  cases t with
  |nil=>exact .nil
  |cons q t'=>exact .cons r ih
theorem aP.eraseIdx:∀{xs:List V} {us:List Wd} (i:Nat),aP xs us->aP (xs.eraseIdx i) (us.eraseIdx i)
 |_,_,_,.nil=>.nil
 |_,_,0,.cons _ t=>t
 |_,_,i+1,.cons r t=>.cons r (aP.eraseIdx i t)
theorem yJ {α:Type}(l:List α):l.eraseIdx (l.length-1)=l.dropLast:=by
 induction l with
 |nil=>rfl
 |cons a r ih=>
  cases r with
  |nil=>rfl
  |cons b r=>
   have e:(a::b::r).length-1=((b::r).length-1)+1:=by
    have h1:(a::b::r).length=r.length+2:=rfl;have h2:(b::r).length=r.length+1:=rfl;lia
   rw[e,List.eraseIdx_cons_succ,ih]
   all_goals rfl
theorem tJ {α:Type}:∀(l:List α) (i:Nat),(l.eraseIdx i).length<=l.length
 | [],_=>Wf _
 |_::_,0=>Nat.le_succ _
 |_::r,i+1=>Nat.succ_le_succ (tJ r i)
section
variable {l:Ww}{ys zs:List V}
theorem av.lset {t':Nat}{its':List Wd}{f:Array Wd->Array Wd}(I:av X pins σ H s)(hH:H l=some (.lst xs))(e:s.heap.get? l=some {cls:=.type "list",data:=.seq ao.toArray n})(hf:f ao.toArray=its'.toArray)(hv:aP ys its')(hz:ys.length<=Wa) :
  av X pins σ (bL H l (.lst ys)) {s with heap:=s.heap.update l (Zx f),toks:=t'}:=by
 have q:=PySem.IsL.update e f;rw[hf] at q;refine I.write (x:=l) (e:=l) (by rw[hH];exact trivial) (.inl rfl) (λb' u hb hu=>(Heap.get?_update_other s.heap (Zx f) (Ne.symm hb)).trans hu) ⟨_,q⟩ ?_;exact⟨hz,its',_,hv,q⟩
theorem av.lnew {t':Nat}(I:av X pins σ H s)(hv:aP ys ao)(hz:ys.length<=Wa) :
  av X pins σ (bL H s.heap.objs.size (.lst ys)) {s with heap:=s.heap.push {cls:=.type "list",data:=.seq ao.toArray},toks:=t'}:=
 I.laid (λ_ _ q=>V7 _ q) (Wf _) ⟨hz,ao,0,hv,Wj _ rfl⟩
theorem av.fresh (I:av X pins σ H s):H s.heap.objs.size=none:=I.hok.fresh (Wf _)
theorem av.lstM (I:av X pins σ H s)(hH:H l=some (.lst xs)):xs.length<=Wa/\∃(ao:List Wd) (n:Nat),aP xs ao/\xs.length=ao.length/\s.heap.get? l=some {cls:=.type "list",data:=.seq ao.toArray n}:=by
 obtain⟨z,ao,n,r,e⟩:=I.hok l _ hH;exact⟨z,ao,n,r,r.length,e⟩
theorem p0 (h:n<=Wa):Yr n=false:=by
 unfold Yr;exact hJ (by lia)
end
def Ah:V->List V->Hp->VK->Prop:=λx vs H Q=>∃l xs y,x=.ref l/\vs=[y]/\H l=some (.lst xs)/\xs.length<Wa/\Q .non (bL H l (.lst (xs++[y])))
theorem mO:Of X "list.append" Ah:=by
 intro pins s σ H x vs v us Q I rx rv h;obtain⟨l,xs,y,rfl,rfl,hH,hz,q⟩:=h;cases rx;obtain⟨u,rfl,ru⟩:=rv.one;obtain⟨z,ao,n,r,hl,e⟩:=I.lstM hH;refine Y_ F.slot_list_append ⟨_,e,rfl⟩ F.entry_list_append (F.args_list_append_2 _ _) (PySem.list_append l ao.toArray n u (by rw[Wb];lia)) ⟨e,?_⟩;refine⟨.non,_,I.lset (its':=ao++[u]) hH e (by simp) (r.append (.cons ru .nil)) ?_,rfl,q⟩;rw[V9,Xu];lia
def Ht:V->List V->Hp->VK->Prop:=λx vs H Q=>∃l b xs zs,x=.ref l/\vs=[.ref b]/\H l=some (.lst xs)/\H b=some (.lst zs)/\xs.length+zs.length<=Wa/\Q .non (bL H l (.lst (xs++zs)))
theorem Og:Of X "list.extend" Ht:=by
 intro pins s σ H x vs v us Q I rx rv h;obtain⟨l,b,xs,zs,rfl,rfl,hH,hB,hz,q⟩:=h;cases rx;obtain⟨u,rfl,ru⟩:=rv.one;cases ru;obtain⟨z,ao,n,r,hl,e⟩:=I.lstM hH;obtain⟨z2,its2,n2,r2,GO,e2⟩:=I.lstM hB;have hsz:ao.toArray.size+its2.toArray.size<=Wa:=by rw[Wb,Wb];lia
 have yn:¬(!ao.toArray.isEmpty&&Yr (ao.toArray.size+its2.toArray.size))=true:=by
  rw[p0 hsz,aay];exact V5
 refine Y_ abr ⟨_,e,rfl⟩ aa3 (aaP _ _)
  (AutoSeq1.list_extend_list_list_0 l ao.toArray n b its2.toArray n2 yn (by rw[Wb];lia) (by lia)) ⟨e,e2,?_⟩
 refine⟨.non,_,I.lset (its':=ao++its2) hH e (by simp) (r.append r2) ?_,rfl,q⟩;rw[V9];lia
def RU:V->List V->Hp->VK->Prop:=λx vs H Q=>∃l xs y,x=.ref l/\vs=[]/\H l=some (.lst xs)/\xs[xs.length-1]? = some y/\Q y (bL H l (.lst xs.dropLast))
theorem RV:Of X "list.pop" RU:=by
 intro pins s σ H x vs v us Q I rx rv h;obtain⟨l,xs,y,rfl,rfl,hH,hy,q⟩:=h;cases rx;have Ou:=rv.zero;subst Ou;obtain⟨z,ao,n,r,hl,e⟩:=I.lstM hH;obtain⟨u,hu,ru⟩:=r.get hy;have UI:ao.toArray[ao.toArray.size-1]? = some u:=by
  show ao.toArray[ao.length-1]? = some u;rw[←WX,←hl];exact hu
 refine Y_ F.slot_list_pop ⟨_,e,rfl⟩ F.entry_list_pop (F.args_list_pop_1 _) (MeetsSeq.list_pop_last l ao.toArray n u UI (by rw[Wb];lia)) ⟨e,?_⟩;refine⟨y,_,I.lset (its':=ao.dropLast) hH e ?_ r.dropLast ?_,ru,q⟩
 ·show ao.toArray.eraseIdxIfInBounds (ao.toArray.size-1)=ao.dropLast.toArray;rw[Wb,aap,yJ]
 ·rw[List.length_dropLast];lia
def DM:V->List V->Hp->VK->Prop:=λx vs H Q=>∃l xs i k y,x=.ref l/\vs=[.int i]/\H l=some (.lst xs)/\ -(2 ^ 63)<=i/\i<2 ^ 63/\abN i xs.length=some k/\xs[k]? = some y/\Q y (bL H l (.lst (xs.eraseIdx k)))
theorem DP:Of X "list.pop" DM:=by
 intro pins s σ H x vs v us Q I rx rv h;obtain⟨l,xs,i,k,y,rfl,rfl,hH,h1,h2,hk,hy,q⟩:=h;cases rx;obtain⟨u,rfl,ru⟩:=rv.one;obtain⟨t,rfl⟩:=ru;obtain⟨z,ao,n,r,hl,e⟩:=I.lstM hH;obtain⟨w,hw,yp⟩:=r.get hy;refine Y_ F.slot_list_pop ⟨_,e,rfl⟩ F.entry_list_pop (F.args_list_pop_2 _ _)
  (MeetsSeq.list_pop_at l ao.toArray n i t k w (fitsIndex_both h1 h2) (by rw[Wb,←hl];exact hk) (by rw[←WX];exact hw) (by rw[Wb];lia)) ⟨e,?_⟩
 refine⟨y,_,I.lset (its':=ao.eraseIdx k) hH e ?_ (r.eraseIdx k) ?_,yp,q⟩
 ·show ao.toArray.eraseIdxIfInBounds k=(ao.eraseIdx k).toArray;rw[aap]
 ·have:=tJ xs k;lia
def DQ:V->List V->Hp->VK->Prop:=λx vs H Q=>∃l xs,x=.ref l/\vs=[]/\H l=some (.lst xs)/\Q .non (bL H l (.lst []))
theorem DR:Of X "list.clear" DQ:=by
 intro pins s σ H x vs v us Q I rx rv h;obtain⟨l,xs,rfl,rfl,hH,q⟩:=h;cases rx;have Ou:=rv.zero;subst Ou;obtain⟨z,ao,n,r,hl,e⟩:=I.lstM hH;refine Y_ F.slot_list_clear ⟨_,e,rfl⟩ F.entry_list_clear (F.args_list_clear_1 _) (AutoSeq1.list_clear_list_0 l ao.toArray n (by rw[Wb];lia)) ⟨e,?_⟩;exact⟨.non,_,I.lset (its':=[]) (ys:=[]) hH e rfl .nil (Yi _),rfl,q⟩
def RW:R2:=λx y H Q=>∃l b xs zs,x=.ref l/\y=.ref b/\H l=some (.lst xs)/\H b=some (.lst zs)/\xs.length+zs.length<=Wa/\∀p,H p=none->Q (.ref p) (bL H p (.lst (xs++zs)))
theorem LW:i9 X (Zf .Add) RW:=by
 intro pins s σ H x y v u Q I rx ry h;obtain⟨l,b,xs,zs,rfl,rfl,hH,hB,hz,q⟩:=h;cases rx;cases ry;obtain⟨z,ao,n,r,hl,e⟩:=I.lstM hH;obtain⟨z2,its2,n2,r2,GO,e2⟩:=I.lstM hB;refine PySem.P.add_list e e2 ?_ (by rw[Wb,Wb];lia);have ea:ao.toArray++its2.toArray=(ao++its2).toArray:=by simp
 rw[ea];exact⟨.ref _,_,I.lnew (t':=s.toks) (r.append r2) (by rw[V9];lia),rfl,q _ I.fresh⟩
section
variable {w:Xt}{A:W2}
set_option maxRecDepth 100000 in
end
end L2
namespace Att
open PySem.W PySem.Calls
theorem oQ {P:Params}:∀(ns:List Int) (vs:List Wd),WellAll P h vs (ns.map WData.int)->aa2 vs ns:=by
 intro ns
 induction ns with
 |nil=>
  intro vs w;rw[Ym] at w;cases w;exact .nil
 |cons n ns ih=>
  intro vs w;rw[V_] at w;cases w with
  |cons a b=>
   cases a;exact .cons _ _ (ih _ b)
theorem BW {l:OpenLaw}(hn:l.most=some n){P:Params}{args:List WData}{NQ:List Wd}(JB:l.row.toRowW.claim.pre args=true)(S4:WellAll P h NQ args) :
  ∃a vs ns,NQ=[Value.ref a]/\args=[WData.list (ns.map WData.int)]/\h.get? a=some {cls:=.type "list",data:=.seq vs.toArray}/\aa2 vs ns/\ns.length<=n:=by
 have UJ:WShape.hasAll [] args [.list .int]=true:=(pre_splitW JB).1;have hc:l.pre.holds [] {args:=args}=true:=(pre_splitW JB).2;obtain⟨d,r,rfl,h1,h2⟩:=hasAllW_cons UJ;obtain rfl:=hasAllW_nil h2;obtain⟨xs,rfl,h3⟩:=hasW_list h1;obtain⟨ns,rfl⟩:=items_int h3;have cv:ns.length<=n:=by
  unfold OpenLaw.pre at hc;have h4:(WTm.not (.lt (.lit (.int (n:Int))) (.len (.arg 0)))).holds [] {args:=[.list (ns.map .int)]}=true:=by
   have h4:=(holds_andW hc).1;rw[hn] at h4;exact h4
  have h5:=condW_of h4 (w_not (w_lt w_lit (w_len_list (w_arg rfl))));rw[V6] at h5;refine Nat.le_of_not_lt λq=>?_;have q':(n:Int)<((ns.length:Nat):Int):=(by lia)
  first
   | (rw[hG q'] at h5;exact absurd h5 (by decide))
   | (simp at h5;lia)
 cases S4 with
 |cons w1 w2=>
  cases w2;cases w1 with
  |list ho hall=>exact⟨_,_,ns,rfl,rfl,ho,oQ ns _ hall,cv⟩
theorem BX (l:OpenLaw)(args:List WData):l.row.toRowW.claim.post args (.bool true) args=true:=
 postW_of (r:=l.row.toRowW) (X:=(true==true))
  (show WShape.has [] (.bool true) .bool=true by first|rfl|decide|simp[WShape.has,WShape.arms,WShape.armsAll])
  (show (WTm.eq .res (.lit (.bool true))).value [] {args:=args,res:=some (.bool true),after:=args}=some (.bool (true==true)) from w_eq_bool (w_res rfl) w_lit) rfl
theorem attach_call {l:OpenLaw}{q:YG}{d:DefRec}(hn:l.most=some n)(Qx:d.params.defaults=[])(call:∀(w:Xt) (s₀ s₁:Wr) (mg mb:Str->Option Wd) (fa:Ww) (o:Obj) (pm cd jF:Wd) (a:Ww) (vs:List Wd) (ns:List Int),
   Ground q loose [] XP w s₀ mg mb s₁.heap->YP w s₁.heap->
   s₁.heap.get? fa=some o->o.data=.func (docDef d.name d.params d.body d.scope pm cd jF)->s₁.heap.CodeRec cd d.name->mg d.name=some (.ref fa)->
   s₁.heap.get? a=some {cls:=.type "list",data:=.seq vs.toArray}->aa2 vs ns->ns.length<=n->s₁.gens=(List.toArray [])->
   abD (WI l.prog w) callerA (.call (.ref fa) ⟨[.ref a],[]⟩) (λr s'=>r=.ok (.ret (.bool true))/\OldK s₁.heap s'.heap/\s'.os=s₁.os/\abB s'.gens) s₁) :
  WalkO q loose XP YP l.row.toRowW d [] (λf vs=>PySem.call f vs):=by
 intro w s₀ s₁ mg mb G Y fa o pm cd jF dV kV ho hd iF hD Qy hg args NQ as JB UK VT S4 VU;obtain rfl:dV=.none:=Dflts.none hD Qx;obtain rfl:kV=.none:=Dflts.noKw hD;obtain⟨a,vs,ns,rfl,rfl,NR,GL,cv⟩:=BW hn JB S4;refine enter_call (ZX (call w s₀ s₁ mg mb fa o pm cd jF a vs ns G Y ho (fd_plain hd) iF Qy NR GL cv hg) λr s' hq=>?_);obtain⟨rfl,h2,h3,h4⟩:=hq;exact⟨.inl ⟨.bool true,.bool true,[],rfl,λ_=>rfl,.bool true,BX l _,λ_=>⟨List.Pairwise.nil,λ_ hm=>(nomatch hm)⟩⟩,h2,h3,h4⟩
end Att
namespace L2
theorem mP:∀{vs:List Wd} {ns:List Int},aa2 vs ns->aP (ns.map V.int) vs
 |_,_,.nil=>.nil
 |_,_,.cons n t h=>.cons ⟨t,rfl⟩ (mP h)
def Hu (H:Hp):Prop:=∀b,H b=none\/∃o xs,H b=some (.frz o (.lst xs))
theorem DV {w:Xt}{mb:Str->Option Wd}{fa:Ww}{s₁:Wr}{vs:List Wd}(KX:K.In s₁.heap)(T9:s₁.heap.Ns WL mg)(hb:s₁.heap.Ns builtinsNs mb)(UL:∀x:Str,x≠"__name__"->mb x=W6 x)(S5:s₁.heap.NoLimit)(hg:s₁.gens=(List.toArray []))(ha:s₁.heap.get? a=some {cls:=.type "list",data:=.seq vs.toArray})(hi:aa2 vs ns)(hl:ns.length<=Wa)(hr:dw k callerA)(F:∀base:Y5,K.In base->base.Ns WL mg->iI P w K mg base CX k fa fd [x] sp)(Qz:∀(s:Wr) (u:Wd),BindsTo s fd ⟨[u],[]⟩ [(x,u)])(GJ:∀H:Hp,Hu H->eF K H a (ns.map V.int)->sp [.ref a] H (λv _=>v=.bl true) λ_ _ _=>False)(S6:∀H e s',CX [] H s₁ (λ_ _ _=>False) e s'->False) :
  abD (WI P w) callerA (.call (.ref fa) ⟨[.ref a],[]⟩) (λr s'=>r=.ok (.ret (.bool true))/\OldK s₁.heap s'.heap/\s'.os=s₁.os/\abB s'.gens) s₁:=by
 have rv:=mP hi;have S7:=hi.length;have QA:∀H:Hp,Hu H->eF K H a (ns.map V.int)->ig P w H s₁.heap->(∀b,H b≠none->b=a)->(H a≠none->K.lookup a=none)->
   abD (WI P w) callerA (.call (.ref fa) ⟨[.ref a],[]⟩) (λr s'=>r=.ok (.ret (.bool true))/\OldK s₁.heap s'.heap/\s'.os=s₁.os/\abB s'.gens) s₁:=by
  intro H hO hS hok hA hK;have BF:∀{b:Ww} {o:Obj},s₁.heap.get? b=some o->H b=none->(uJ s₁.heap H).get? b=some o:=λe n=>Dk e n;have JA:∀{b:Ww} {o:Obj} {es:Array abJ} {ep:Nat},s₁.heap.get? b=some o->o.data=.dict es ep->H b=none:=λ{b o es ep} e d=>by
   cases q:H b with
   |none=>rfl
   |some u=>
    have e':b=a:=hA b (by rw[q];simp);subst e';rw[ha] at e;cases e;have d':Data.seq vs.toArray _=Data.dict es ep:=d;cases d'
  have Ro:∀{b:Ww} {m:Str->Option Wd},s₁.heap.Ns b m->(uJ s₁.heap H).Ns b m:=λ{b m} ⟨o,es,ep,e,d,r⟩=>⟨o,es,ep,BF e (JA e d),d,r⟩;have T_:K.In (uJ s₁.heap H):=λb o e=>BF (KX b o e) (by
   cases q:H b with
   |none=>rfl
   |some u=>
    have e':b=a:=hA b (by rw[q];simp);subst e';rw[hK (by rw[q];simp)] at e;cases e)
  have hM:Mod K mg (uJ s₁.heap H):=⟨T_,Ro T9,⟨mb,Ro hb,UL⟩,let ⟨mc,h1,h2⟩:=S5;⟨mc,Ro h1,h2⟩⟩;have e0:BU P w K mg (uJ s₁.heap H) callerA [] s₁ H:=⟨rfl,hM,λb o e=>G_ e,Nat.le_of_eq (BM _ _),trivial,λb hb=>absurd (show b∈([]:List Ww) from hb) (by simp),hok,.of_eq hg⟩;refine ZX ((F _ T_ (Ro T9)).run callerA [] s₁ H ⟨[.ref a],[]⟩ [.ref a] [.ref a] _ _ hr e0 (Qz s₁ (.ref a)) (.cons rfl .nil) (GJ H hO hS)) λr s' h=>?_;cases r with
  |error e=>exact (S6 H e s' h).elim
  |ok fl=>
   cases fl with
   |next=>exact XA h
   |brk=>exact XA h
   |cont=>exact XA h
   |ret u=>
    obtain⟨v,H',os,bare,un,hok',r',q⟩:=h;have q':v=.bl true:=q;subst q';obtain rfl:u=Value.bool true:=r';refine⟨rfl,OldK.of_keep λb o e=>?_,os,bare⟩;cases q:H b with
    |none=>exact un.keep b o e q (by intro z;exact absurd (show b∈([]:List Ww) from z) (by simp)) (by simp)
    |some u=>
     rcases hO b with z|⟨ob,xs,z⟩
     ·rw[q] at z;cases z
     ·have z2:=un.frzs b ob _ z;obtain⟨e1,_⟩:=hok b _ z;obtain⟨e2,_⟩:=hok' b _ z2;rw[e] at e1;cases e1;exact e2
 cases hk:K.lookup a with
 |some o=>
  have e:=KX a o hk;rw[ha] at e;cases e;refine QA (λ_=>none) (λ_=>.inl rfl) (.inr ⟨_,vs.toArray,_,hk,rfl,rfl,rfl,by rw[Wb,S7];exact hl,by simpa using rv⟩) (λb u z=>by have z':(none:Option HO)=some u:=z;cases z') (λb z=>absurd rfl z) λz=>absurd rfl z
 |none=>
  refine QA (λb=>if b=a then some (.frz {cls:=.type "list",data:=.seq vs.toArray} (.lst (ns.map V.int))) else none) (λb=>?_) (.inl (.inr ⟨{cls:=.type "list",data:=.seq vs.toArray},hZ rfl⟩)) (λb u z=>?_) (λb z=>?_) λ_=>hk
  ·by_cases hb:b=a
   ·exact .inr ⟨_,_,hZ hb⟩
   ·exact .inl (hV hb)
  ·by_cases hb:b=a
   ·have z':=(hZ hb).symm.trans z;cases z';subst hb;exact⟨ha,by rw[V6];exact hl,vs,_,rv,ha⟩
   ·have z':=(hV hb).symm.trans z;cases z'
  ·by_cases hb:b=a
   ·exact hb
   ·exact absurd (hV hb) z
end L2
namespace L2
theorem walk_of {l:PySem.W.OpenLaw}{q:YG}{d:DefRec}{K:Params->Wc}{CX:Xt->CXT}{sp:Xt->Sp}(hn:l.most=some n)(Ov:n<=Wa)(Qx:d.params.defaults=[])(hr:dw k callerA)(hY:∀(w:Xt) (h:Y5),YP w h->(K w.params).In h)(F:∀(w:Xt) (mg:Str->Option Wd) (fa:Ww) (h:Y5),(K w.params).In h->h.Ns WL mg->mg d.name=some (.ref fa)->
   ∃fd:Zu,(∀(s:Wr) (u:Wd),BindsTo s fd ⟨[u],[]⟩ [(x,u)])/\
    ∀base:Y5,(K w.params).In base->base.Ns WL mg->iI l.prog w (K w.params) mg base (CX w) k fa fd [x] (sp w))(GJ:∀(w:Xt) (H:Hp) (a:Ww) (ns:List Int),ns.length<=n->Hu H->eF (K w.params) H a (ns.map V.int)->sp w [.ref a] H (λv _=>v=.bl true) λ_ _ _=>False)(S6:∀(w:Xt) (H:Hp) (s:Wr) (e:Wd) (s':Wr),CX w [] H s (λ_ _ _=>False) e s'->False) :
  PySem.W.WalkO q loose XP YP l.row.toRowW d [] (λf vs=>PySem.call f vs):=by
 refine Att.attach_call hn Qx λw s₀ s₁ mg mb fa o pm cd jF a vs ns G Y ho hd iF Qy NR GL cv hg=>?_;have KX:=hY w _ Y;obtain⟨fd,hb,hF⟩:=F w mg fa _ KX G.T.g Qy;exact DV KX G.T.g G.T.b G.T.builtins G.T.nolimit hg NR GL (WD cv Ov) hr hF hb (λH hO hS=>GJ w H a ns cv hO hS) λH e s'=>S6 w H s₁ e s'
end L2
namespace L2
abbrev uQ:CXT:=λ_ _ _ _ _ _=>False
abbrev E0:XK:=λ_ _ _=>False
theorem O5:yD uQ X E0:=λ_ _ _ _ _ _ _ h=>h.elim
structure G0 (K:Wc)(x qual:Str)(st:aaX)(f:Ww)(fd:Zu):Prop where
 ex:∃(oc:Wd) (od:Option Ww) (kV jF pm:Wd) (an:Option Ww) (bC ct:Wd) (osl:Array (Option Wd)),
  fd=XH x qual (dE st) (bH st) (aj st) .none kV jF pm an bC ct/\K.lookup f=some ⟨oc,od,.func fd,osl⟩/\aax K bC qual=true
 kp:XR K (.ref f)=true
section
variable {w:Xt}
theorem G0.ok (F:G0 K x qual st f fd)(S:aR N ps (aj st))(len:∀vs H Q E,sp vs H Q E->vs.length=ps.length)(eB:∀(bC:Wd) (A:W2) (outer:List Env) (s:Wr) (H:Hp) (vs:List V) (Q:VK) (E:XK),dw k (A.deeper (Yq qual (aj st) s.heap.objs.size f bC))->sp vs H Q E->
   ∃t,pR (gP uQ P w K mg base N qual (aj st) f bC A outer s H E).nox (bH st) t/\t {nx:=λ_ H'=>Q .non H',rt:=Q} (aa0 N vs) H):iI P w K mg base uQ (k+1) f fd ps sp:=by
 obtain⟨oc,od,kV,jF,pm,an,bC,ct,osl,rfl,lk,iF⟩:=F.ex;refine JL lk iF S len λA outer s H vs Q E hr GJ=>?_;obtain⟨t,h,q⟩:=eB bC A outer s H vs Q E hr GJ;exact⟨t,h.nox,q⟩
theorem G0.binds (F:G0 K x qual st f fd)(h:∀(kV jF pm:Wd) (an:Option Ww) (bC ct:Wd) (us:List Wd),us.length=ps.length->bindArgs (XH x qual (dE st) (bH st) (aj st) .none kV jF pm an bC ct) ⟨us,[]⟩=pure (ps.zip us)):jm K fd ps []:=by
 obtain⟨oc,od,kV,jF,pm,an,bC,ct,osl,rfl,lk,iF⟩:=F.ex;exact .all (h kV jF pm an bC ct)
theorem DX {oc:Wd}{kV jF pm bC ct:Wd}(l:K.lookup f=some ⟨oc,od,.func (XH x qual (dE st) (bH st) (aj st) .none kV jF pm an bC ct),osl⟩)(c:aax K bC qual=true)(k:XR K (.ref f)=true):G0 K x qual st f (XH x qual (dE st) (bH st) (aj st) .none kV jF pm an bC ct):=⟨⟨oc,od,kV,jF,pm,an,bC,ct,osl,rfl,l,c⟩,k⟩
end
theorem dQ {A:W2}(hr:dw k A):A.units+1<XG:=Nat.lt_of_le_of_lt (Nat.add_le_add_left (by decide:1<=64) _) hr.units
theorem pv (i:Nat)(hN:X.N[i]? = some x:=by rfl)(hv:yx X.env.scope x:=by first|exact Or.inl rfl|exact Or.inr (Or.inl rfl)|exact Or.inr (Or.inr rfl))(hd:(x==("__debug__":Str))=false:=by decide)(iF:(x==("__classdict__":Str))=false:=by decide):PE X (.Name x pos) (Dl i):=eJ hN hv hd iF
theorem iteF {A B:Prop}(h:B):if false=true then A else B:=by
 rw[hV V5];exact h
def aG (H H':Hp):Prop:=∀b o,H b=some o->H' b=some o
theorem aG.refl (H:Hp):aG H H:=λ_ _ h=>h
theorem aG.trans (a:aG H H1)(b:aG H1 H2):aG H H2:=λc o h=>b c o (a c o h)
theorem aG.seq (e:aG H H')(h:eF K H a xs):eF K H' a xs:=by
 rcases h with (h|⟨o,h⟩)|h
 ·exact .inl (.inl (e _ _ h))
 ·exact .inl (.inr ⟨o,e _ _ h⟩)
 ·exact .inr h
end L2
namespace L2
section
variable {κ:Type}[DecidableEq κ]
noncomputable def oR (aN:List (κ×V))(k:κ):Option V:=(aN.find? λkv=>decide (kv.1=k)).map (·.2)
noncomputable def kS (aN:List (κ×V))(k:κ)(v:V):List (κ×V):=
 if (aN.any λkv=>decide (kv.1=k))=true then aN.map (λkv=>if kv.1=k then (kv.1,v) else kv) else aN++[(k,v)]
theorem kW {p:κ×V}{r:List (κ×V)}{k:κ}(e:p.1=k):oR (p::r) k=some p.2:=by simp[oR,XU,e]
theorem kX {p:κ×V}{r:List (κ×V)}{k:κ}(e:¬p.1=k):oR (p::r) k=oR r k:=by simp[oR,XU,e]
theorem wB (k:κ):∀aN:List (κ×V),(aN.any λkv=>decide (kv.1=k))=(oR aN k).isSome
 | []=>rfl
 |p::r=>by
  rw[List.any_cons];by_cases e:p.1=k
  ·simp only[kW e,hG e,Bool.true_or,Option.isSome_some]
  ·rw[kX e,hJ e,Bool.false_or];exact wB k r
theorem nW (aN:List (κ×V))(k:κ)(v:V):(kS aN k v).length<=aN.length+1:=by
 unfold kS;split
 ·rw[V6];lia
 ·rw[V9,Wl,Z9];lia
theorem kl.isSome_eq {o:Option V}{u:Option Wd}(r:kl o u):o.isSome=u.isSome:=by
 cases o with
 |none=>cases u with
  |none=>rfl
  |some _=>exact (show False from r).elim
 |some _=>cases u with
  |none=>exact (show False from r).elim
  |some _=>rfl
theorem kl.getD {o:Option V}{u:Option Wd}{d:V}{d':Wd}(r:kl o u)(rd:aM d d'):aM (o.getD d) (u.getD d'):=by
 cases o with
 |none=>cases u with
  |none=>exact rd
  |some _=>exact (show False from r).elim
 |some _=>cases u with
  |none=>exact (show False from r).elim
  |some _=>exact r
theorem KV.val {aN:List (κ×V)}{vs:List (κ×Wd)}(r:KV aN vs)(k:κ):kl (oR aN k) (valueAt vs k):=by
 unfold KV at r
 induction r with
 |nil=>exact True.intro
 | @cons p q ps qs h t ih=>
  obtain⟨h1,h2⟩:=h;by_cases e:p.1=k
  ·have e':q.1=k:=h1.symm.trans e;have b:valueAt (q::qs) k=some q.2:=by simp[valueAt,XU,e']
   rw[kW e,b];exact h2
  ·have e':¬q.1=k:=λz=>e (h1.trans z);have b:valueAt (q::qs) k=valueAt qs k:=by simp[valueAt,XU,e']
   rw[kX e,b];exact ih
theorem KV.any {aN:List (κ×V)}{vs:List (κ×Wd)}(r:KV aN vs)(k:κ):(aN.any λkv=>decide (kv.1=k))=vs.any λkv=>decide (kv.1=k):=by
 unfold KV at r
 induction r with
 |nil=>rfl
 |cons h t ih=>rw[List.any_cons,List.any_cons,ih,h.1]
theorem KV.repl {aN:List (κ×V)}{vs:List (κ×Wd)}(r:KV aN vs)(k:κ){u:Wd}(ry:aM y u) :
  KV (aN.map λkv=>if kv.1=k then (kv.1,y) else kv) (vs.map λkv=>if kv.1=k then (kv.1,u) else kv):=by
 unfold KV at r ⊢
 induction r with
 |nil=>exact .nil
 | @cons p q ps qs h t ih=>
  rw[V_,V_];refine .cons ?_ ih;obtain⟨h1,h2⟩:=h;by_cases e:p.1=k
  ·rw[hZ e,hZ (h1.symm.trans e)];exact⟨h1,ry⟩
  ·rw[hV e,hV (λz=>e (h1.trans z))];exact⟨h1,h2⟩
theorem KV.put {aN:List (κ×V)}{vs:List (κ×Wd)}(r:KV aN vs)(k:κ){u:Wd}(ry:aM y u):KV (kS aN k y) (stored vs k u):=by
 unfold kS stored;rw[r.any k];by_cases e:(vs.any λkv=>decide (kv.1=k))=true
 ·rw[hZ e,hZ e];exact r.repl k ry
 ·rw[hV e,hV e];exact Paired.snoc r ⟨rfl,ry⟩
theorem KV.length {aN:List (κ×V)}{vs:List (κ×Wd)}(r:KV aN vs):aN.length=vs.length:=Zv r
end
theorem tK {w:Xt}{k:Key}{u:Wd}(r:aM (kV k) u):(cw P w).is k u=true:=by
 cases k with
 |inl i=>obtain⟨t,e⟩:=(show ∃t,u=Value.int i t from r);subst e;exact wx P w i t
 |inr x=>obtain⟨t,e⟩:=(show ∃t,u=Value.str x t from r);subst e;exact wy P w x t
theorem tL {P:YG}{w:Xt}:∀{ks:List Key} {us:List Wd},aP (ks.map kV) us->ItemsAre (cw P w) ks us
 | [],_,r=>by rw[Ym] at r;cases r;exact .nil
 |k::ks,_,r=>by
  rw[V_] at r;cases r with
  |cons h t=>exact .cons (tK h) (tL t)
abbrev KT (H:Hp):List (List Key×V)->List (List Key×Ww×Wd)->Prop:=ZI λp q=>p.1=q.1/\H q.2.1=some (.tup (p.1.map kV))/\aM p.2 q.2.2
theorem KT.val {xs:List (List Key×Ww×Wd)}(r:KT H aN xs)(k:List Key):kl (oR aN k) ((atKey xs k).map (·.2)):=by
 induction r with
 |nil=>exact True.intro
 | @cons p q ps qs h t ih=>
  obtain⟨h1,_,h2⟩:=h;by_cases e:p.1=k
  ·have e':q.1=k:=h1.symm.trans e;have b:atKey (q::qs) k=some q.2:=by simp[atKey,XU,e']
   rw[kW e,b];exact h2
  ·have e':¬q.1=k:=λz=>e (h1.trans z);have b:atKey (q::qs) k=atKey qs k:=by simp[atKey,XU,e']
   rw[kX e,b];exact ih
theorem KT.repl {xs:List (List Key×Ww×Wd)}(r:KT H aN xs)(k:List Key){u:Wd}(ry:aM y u) :
  KT H (aN.map λkv=>if kv.1=k then (kv.1,y) else kv) (xs.map (putAt k u)):=by
 induction r with
 |nil=>exact .nil
 | @cons p q ps qs h t ih=>
  rw[V_,V_];refine .cons ?_ ih;obtain⟨h1,h2,h3⟩:=h;unfold putAt;by_cases e:p.1=k
  ·rw[hZ e,hZ (h1.symm.trans e)];exact⟨h1,h2,ry⟩
  ·rw[hV e,hV (λz=>e (h1.trans z))];exact⟨h1,h2,h3⟩
theorem KT.put {xs:List (List Key×Ww×Wd)}(r:KT H aN xs)(k:List Key){u:Wd}(hb:H b=some (.tup (k.map kV)))(ry:aM y u) :
  KT H (kS aN k y) (storedH xs k b u):=by
 have e:(aN.any λkv=>decide (kv.1=k))=(atKey xs k).isSome:=by
  rw[wB,(r.val k).isSome_eq,Y1]
 unfold kS storedH;rw[e];by_cases q:(atKey xs k).isSome=true
 ·rw[hZ q,hZ q];exact r.repl k ry
 ·rw[hV q,hV q];exact Paired.snoc r ⟨rfl,hb,ry⟩
theorem KT.keeps {xs:List (List Key×Ww×Wd)}(r:KT H aN xs)(ht:∀b ys,H b=some (.tup ys)->H' b=some (.tup ys)):KT H' aN xs:=
 Paired.mapP r λ_ _ z=>⟨z.1,ht _ _ z.2.1,z.2.2⟩
section
variable {w:Xt}
theorem JN {u:HO}(ok:ig P w H h)(e:Rd H a u):bh P w H h a u:=e.ok ok
theorem p5 {aN:List (Key×V)}(ok:ig P w H h)(e:Rd H a (.dK aN)):aN.length<=Wa/\(a==XM)=false/\∃vs,KV aN vs/\h.DictOf (cw P w) a vs:=
 show bh P w H h a (.dK aN) from JN ok e
theorem O6 {aN:List (Key×V)}(ok:ig P w H h)(e:H a=some (.dK aN)):aN.length<=Wa/\(a==XM)=false/\∃vs,KV aN vs/\h.DictOf (cw P w) a vs:=p5 ok (.inl e)
theorem mQ {ks:List Key}(ok:ig P w H h)(e:H a=some (.tup (ks.map kV))):(tupleKind (cw P w)).is h ks a:=by
 obtain⟨_,ao,r,⟨o,h1,h2,n,h3⟩,_⟩:=(show bh P w H h a (.tup (ks.map kV)) from ok a _ e);exact⟨o,ao.toArray,n,h1,h2,h3,by simpa using tL r⟩
theorem p6 (ok:ig P w H h)(e:Rd H a (.dT aN)):aN.length<=Wa/\(a==XM)=false/\
  ∃xs,KT H aN xs/\h.DictOfH (tupleKind (cw P w)) a xs:=by
 obtain⟨z,y,xs,r,o,es,ep,h1,h2,h3,h4,h5⟩:=(show bh P w H h a (.dT aN) from JN ok e);refine⟨z,y,xs,r,o,es,ep,h1,h2,h3,h4,λx hx=>?_,h5⟩;have all:∀{l:List (List Key×V)} {m:List (List Key×Ww×Wd)},KT H l m->∀x∈m,(tupleKind (cw P w)).is h x.1 x.2.1:=by
  intro l m q
  induction q with
  |nil=>intro x hx;exact nomatch hx
  | @cons p q ps qs hq t ih=>
   intro x hx;rcases Wn.mp hx with e|hx
   ·subst e;exact mQ ok (by rw[←hq.1];exact hq.2.1)
   ·exact ih x hx
 exact all r x hx
theorem O7 (ok:ig P w H h)(e:H a=some (.dT aN)):aN.length<=Wa/\(a==XM)=false/\
  ∃xs,KT H aN xs/\h.DictOfH (tupleKind (cw P w)) a xs:=p6 ok (.inl e)
end
def BY (H:Hp)(a:Ww)(y:V)(r:Option V):Prop:=
 (∃aN k,Rd H a (.dK aN)/\y=kV k/\r=oR aN k)\/∃aN k b,Rd H a (.dT aN)/\y=.ref b/\H b=some (.tup (k.map kV))/\r=oR aN k
def O8 (H:Hp)(a:Ww)(y v:V)(H':Hp):Prop:=
 (∃aN k,H a=some (.dK aN)/\y=kV k/\aN.length<Wa/\H'=bL H a (.dK (kS aN k v))) \/
 ∃aN k b,H a=some (.dT aN)/\y=.ref b/\H b=some (.tup (k.map kV))/\aN.length<Wa/\H'=bL H a (.dT (kS aN k v))
section
variable {u r:Wd}{o:Option V}{A:W2}
theorem av.big (I:av X pins σ H s):XM<s.heap.objs.size:=by
 have h:WL<s.heap.objs.size:=(I.mod.glob.keeps I.bk).lt;exact Nat.lt_trans (by decide) h
theorem BZ (hu:A.units+1<XG)(I:av X pins σ H s)(g:BY H a y (some v))(ry:aM y u)(h:∀w' s',av X pins σ H s'->aM v w'->Q w' s') :
  Wv (WI X.prog X.w) A (aa1 (.ref a) u) Q E s:=by
 rcases g with⟨aN,k,e,ey,l⟩|⟨aN,k,b,e,ey,eb,l⟩
 ·subst ey;obtain⟨z,hd,vs,rel,dd⟩:=p5 I.hok e;obtain⟨w',hw,yp⟩:=kl.some_of (v:=v) (o:=valueAt vs k) (by rw[l];exact rel.val k);exact wpAny_getItem_of (tK ry) dd.mapOf hw (h w' _ (I.tok _) yp)
 ·subst ey;cases (show u=Value.ref b from ry);obtain⟨z,hd,xs,rel,dd⟩:=p6 I.hok e;obtain⟨w',hw,yp⟩:=kl.some_of (v:=v) (o:=(atKey xs k).map (·.2)) (by rw[l];exact rel.val k);obtain⟨p,hp,C8⟩:=Option.map_eq_some_iff.mp hw;refine wpAny_getItem_heap (Zh hu) (mQ I.hok eb) dd hp ?_;rw[C8];exact h w' _ (I.tok _) yp
theorem RX (hu:A.units+1<XG)(I:av X pins σ H s)(g:BY H a y o)(ry:aM y u)(h:∀s',av X pins σ H s'->Q (.bool o.isSome) s') :
  Wv (WI X.prog X.w) A (XN .In u (.ref a)) Q E s:=by
 rcases g with⟨aN,k,e,ey,l⟩|⟨aN,k,b,e,ey,eb,l⟩
 ·subst ey;obtain⟨z,hd,vs,rel,dd⟩:=p5 I.hok e;refine wpAny_in_of (tK ry) hd dd.mapOf ?_;rw[←(rel.val k).isSome_eq,←l];exact h _ (I.tok _)
 ·subst ey;cases (show u=Value.ref b from ry);obtain⟨z,hd,xs,rel,dd⟩:=p6 I.hok e;refine wpAny_in_heap (Zh hu) (mQ I.hok eb) hd dd ?_;have q:=(rel.val k).isSome_eq;rw[Y1] at q;rw[←q,←l];exact h _ (I.tok _)
theorem Hw (hu:A.units+1<XG)(I:av X pins σ H s)(g:BY H a y o)(ry:aM y u)(h:∀s',av X pins σ H s'->Q (.bool (!o.isSome)) s') :
  Wv (WI X.prog X.w) A (XN .NotIn u (.ref a)) Q E s:=by
 rcases g with⟨aN,k,e,ey,l⟩|⟨aN,k,b,e,ey,eb,l⟩
 ·subst ey;obtain⟨z,hd,vs,rel,dd⟩:=p5 I.hok e;refine wpAny_notIn_of (tK ry) hd dd.mapOf ?_;rw[←(rel.val k).isSome_eq,←l];exact h _ (I.tok _)
 ·subst ey;cases (show u=Value.ref b from ry);obtain⟨z,hd,xs,rel,dd⟩:=p6 I.hok e;refine wpAny_notIn_heap (Zh hu) (mQ I.hok eb) hd dd ?_;have q:=(rel.val k).isSome_eq;rw[Y1] at q;rw[←q,←l];exact h _ (I.tok _)
theorem pz {t':Nat}{ob:HO}(I:av X pins σ H s)(mu:Oe (H a))(hs:ZV a s.heap h')(he:∃q,h'.get? a=some q)(new:bh X.prog X.w (bL H a ob) h' a ob) :
  av X pins σ (bL H a ob) {s with heap:=h',toks:=t'}:=
 I.write (x:=a) (e:=a) mu (.inl rfl) (λb q hb z=>(hs.2 b hb).trans z) he new
theorem LX {w:Xt}{aN:List (Key×V)}{vs:List (Key×Wd)}(z:aN.length<=Wa)(hd:(a==XM)=false)(rel:KV aN vs)(dd:h'.DictOf (cw P w) a vs) :
  bh P w H' h' a (.dK aN):=⟨z,hd,vs,rel,dd⟩
theorem B0 {Q:Unit->Wr->Prop}(hu:A.units+1<XG)(I:av X pins σ H s)(g:O8 H a y v H')(ry:aM y u)(rv:aM v r)(h:∀s',av X pins σ H' s'->Q () s') :
  Wv (WI X.prog X.w) A (setItem (.ref a) u r) Q E s:=by
 rcases g with⟨aN,k,e,ey,l,eH⟩|⟨aN,k,b,e,ey,eb,l,eH⟩
 ·subst ey eH;obtain⟨z,hd,vs,rel,dd⟩:=O6 I.hok e;have hz:vs.length<=Wa:=by rw[←rel.length];exact z
  have hl:(kS aN k v).length<=Wa:=by have:=nW aN k v;lia
  refine wpAny_setItem_pairs (hsz:=hz) (tK ry) dd λh' Lc hs=>h _ ?_;have he:∃q,h'.get? a=some q:=let ⟨q,_,_,hq,_⟩:=Lc;⟨q,hq⟩
  exact pz I (by rw[e];exact True.intro) hs he (LX hl hd (rel.put k rv) Lc)
 ·subst ey eH;cases (show u=Value.ref b from ry);obtain⟨z,hd,xs,rel,dd⟩:=O7 I.hok e;have hz:xs.length<=Wa:=by rw[←Zv rel];exact z
  have hl:(kS aN k v).length<=Wa:=by have:=nW aN k v;lia
  refine wpAny_setItem_heap (hsz:=hz) (Zh hu) (mQ I.hok eb) dd λh' Lc hs=>h _ ?_;obtain⟨q,es,ep,hq,h2,h3,h4,_,h5⟩:=Lc;refine pz I (by rw[e];exact True.intro) hs ⟨q,hq⟩ ⟨hl,hd,_,(rel.put k eb rv).keeps λc ys ec=>?_,q,es,ep,hq,h2,h3,h4,h5⟩;rw[aF (OC ec e (λz=>nomatch z))];exact ec
end
def LY (i:X4):Prop:=∀ov iv,subscripted i false ov iv=operate [ov,iv] (aa1 ov iv)
theorem Hx {w:Xt}{A:W2}{value slice:X4}{id:String}(hl:typeLookup (.type T) "__getitem__"=pure (some (.builtin id)))(hs:LY slice)(h:Wv (WI prog w) A (YX value env) (λo s₁=>Wv (WI prog w) A (YX slice env) (λi s₂=>s₂.TypeIs o T/\Wv (WI prog w) A (aa1 o i) Q E s₂) E s₁) E s) :
  Wv (WI prog w) A (YX (.Subscript value slice pos) env) Q E s:=by
 refine Subscript_ (Xg h (λo s₁ h₁=>Xg h₁ (λi s₂ h₂=>?_) λ_ _ x=>x) λ_ _ x=>x);obtain⟨hT,h₂⟩:=h₂;unfold subscriptTail;refine V3 ?_;rw[getitemInPython_of_ne hT.not_modules];refine V3 (aa4 hT hl ?_);have fin:Wv (WI prog w) A (subscripted slice false o i) (λr s₃=>Wv (WI prog w) A (letTemporaryGo value o r >>= λ_=>pure r) Q E s₃) E s₂:=by
  rw[hs o i];exact wpAny_operating (Xg h₂ (λr s₃ h₃=>V3 (wpAny_letTemporaryGo (V8 h₃))) λ_ _ x=>x)
 first
  |exact V8 (V3 fin)
  |exact V3 (V8 (V3 fin))
  |exact V3 fin
theorem wC {o:Option V}(I:av X pins σ H s)(g:BY H a y o):s.TypeIs (.ref a) "dict":=by
 rcases g with⟨aN,k,e,_,_⟩|⟨aN,k,b,e,_,_,_⟩
 ·obtain⟨_,_,vs,_,dd⟩:=p5 I.hok e;exact dd.typeIs
 ·obtain⟨_,_,xs,_,dd⟩:=p6 I.hok e;exact dd.typeIs
theorem wD {w:Xt}(h:Y5)(hb:XM<h.objs.size):bh P w H (h.push {cls:=.type "dict",data:=.dict (List.toArray [])}) h.objs.size (.dK []):=
 ⟨Yi _,beq_eq_false_iff_ne.mpr (Ne.symm (WA hb)),[],.nil,Heap.DictOf.new h⟩
def LZ:TE:=λ_ H Q=>∀p,H p=none->Q (.ref p) (bL H p (.dK []))
theorem DY:PE X (.Dict [] [] pos) LZ:=λpins s σ H Q I h=>
 wpAny_Dict_empty ⟨.ref s.heap.objs.size,_,I.laid (a:=s.heap.objs.size) (o:=.dK []) (t':=s.toks) (λ_ _ q=>V7 _ q) (Wf _) (wD s.heap I.big),rfl,h _ (I.hok.fresh (Wf _))⟩
structure M1 (X:Cx)(o:X4)(m:Str)(cR:Pos)(e:X4)(cpos:Pos):Prop where
 base:Zy o m X.env (YX o X.env)=YX o X.env
 few:((Yp cpos (Wm [e] X.env)).all (λx=> !x.1)&&(backToKw cpos (keywordEach [] X.env)).all (λx=>x.1.isSome)
  && decide (([e]:List X4).length+([]:List abE).length+(if ([]:List abE).isEmpty then 0 else 1)<30))=true
 line:(cR.endLine==cpos.line)=true
 trees:Yp cpos (Wm [e] X.env)=[(false,YX e X.env)]
structure M2 (X:Cx)(o:X4)(m:Str)(cR:Pos)(e f:X4)(cpos:Pos):Prop where
 base:Zy o m X.env (YX o X.env)=YX o X.env
 few:((Yp cpos (Wm [e,f] X.env)).all (λx=> !x.1)&&(backToKw cpos (keywordEach [] X.env)).all (λx=>x.1.isSome)
  && decide (([e,f]:List X4).length+([]:List abE).length+(if ([]:List abE).isEmpty then 0 else 1)<30))=true
 line:(cR.endLine==cpos.line)=true
 trees:Yp cpos (Wm [e,f] X.env)=[(false,YX e X.env),(false,YX f X.env)]
def TF (H:Hp)(a:Ww):Prop:=(∃aN,Rd H a (.dK aN))\/∃aN,Rd H a (.dT aN)
theorem L3 (I:av X pins σ H s)(d:TF H a) :
  s.TypeIs (.ref a) "dict"/\(∀b,Value.ref a=.ref b->∃ob,s.heap.get? b=some ob/\ob.dict=none)/\(a==XM)=false:=by
 rcases d with⟨aN,e⟩|⟨aN,e⟩
 ·obtain⟨_,hd,vs,_,dd⟩:=p5 I.hok e;refine⟨dd.typeIs,λb q=>?_,hd⟩;cases q;obtain⟨ob,_,_,h1,h2,_⟩:=dd;exact⟨ob,h1,h2.2.1⟩
 ·obtain⟨_,hd,xs,_,dd⟩:=p6 I.hok e;refine⟨dd.typeIs,λb q=>?_,hd⟩;cases q;obtain⟨ob,_,_,h1,h2,_⟩:=dd;exact⟨ob,h1,h2.2.1⟩
section
variable {d:V}{u r:Wd}{o:Option V}{A:W2}
theorem L4 (hu:A.units+1<XG)(I:av X pins σ H s)(g:BY H a y o)(ry:aM y u)(rd:aM d r)(h:∀w' s',av X pins σ H s'->aM (o.getD d) w'->Q w' s') :
  Wv (WI X.prog X.w) A (call (.builtin "dict.get") [.ref a,u,r]) Q E s:=by
 rcases g with⟨aN,k,e,ey,l⟩|⟨aN,k,b,e,ey,eb,l⟩
 ·subst ey;obtain⟨z,hd,vs,rel,dd⟩:=p5 I.hok e;refine call_meetsIn Zl dd.typeIs aaj (Z_ _ _ _) (meets_dict_get_default (cw X.prog X.w) a (tK ry) hd r) ⟨_,dd.mapOf,h _ _ (I.tok _) ?_⟩;rw[l];exact (rel.val k).getD rd
 ·subst ey;cases (show u=Value.ref b from ry);obtain⟨z,hd,xs,rel,dd⟩:=p6 I.hok e;refine call_meetsIn Zl dd.typeIs aaj (Z_ _ _ _) (meetsH_dict_get_default (tupleKind (cw X.prog X.w)) a b hd r) ⟨Zh hu,k,xs,mQ I.hok eb,dd,h _ _ (I.tok _) ?_⟩;rw[l];exact (rel.val k).getD rd
end
end L2
namespace L2
end L2
namespace L2
theorem yK (hf:∀x,(x,NameKind.free)∈scope.names->∃c,env.cells.lookup x=some c) :
  ∃cl:List (Str×Ww),closureFor scope env=pure cl/\(∀x c,cl.lookup x=some c->env.cells.lookup x=some c)/\∀x,(x,NameKind.free)∈scope.names->∃c,cl.lookup x=some c:=by
 have gen:∀(names:List (Str×abY)) (cs:List (Str×Ww)),(∀x,(x,NameKind.free)∈names->∃c,env.cells.lookup x=some c)->(∀x c,cs.lookup x=some c->env.cells.lookup x=some c)->
   ∃cl:List (Str×Ww),(forIn names cs λ(x:Str×abY) (r:List (Str×Ww))=>(match x with|(name,kind)=>if (kind==NameKind.free)=true then (do let a ←cellOf env name;pure (ForInStep.yield ((name,a)::r))) else pure (ForInStep.yield r):Sem (ForInStep (List (Str×Ww)))))=(pure cl:Sem _)/\
    (∀x c,cl.lookup x=some c->env.cells.lookup x=some c)/\(∀x c,cs.lookup x=some c->∃c',cl.lookup x=some c')/\∀x,(x,NameKind.free)∈names->∃c,cl.lookup x=some c:=by
  intro names
  induction names with
  |nil=>intro cs _ h;exact⟨cs,rfl,h,λx c e=>⟨c,e⟩,λx hx=>absurd hx (by simp)⟩
  |cons p r ih=>
   intro cs hn h;obtain⟨n,k⟩:=p;by_cases hk:k=NameKind.free
   ·subst hk;obtain⟨c,hc⟩:=hn n Wi;have h':∀x c',((n,c)::cs).lookup x=some c'->env.cells.lookup x=some c':=λx c' e=>by
     rw[Yd] at e;by_cases hx:x==n
     ·rw[hx] at e;have:x=n:=by simpa using hx
      subst this;cases e;exact hc
     ·rw[Zz.mpr hx] at e;exact h x c' e
    obtain⟨cl,e1,e2,e3,e4⟩:=ih ((n,c)::cs) (λx hx=>hn x (Wh _ hx)) h';refine⟨cl,?_,e2,λx c' e=>?_,λx hx=>?_⟩
    ·rw[aaa];have:cellOf env n=pure c:=by unfold cellOf;rw[hc]
     simp only[beq_self_eq_true,if_true,this];exact e1
    ·by_cases hx:x=n
     ·subst hx;exact e3 x c (by rw[Yd];simp)
     ·exact e3 x c' (by rw[Yd,show (x==n)=false from by simpa using hx];exact e)
    ·rcases Wn.mp hx with e|hx
     ·cases e;exact e3 n c (by rw[Yd];simp)
     ·exact e4 x hx
   ·obtain⟨cl,e1,e2,e3,e4⟩:=ih cs (λx hx=>hn x (Wh _ hx)) h;refine⟨cl,?_,e2,e3,λx hx=>?_⟩
    ·rw[aaa];have:(k==NameKind.free)=false:=by simpa using hk
     simp only[this,Xj,if_false];exact e1
    ·rcases Wn.mp hx with e|hx
     ·cases e;exact absurd rfl hk
     ·exact e4 x hx
 obtain⟨cl,e1,e2,_,e4⟩:=gen scope.names [] hf (λx c e=>by simp at e);refine⟨cl,?_,e2,e4⟩;unfold closureFor;exact (congrArg (λm=>m >>= λr=>pure r) e1).trans rfl
structure pA where
 C:Ww
 s:Wr
 H:Hp
 fp:List Ww
 pins:List (Ww×Obj)
 cl:List (Str×Ww)
noncomputable abbrev dz (X:Cx)(scope:abz)(N:List Str)(Y:pA):Cx where
 prog:=X.prog
 w:=X.w
 K:=X.K
 mg:=X.mg
 base:=X.base
 A:=X.A
 N:=N
 s₀:=Y.s
 H₀:=Y.H
 env:=compEnvC scope Y.cl Y.C X.env
 outer:=X.stack
 stack:=X.stack
 ex:=Y.fp
 fn:=λ_=>false
 calm:=X.calm
 pn:=X.pn++Y.pins
 xe:=λ_ _=>False
noncomputable def sJ (j0:abz)(NX:List Str)(scope:abz)(N:List Str)(js:List (Option Nat)):Bool:=
 decide (scope.kind=.function)&&scope.names.all (λy=>decide (y.2≠.cell))&&scope.names.all (λy=>decide (y.2=.local->scope.names.lookup y.1=some .local))&&decide (js.length=N.length) &&
 (js.zip N).all (λp=>match p.1 with|none=>true|some j=>decide (NX[j]? = some p.2)&&decide (scope.names.lookup p.2=some .free)) &&
 scope.names.all (λy=>decide (y.2=.free->j0.names.lookup y.1=some .cell\/j0.names.lookup y.1=some .free))
structure kY (j0:abz)(NX:List Str)(scope:abz)(N:List Str)(js:List (Option Nat)):Prop where
 kind:scope.kind=.function
 nocell:∀y∈scope.names,y.2≠.cell
 loc:∀y∈scope.names,y.2=.local->scope.names.lookup y.1=some .local
 len:js.length=N.length
 cap:∀(i j:Nat) (x:Str),js[i]? = some (some j)->N[i]? = some x->NX[j]? = some x/\scope.names.lookup x=some .free
 free:∀x,(x,NameKind.free)∈scope.names->j0.names.lookup x=some .cell\/j0.names.lookup x=some .free
theorem sJ.to {j0:abz}{NX:List Str}(h:sJ j0 NX scope N js=true):kY j0 NX scope N js:=by
 unfold sJ at h;simp only[Wt] at h;obtain⟨⟨⟨⟨⟨h1,h2⟩,h3⟩,h4⟩,h5⟩,h6⟩:=h;refine⟨of_decide_eq_true h1,λy hy=>of_decide_eq_true (WT.mp h2 y hy),λy hy=>of_decide_eq_true (WT.mp h3 y hy),of_decide_eq_true h4,λi j x e1 e2=>?_,λx hx=>of_decide_eq_true (WT.mp h6 (x,NameKind.free) hx) rfl⟩;have hz:(js.zip N)[i]? = some (some j,x):=by
  rw[List.getElem?_zip_eq_some];exact⟨e1,e2⟩
 have q:=WT.mp h5 _ (Xq hz);simp only[Wt] at q;exact⟨of_decide_eq_true q.1,of_decide_eq_true q.2⟩
noncomputable def tM (js:List (Option Nat))(σ:St):St:=js.map λo=>match o with
 |none=>none
 |some j=>match σ[j]? with
  |some v=>v
  |none=>none
theorem kZ (uF:∀y∈scope.names,y.2≠.cell)(h:(relabel scope env).names.lookup x=some .cell\/(relabel scope env).names.lookup x=some .free):(x,NameKind.free)∈scope.names:=by
 have gen:∀k,(k=NameKind.cell\/k=NameKind.free)->(relabel scope env).names.lookup x=some k->(x,NameKind.free)∈scope.names:=λk hk e=>by
  have hm:=W3 e;obtain⟨⟨n,k0⟩,hy,q⟩:=WY.mp hm;dsimp only at q;split at q
  ·rename_i c;simp only[Wt,beq_iff_eq] at c;cases q;obtain⟨⟨c1,_⟩,_⟩:=c;rw[c1] at hy;exact hy
  ·cases q;rcases hk with hk|hk
   ·exact absurd hk (uF _ hy)
   ·rw[hk] at hy;exact hy
 rcases h with h|h
 ·exact gen _ (.inl rfl) h
 ·exact gen _ (.inr rfl) h
theorem dq {env:Env}{x:Str}:∀{names:List (Str×abY)},names.lookup x=some .free->
  (names.map λ(n,k)=>if (k==NameKind.free&&env.scope.kind==.function&&env.kindOf n==some .cell) then (n,NameKind.cell) else (n,k)).lookup x=some .cell \/
  (names.map λ(n,k)=>if (k==NameKind.free&&env.scope.kind==.function&&env.kindOf n==some .cell) then (n,NameKind.cell) else (n,k)).lookup x=some .free
 | [],h=>by simp at h
 | (n,k)::r,h=>by
  rw[V_];by_cases hx:x==n
  ·rw[Yd,hx] at h;cases h;by_cases c:(NameKind.free==NameKind.free&&env.scope.kind==.function&&env.kindOf n==some .cell)=true
   ·refine .inl ?_;show List.lookup x ((if (NameKind.free==NameKind.free&&env.scope.kind==.function&&env.kindOf n==some .cell)=true then (n,NameKind.cell) else (n,NameKind.free))::_)=_;rw[hZ c,Yd,hx]
   ·refine .inr ?_;show List.lookup x ((if (NameKind.free==NameKind.free&&env.scope.kind==.function&&env.kindOf n==some .cell)=true then (n,NameKind.cell) else (n,NameKind.free))::_)=_;rw[hV c,Yd,hx]
  ·have sG:=Zz.mpr hx;rw[Yd,sG] at h;have ih:=dq (env:=env) (x:=x) (names:=r) h;have e:∀p:Str×abY,p.1=n->List.lookup x (p::(r.map λ(n,k)=>if (k==NameKind.free&&env.scope.kind==.function&&env.kindOf n==some .cell) then (n,NameKind.cell) else (n,k))) =
     List.lookup x (r.map λ(n,k)=>if (k==NameKind.free&&env.scope.kind==.function&&env.kindOf n==some .cell) then (n,NameKind.cell) else (n,k)):=λp hp=>by
    obtain⟨p1,p2⟩:=p;cases hp;rw[Yd,sG]
   rw[e _ (by dsimp only;split<;>rfl)];exact ih
def B1 (X:Cx)(sd:List X4)(t:TT):Prop:=
 ∀(pins:List (Ww×Obj)) (s:Wr) (σ:St) (H:Hp) (Q:Bool->Hp->Prop),av X pins σ H s->t σ H Q->
  Wv (WI X.prog X.w) X.A (forIn sd true λc r=>if r=true then do let ok ←isTrue c X.env (YX c X.env);pure (ForInStep.yield ok) else pure (ForInStep.yield r)) (TP X pins σ Q) X.xe s
def RY:TT:=λ_ H Q=>Q true H
theorem DZ:B1 X [] RY:=λ_ _ _ H _ I h=>wpAny_tests_nil ⟨H,I,h⟩
theorem D0 (h:PT X c t):B1 X [c] t:=λpins s σ H Q I q=>wpAny_tests_one (h pins s σ H Q I q)
end L2
namespace L2
theorem jo {w:Xt}{A:W2}{R:Result->Wr->Prop}{nK:X4}{it cg:Wd}(I:Nat->Wr->Prop)(turn:∀n s,I n s->Wv (WI prog w) A (aaN it) (λr s₁=>match r with
   |none=>R (.ok .next) s₁
   |some v=>Wv (WI prog w) A (aaY nK it v) (λ_ Ua=>Wv (WI prog w) A (assign nK env v) (λ_ s₂=>
     Wv (WI prog w) A (forIn sd true λc r=>if r=true then do let ok ←isTrue c env (YX c env);pure (ForInStep.yield ok) else pure (ForInStep.yield r)) (λok s₃=>
      if ok=true then Wv (WI prog w) A (YX elt env) (λx s₄=>
       Wv (WI prog w) A (call (.builtin "list.append") [cg,x]) (λ_ s₅=>∃m,m<n/\I m s₅) (λ_ _=>False) s₄) (λ_ _=>False) s₃
      else ∃m,m<n/\I m s₃) (λ_ _=>False) s₂) (λ_ _=>False) Ua) (λ_ _=>False) s₁) (λ_ _=>False) s)(n:Nat)(h:I n s) :
  abD (WI prog w) A (.compLoop (.ListComp elt [⟨nK,iter,sd,0⟩] scope pos) 0 it cg env) R s:=by
 refine codeAny_loop rfl I (λn s hI=>?_) n h;show Wv _ A ((compTurn (.ListComp elt [⟨nK,iter,sd,0⟩] scope pos) 0 it cg env).onRaise (λx=>do noteFrame x env;theTreesLotGoes x)) _ _ s;refine wpAny_noted ?_;rw[compTurn_list];have fe:∀{e:Wd} {s':Wr} {Z:Prop},(λ(_:Wd) (_:Wr)=>False) e s'->Z:=λh=>h.elim;refine V3 (aaS (V3 (Xg (turn n s hI) (λr s₁ h₁=>?_) λ_ _ h'=>h'.elim)));cases r with
 |none=>exact V8 h₁
 |some v=>
  refine V3 (Xg h₁ (λ_ Ua UM=>?_) λ_ _ h'=>h'.elim);refine V3 (Xg UM (λ_ s₂ h₂=>V3 (Xg h₂ (λok s₃ h₃=>?_) λ_ _ h'=>h'.elim)) λ_ _ h'=>h'.elim);cases ok with
  |false=>exact V8 ⟨rfl,h₃⟩
  |true=>
   exact V3 (V3 (Xg h₃ (λx s₄ h₄=>V3 (Xg h₄ (λ_ s₅ h₅=>V8 (V8 ⟨rfl,h₅⟩)) λ_ _ h'=>h'.elim)) λ_ _ h'=>h'.elim))
def O9 (J:It)(js:List (Option Nat))(g:pA->TG)(tt:pA->TT)(te:pA->TE)(σ:St)(H1:Hp)(P:List V->Hp->Prop):Prop:=
 ∀Y:pA,∃W:Nat->Nat->List V->Hp->Prop,(∃m,W 0 m [] H1)/\∀i m ys H2,W i m ys H2->
  (J.stop i H2/\P ys H2) \/
  (J.go i H2/\ys.length<Wa/\∃Nx:List V->Hp->Prop,(∀Lh H',Nx Lh H'->∃m',m'<m/\W (i+1) m' Lh H')/\∀x H3,J.yld i H2 x H3->g Y x (tM js σ) H3 λσ4 H4=>tt Y σ4 H4 λb H5=>
   if b=true then te Y σ4 H5 λy H6=>Nx (ys++[y]) H6 else Nx ys H5)
def QW (wi:TI)(js:List (Option Nat))(g:pA->TG)(tt:pA->TT)(te:pA->TE):TE:=λσ H Q=>wi σ H λJ H1=>
 O9 J js g tt te σ H1 λys H2=>∀p,H2 p=none->Q (.ref p) (bL H2 p (.lst ys))
theorem p7 {E:Wd->Wr->Prop}{s2:Wr}{j0:abz}{g:pA->TG}{tt:pA->TT}{te:pA->TE}{J:It}{tn:Nat->Y5->Prop}{P:List V->Hp->Prop}{cl:List (Str×Ww)}{RR:Wd->Ww->Result->Wr->Prop}(I:av X pins σ H s2)(hc:X.calm=true)(T:yy X.prog X.w X.K tg J fp it tn)(j3:tn 0 s2.heap)(f2:∀b∈fp,oP X pins H b)(v_:∀Y:pA,PG (dz X scope N Y) tg (g Y)/\B1 (dz X scope N Y) sd (tt Y)/\PE (dz X scope N Y) elt (te Y))(S:kY j0 X.N scope N js)(ka:X.env.scope=j0)(c1:∀x c,cl.lookup x=some c->X.env.cells.lookup x=some c)(c2:∀x,(x,NameKind.free)∈scope.names->∃c,cl.lookup x=some c)(h:O9 J js g tt te σ H P)(hR:∀(cg C:Ww) (ys:List V) (H':Hp) (s':Wr),av X pins σ (bL H' cg (.lst ys)) s'->(∃m,s'.heap.Ns C m)->oP X pins (bL H' cg (.lst ys)) C->H' cg=none->P ys H'->RR (.ref cg) C (.ok .next) s') :
  Wv (WI X.prog X.w) X.A (newList []) (λcg s₃=>Wv (WI X.prog X.w) X.A (newFunctionEnv scope X.env.globals cl [] X.env.qual none .none (some X.env)) (λQB s₄=>
   abD (WI X.prog X.w) X.A (.compStart (.ListComp elt [⟨tg,iter,sd,0⟩] scope pos) 0 (.ref it) cg {QB with scope:=relabel scope X.env}) (RR cg QB.locals) s₄) E s₃) E s2:=by
 refine WR (wpAny_newFunctionEnv S.nocell (by intro y hy;simp at hy) (λh₁ NT JC=>?_) S.kind);dsimp only at NT JC ⊢;generalize hH2:s2.heap.push {cls:=.type "list",dict:=none,data:=.seq ([]:List Wd).toArray}=H2 at NT JC ⊢;have hC:H2.objs.size=s2.heap.objs.size+1:=by rw[←hH2,YT]
 have Rq:s2.heap.objs.size≠H2.objs.size:=by rw[hC];exact WA (Nat.lt_succ_self _)
 have JD:s2.heap.objs.size<=H2.objs.size:=by rw[hC];exact Nat.le_succ _
 have below:∀b,b<s2.heap.objs.size->b≠H2.objs.size/\b≠s2.heap.objs.size:=λb hb=>⟨by rw[hC];exact WA (aaq hb),WA hb⟩;have G4:∀b o,s2.heap.get? b=some o->h₁.get? b=some o:=λb o e=>JC.extBut b o (below b (Wq e)).1 (V7 _ (hH2▸V7 _ e));have pd:h₁.PlainList s2.heap.objs.size (List.toArray []):=⟨_,JC.extBut _ _ Rq (V7 _ (hH2▸Wj _ rfl))⟩;have S8:∀b∈fp,b<s2.heap.objs.size:=λb hb=>by
  obtain⟨o,e,_⟩:=T.obj _ _ j3 b hb;exact Wq e
 generalize hCg:H2.objs.size=C at *;generalize hAg:s2.heap.objs.size=cg at *
 let Y:pA:=⟨C,s2,H,fp,pins,cl⟩
 have ok:(dz X scope N Y).Ok:=by
  refine⟨I.ok.mod,S.kind,I.ok.glob,I.ok.blt,?_,λx y c e1 e2=>I.ok.inj x y c (c1 x c e1) (c1 y c e2),λx hx=>c2 x (kZ S.nocell hx),λx c e=>(by cases e),I.ok.hd,I.ok.frames,.inl rfl,λb hb=>⟨?_,λx c e=>?_⟩,I.bs,WD I.ok.bsz I.sz,λb o e hb=>?_,λb hb hf=>?_,I.stack,I.stkFree⟩
  ·show s2.heap.objs.size<=C;rw[hAg];exact JD
  ·exact (below b (S8 b hb)).1
  ·exact (f2 b hb).2.2.2.2.1 x c (c1 x c e)
  ·rcases (f2 b hb).2.2.2.1 with z|z
   ·exact I.ok.noex b o e z
   ·exact absurd (WV (Wq (I.ok.bs b o e).1) z) (Yz _)
  ·rcases Wn.mp (I.stkSub b hf) with z|z
   ·exact (f2 b hb).2.1 z
   ·exact (f2 b hb).2.2.1 z
 have S9:∀x c,X.env.cells.lookup x=some c->c<cg:=λx c e=>by
  obtain⟨v,q⟩:=I.cell x c e;rw[←hAg];exact q.lt
 have Ld:∀p∈X.pn++pins,p.1<cg:=λp hp=>by rw[←hAg];exact Wq (I.pin p hp).1
 have VX:X.env.locals<cg:=by rw[←hAg];exact I.lt
 have QC:∀b∈pP X.stack,b<cg:=λb hb=>by
  obtain⟨_,o,ho,_⟩:=I.stack.mem hb;rw[←hAg];exact Wq ho
 have QD:∀p∈X.pn++pins,p.1∉pP X.stack:=λp hp hf=>by
  rcases Wn.mp (I.stkSub _ hf) with z|z
  ·exact (I.pin p hp).2.2.1 z
  ·exact (I.pin p hp).2.2.2.1 z
 have BG:H cg=none:=by rw[←hAg];exact I.hok.fresh (Wf _)
 have UN:H C=none:=I.hok.fresh (by rw[hAg];exact JD);have I4:∀tk:Nat,av (dz X scope N Y) [] (tM js σ) H {s2 with heap:=h₁,toks:=tk}:=λtk=>by
  refine⟨ok,rfl,I.bare,Un.kept G4,⟨_,NT,λi x v e1 e2 e3=>?_⟩,λx c e=>?_,UN,λx c e=>I.freeC x c (c1 x c e),λp hp=>?_,I.hok.kept G4,?_⟩
  ·
   have NU:(tM js σ)[i]? = some (some v):=e2;unfold tM at NU;rw[Wu] at NU;cases hj:js[i]? with
   |none=>rw[hj] at NU;cases NU
   |some o=>
    rw[hj] at NU;cases o with
    |none=>cases NU
    |some j=>
     have e4:(match σ[j]? with|some v=>v|none=>none)=some v:=WS NU;obtain⟨nx,fr⟩:=S.cap i j x hj e1;have e5:σ[j]? = some (some v):=by
      cases q:σ[j]? with
      |none=>rw[q] at e4;cases e4
      |some z=>rw[q] at e4;rw[show z=some v from e4]
     obtain⟨m,hn,hl⟩:=I.loc;have kx:X.env.scope.names.lookup x=some .cell\/X.env.scope.names.lookup x=some .free:=by rw[ka];exact S.free x (W3 fr)
     obtain⟨u,r,lk⟩:=hl j x v nx e5 (.inr kx);refine⟨u,r,.inr ⟨dq fr,?_⟩⟩;obtain⟨c,hcl⟩:=c2 x (W3 fr);rcases lk with⟨k,_⟩|⟨k,c',e',z⟩
     ·have k':X.env.scope.names.lookup x=some .local:=k;rcases kx with q|q<;>· rw[q] at k';cases k'
     ·have:c'=c:=by
       have:=c1 x c hcl;rw[e'] at this;exact WS this
      subst this;obtain⟨o,ho,hd⟩:=z;exact⟨c',hcl,o,G4 _ _ ho,hd⟩
  ·obtain⟨v,o,ho,hd⟩:=I.cell x c (c1 x c e);exact⟨v,o,G4 _ _ ho,hd⟩
  ·have G5:p∈X.pn++pins:=by simpa using hp
   obtain⟨q1,q2,q3,q4,q5⟩:=I.pin p G5;exact⟨G4 _ _ q1,q2,λz=>absurd (Ld p G5) (by rw[z];exact Nat.not_lt.mpr JD),QD p G5,q5⟩
  ·show (tM js σ).length=N.length;unfold tM;rw[V6];exact S.len
 obtain⟨hg,ht,he⟩:=v_ Y;obtain⟨W,⟨m0,w0⟩,turn⟩:=h Y;have S_:∀{H':Hp} {pl:List (Ww×Obj)},H' cg=none->(∀p∈pl,p.1≠cg)->oP (dz X scope N Y) pl H' cg:=λ{H' pl} hn hp=>by
  refine⟨hn,Rq,λz=>absurd (QC _ z) (Yz _),.inr (by show s2.heap.objs.size<=cg;rw[hAg];exact Wf _),λx c e=>WA (S9 x c (c1 x c e)),λp G5=>?_⟩;rcases WE.mp G5 with z|z
  ·exact WA (Ld p z)
  ·exact hp p z
 have Ta:∀{H':Hp} {pl:List (Ww×Obj)},(∀b∈fp,H' b=none)->(∀p∈pl,p.1∉fp)->∀b∈fp,oP (dz X scope N Y) pl H' b:=λ{H' pl} hn hp b hb=>by
  refine⟨hn b hb,(below b (S8 b hb)).1,λz=>?_,.inl hb,λx c e=>(f2 b hb).2.2.2.2.1 x c (c1 x c e),λp G5=>?_⟩
  ·rcases Wn.mp (I.stkSub b z) with q|q
   ·exact (f2 b hb).2.1 q
   ·exact (f2 b hb).2.2.1 q
  ·rcases WE.mp G5 with z|z
   ·exact (f2 b hb).2.2.2.2.2 p z
   ·exact λe=>hp p z (by rw[e];exact hb)
 have Ub:cg∉fp:=λz=>absurd (S8 cg z) (by intro q;rw[hAg] at *;exact Yz _ q);have Tb:∀{i:Nat} {x:Str} {v:V},N[i]? = some x->(tM js σ)[i]? = some (some v)->∃u c o,aM v u/\scope.names.lookup x=some .free/\cl.lookup x=some c/\s2.heap.get? c=some o/\o.data=.cell (some u):=λ{i x v} e1 e2=>by
  unfold tM at e2;rw[Wu] at e2;cases hj:js[i]? with
  |none=>rw[hj] at e2;cases e2
  |some o=>
   rw[hj] at e2;cases o with
   |none=>cases e2
   |some j=>
    have e4:(match σ[j]? with|some v=>v|none=>none)=some v:=WS e2;obtain⟨nx,fr⟩:=S.cap i j x hj e1;have e5:σ[j]? = some (some v):=by
     cases q:σ[j]? with
     |none=>rw[q] at e4;cases e4
     |some z=>rw[q] at e4;rw[show z=some v from e4]
    obtain⟨m,hn,hl⟩:=I.loc;have kx:X.env.scope.names.lookup x=some .cell\/X.env.scope.names.lookup x=some .free:=by rw[ka];exact S.free x (W3 fr)
    obtain⟨u,r,lk⟩:=hl j x v nx e5 (.inr kx);obtain⟨c,hcl⟩:=c2 x (W3 fr);rcases lk with⟨k,_⟩|⟨k,c',e',z⟩
    ·have k':X.env.scope.names.lookup x=some .local:=k;rcases kx with q|q<;>· rw[q] at k';cases k'
    ·have:c'=c:=by
      have:=c1 x c hcl;rw[e'] at this;exact WS this
     subst this;obtain⟨o,ho,hd⟩:=z;exact⟨u,c',o,r,fr,hcl,ho,hd⟩
 have QE:∀{pl:List (Ww×Obj)} {σ':St} {H':Hp} {s':Wr},av (dz X scope N Y) pl σ' H' s'->av (dz X scope N Y) pl (tM js σ) H' s':=λ{pl σ' H' s'} K=>by
  refine⟨K.ok,K.os,K.bare,K.base,?_,K.cell,K.free,K.freeC,K.pin,K.hok,?_⟩
  ·obtain⟨m,hn,_⟩:=K.loc;refine⟨m,hn,λi x v e1 e2 e3=>?_⟩;obtain⟨u,c,o,r,fr,hcl,ho,hd⟩:=Tb e1 e2;refine⟨u,r,.inr ⟨dq fr,c,hcl,?_⟩⟩;obtain⟨sl,q⟩:=K.base.any ho (I.freeC x c (c1 x c hcl)) λz=>(f2 c z).2.2.2.2.1 x c (c1 x c hcl) rfl;exact⟨_,q,hd⟩
  ·show (tM js σ).length=N.length;unfold tM;rw[V6];exact S.len
 have loop:∀tk:Nat,abD (WI X.prog X.w) X.A (.compLoop (.ListComp elt [⟨tg,iter,sd,0⟩] scope pos) 0 (.ref it) (.ref cg) (compEnvC scope cl C X.env)) (RR (.ref cg) C) {s2 with heap:=h₁,toks:=tk}:=by
  intro tk;refine jo (λn s'=>∃(i:Nat) (ys:List V) (ao:List Wd) (H':Hp),av (dz X scope N Y) [] (tM js σ) H' s'/\tn i s'.heap/\(∀b∈fp,H' b=none)/\H' cg=none/\s'.heap.PlainList cg ao.toArray/\aP ys ao/\ys.length<=Wa/\W i n ys H') ?_ m0
   ⟨0,[],[],H,I4 tk,T.keep _ _ _ j3 (λb hb o e=>G4 b o e),λb hb=>(f2 b hb).1,BG,pd,.nil,Yi _,w0⟩
  rintro n s3 ⟨i,ys,ao,H3,I3,G7,fr3,na3,⟨nn,ea⟩,rv3,hz3,w3⟩;have NV:∀p∈[(cg,({cls:=.type "list",data:=.seq ao.toArray nn}:Obj))],p.1∉fp:=λp hp=>by
   have e:p=(cg,({cls:=.type "list",data:=.seq ao.toArray nn}:Obj)):=by simpa using hp
   rw[e];exact Ub
  have Ip:av (dz X scope N Y) [(cg,({cls:=.type "list",data:=.seq ao.toArray nn}:Obj))] (tM js σ) H3 s3:=I3.pins_of λp hp=>by
   have e:p=(cg,({cls:=.type "list",data:=.seq ao.toArray nn}:Obj)):=by simpa using hp
   subst e;exact⟨ea,na3,Rq,λz=>absurd (QC _ z) (Yz _),λv z=>by cases z⟩
  rcases turn i n ys H3 w3 with⟨stop,p⟩|⟨go,yo,Nx,hNx,step⟩
  ·refine Xg (T.done (dz X scope N Y) rfl rfl rfl hc i _ s3 _ H3 (λ_ _=>False) Ip (Ta fr3 NV) G7 stop) (λr s4 UO=>?_) λ_ _ z=>z;obtain⟨hr,J4⟩:=UO;subst hr;have pa:=(J4.pin (cg,({cls:=.type "list",data:=.seq ao.toArray nn}:Obj)) (WJ _ Wi)).1;have u:Un (pP X.stack) fp H (bL H3 cg (.lst ys)) s2.heap s4.heap:=
    ⟨J4.base.keep,J4.base.slot,λb o e nb hx=>by rw[aF (below b (by rw[←hAg];exact Wq e)).2];exact J4.base.free b o e nb hx,J4.base.there,
     λb xs e=>by rw[aF (ba e BG)];exact J4.base.tups b xs e,λb o w' e=>by rw[aF (ba e BG)];exact J4.base.frzs b o w' e,λb ps e=>by rw[aF (ba e BG)];exact J4.base.tbls b ps e⟩
   have hok:ig X.prog X.w (bL H3 cg (.lst ys)) s4.heap:=λb o e=>by
    by_cases hb:b=cg
    ·subst hb;rw[aH] at e;cases e;exact⟨hz3,ao,nn,rv3,pa⟩
    ·rw[aF hb] at e;refine (J4.hok b o e).stay (λ_ _ _ q=>q) (λc q=>?_) λc xs q=>?_
     ·rw[aF (ba q na3)];exact q
     ·rw[aF (ba q na3)];exact q
   have Tc:av X pins σ (bL H3 cg (.lst ys)) s4:=I.call' (ch:=fp) J4.os u hok J4.bare λb hb=>⟨(f2 b hb).2.2.2.1,(f2 b hb).2.1,(f2 b hb).2.2.2.2.1,(f2 b hb).2.2.2.2.2⟩;have UP:∃m,s4.heap.Ns C m:=by obtain⟨m,hn,_⟩:=J4.loc;exact⟨m,hn⟩
   exact hR cg C ys H3 s4 Tc UP (I.fpOk (by rw[hAg];exact JD) (by rw[aF (Ne.symm Rq)];exact J4.free)) na3 p
  ·refine Xg (T.item (dz X scope N Y) rfl rfl rfl hc i _ s3 _ H3 (λ_ _=>False) Ip (Ta fr3 NV) G7 go) (λr s4 h4=>?_) λ_ _ z=>z;obtain⟨u,hr,h4⟩:=h4;subst hr;refine Xg h4 (λ_ s5 h5=>?_) λ_ _ z=>z;obtain⟨x,H5,I5,r5,y5,st5,fr5⟩:=h5;have S0:=I5.pinned (Ta fr5 NV) (T.obj _ _ st5);refine Xg (hg _ s5 _ H5 x u _ S0 r5 (step x H5 y5)) (λ_ s6 h6=>?_) λ_ _ z=>z;obtain⟨σ6,H6,I6,q6⟩:=h6;refine Xg (ht _ s6 σ6 H6 _ I6 q6) (λb s7 h7=>?_) λ_ _ z=>z;obtain⟨H7,I7,q7⟩:=h7;have QF:∀{H8:Hp} {σ8:St} {s8:Wr},av (dz X scope N Y) ([(cg,({cls:=.type "list",data:=.seq ao.toArray nn}:Obj))]++pU fp s5.heap) σ8 H8 s8->
     s8.heap.get? cg=some ({cls:=.type "list",data:=.seq ao.toArray nn}:Obj)/\H8 cg=none/\(∀b∈fp,H8 b=none)/\(∀b∈fp,∀o,s5.heap.get? b=some o->s8.heap.get? b=some o):=λ{H8 σ8 s8} K=>by
    have q:=K.pin (cg,({cls:=.type "list",data:=.seq ao.toArray nn}:Obj)) (WJ _ (Yc _ Wi));refine⟨q.1,q.2.1,λb hb=>?_,λb hb o e=>(K.pin (b,o) (WJ _ (WJ _ (iH hb e)))).1⟩;obtain⟨o,e,d⟩:=T.obj _ _ st5 b hb;exact (K.pin (b,o) (WJ _ (WJ _ (iH hb e)))).2.1
   have GN:∀{H8:Hp} {σ8:St} {s8:Wr} {pl:List (Ww×Obj)},av (dz X scope N Y) pl σ8 H8 s8->av (dz X scope N Y) [] σ8 H8 s8:=λK=>K.pins_of λp hp=>absurd hp (by simp);cases b with
   |false=>
    rw[hV (by simp)] at q7;obtain⟨m',hm,w7⟩:=hNx _ _ q7;obtain⟨p1,p2,p3,p4⟩:=QF I7;exact⟨m',hm,i+1,ys,ao,H7,QE (GN I7),T.keep _ _ _ st5 p4,p3,p2,⟨nn,p1⟩,rv3,hz3,w7⟩
   |true=>
    rw[hZ rfl] at q7;refine Xg (he _ s7 σ6 H7 _ I7 q7) (λv s8 h8=>?_) λ_ _ z=>z;obtain⟨y,H8,I8,r8,q8⟩:=h8;obtain⟨m',hm,w8⟩:=hNx _ _ q8;obtain⟨p1,p2,p3,p4⟩:=QF I8;refine wpAny_list_append_plain (items:=ao.toArray) ⟨nn,p1⟩ (λh' UQ sb=>?_) (by rw[Wb,←rv3.length];exact hz3);obtain⟨f0,f1,f2',f3,f4,f5⟩:=S_ (H':=H8) (pl:=[]) p2 (by simp);have I9:av (dz X scope N Y) [] σ6 H8 {s8 with heap:=h'}:=(GN I8).turned (t':=s8.toks) (λb o hb e=>(sb.2 b hb).trans e) f0 f1 f3 f4 f5;refine⟨m',hm,i+1,ys++[y],ao++[v],H8,QE I9,T.keep _ _ _ st5 (λb hb o e=>(sb.2 b (λz=>Ub (z▸hb))).trans (p4 b hb o e)),p3,p2,?_,rv3.append (.cons r8 .nil),?_,w8⟩
    ·rw[show (ao++[v]).toArray=ao.toArray.push v from by simp];exact UQ
    ·rw[V9,Xu];exact yo
 exact codeAny_compStart_list (loop _) (T.self _ _ _ _ _ (T.keep _ _ _ j3 (λb hb o e=>G4 b o e)) (loop _))
theorem p8 {j0:abz}(I:av X pins σ H s)(S:kY j0 X.N scope N js)(ka:X.env.scope=j0) :
  ∃cl:List (Str×Ww),closureFor scope X.env=pure cl/\(∀x c,cl.lookup x=some c->X.env.cells.lookup x=some c)/\∀x,(x,NameKind.free)∈scope.names->∃c,cl.lookup x=some c:=
 yK λx hx=>I.ok.has x (by
  have:=S.free x hx;rw[←ka] at this;exact this)
theorem JO {g:pA->TG}{tt:pA->TT}{te:pA->TE}(j0:abz)(NX N:List Str)(js:List (Option Nat))(hc:X.calm=true)(hi:PI X tg iter wi)(v_:∀Y:pA,PG (dz X scope N Y) tg (g Y)/\B1 (dz X scope N Y) sd (tt Y)/\PE (dz X scope N Y) elt (te Y))(ka:X.env.scope=j0:=by rfl)(JE:X.N=NX:=by rfl)(hS:sJ j0 NX scope N js=true:=by decide+kernel)(hs:∀x,Yf iter X.env x=pure x:=by intro _;rfl):PE X (.ListComp elt [⟨tg,iter,sd,0⟩] scope pos) (QW wi js g tt te):=by
 intro pins s σ H Q I h;have S:kY j0 X.N scope N js:=by rw[JE];exact sJ.to hS
 obtain⟨cl,e1,e2,e3⟩:=p8 I S ka;rw[eval_ListComp];refine wpAny_comprehension_free (use:=none) rfl hs e1 S.kind S.loc (cS (hi pins s σ H _ I h) λv s1 h1=>cS h1 λRn s2 h2=>?_);obtain⟨it,fp,tn,J,H2,e,I2,T,j3,f2,q⟩:=h2;subst e;refine p7 (RR:=λcg C=>compPost (WI X.prog X.w) X.A X.xe none (EP X pins σ Q) cg C) I2 hc T j3 f2 v_ S ka e2 e3 q ?_;intro cg C ys H' s' I' ns fC na p;obtain⟨m,hn⟩:=ns;obtain⟨f0,f1,f2',f3,f4,f5⟩:=fC;exact⟨m,hn,λh' sb=>⟨.ref cg,_,I'.turned (t':=s'.toks) (λb o hb e=>(sb.2 b hb).trans e) f0 f1 f3 f4 f5,rfl,p cg na⟩⟩
theorem D1 {je zW:Pos}{g:pA->TG}{tt:pA->TT}{te:pA->TE}(j0:abz)(NX N:List Str)(js:List (Option Nat))(hN:X.N.Nodup)(hx:X.N[i]? = some x)(hl:GY X.env.scope x)(hc:X.calm=true)(hi:PI X tg iter wi)(v_:∀Y:pA,PG (dz X scope N Y) tg (g Y)/\B1 (dz X scope N Y) sd (tt Y)/\PE (dz X scope N Y) elt (te Y))(ka:X.env.scope=j0:=by rfl)(JE:X.N=NX:=by rfl)(hS:sJ j0 NX scope N js=true:=by decide+kernel)(hw:Z4 (.ListComp elt [⟨tg,iter,sd,0⟩] scope zW) (some (.Name x je)) pos.line X.env=pure true:=by rfl)(hf:X.fn x=true\/X.env.scope.names.lookup x=some .local:=by first|exact .inl rfl|exact .inr rfl|assumption)(hs:∀x,Yf iter X.env x=pure x:=by intro _;rfl) :
  PS X (.Assign [.Name x je] (.ListComp elt [⟨tg,iter,sd,0⟩] scope zW) pos) (Dt (QW wi js g tt te) (wz i)):=by
 intro pins s σ H D I h;have S:kY j0 X.N scope N js:=by rw[JE];exact sJ.to hS
 obtain⟨cl,e1,e2,e3⟩:=p8 I S ka;rw[exec_Assign_Name_used _ _ _ _ hw];refine V3 (aaS (V3 ?_));show Wv _ X.A (do let _ ←comprehension (.ListComp elt [⟨tg,iter,sd,0⟩] scope zW) scope X.env _ (newList []) false (YX iter X.env) (some (assign (.Name x je) X.env))) _ _ s;refine V3 (Xg (wpAny_comprehension_free (use:=some (assign (.Name x je) X.env)) (Q:=λ_ s'=>SP X pins D .next s') rfl hs e1 S.kind S.loc
  (cS (hi pins s σ H _ I h) λv s1 h1=>cS h1 λRn s2 h2=>?_)) (λ_ s' hq=>V8 (V8 hq)) λ_ _ e=>e)
 obtain⟨it,fp,tn,J,H2,e,I2,T,j3,f2,q⟩:=h2;subst e;refine p7 (RR:=λcg C=>compPost (WI X.prog X.w) X.A X.xe (some (assign (.Name x je) X.env)) (λ_ s'=>SP X pins D .next s') cg C) I2 hc T j3 f2 v_ S ka e2 e3 q ?_;intro cg C ys H' s' I' ns fC na p;obtain⟨m,hn⟩:=ns;obtain⟨f0,f1,f2',f3,f4,f5⟩:=fC;show Wv _ X.A (assign (.Name x je) X.env (.ref cg)) _ _ _;refine wpAny_assign_Name (tq I' hN hx hl (v:=.ref cg) rfl (λDi UR US=>?_) hf);obtain⟨a,sb,ha⟩:=US;have aC:C≠a:=by
  rcases ha with ha|ha
  ·rw[ha];exact f1
  ·exact λz=>f4 x a ha z.symm
 refine⟨m,hn.sameBut sb aC,λh' UT=>⟨_,_,UR.turned (t':=Di.toks) (λb o hb e=>(UT.2 b hb).trans e) f0 f1 f3 f4 f5,?_⟩⟩;exact p cg na
def O_ (J:It)(g:TG)(tb:TS)(D:km)(σ:St)(H1:Hp):Prop:=∃W:Nat->Nat->St->Hp->Prop,(∃m,W 0 m σ H1)/\∀i m σ H,W i m σ H->
 (J.stop i H/\D.nx σ H)\/(J.go i H/\∃N:St->Hp->Prop,(∀σ' H',N σ' H'->∃m',m'<m/\W (i+1) m' σ' H')/\∀x H',J.yld i H x H'->g x σ H' λσ2 H2=>tb {D with nx:=N,ct:=N,bk:=D.nx} σ2 H2)
def Pa (wi:TI)(g:TG)(tb:TS):TS:=λD σ H=>wi σ H λJ H1=>O_ J g tb D σ H1
theorem Hy {g:TG}(hp:ab0 (WI X.prog X.w) X.A X.env X.xe)(hc:X.calm=true)(hi:PI X tg iter wi)(hg:PG X tg g)(hb:pR X body tb)(hs:∀x,Yf iter X.env x=pure x:=by intro _;rfl):PS X (.For tg iter body [] pos) (Pa wi g tb):=LG hp hc hi hg hb hs
end L2
namespace L2
inductive D where
 |non|bl (b:Bool)|int (i:Int)|str (x:Str)|tup (xs:List D)|lst (xs:List D)
instance:Inhabited D:=⟨.non⟩
mutual
def aQ (K:Wc)(H:Hp):D->V->Prop
 | .non,v=>v=.non
 | .bl b,v=>v=.bl b
 | .int i,v=>v=.int i
 | .str x,v=>v=.str x
 | .tup ds,v=>∃a xs,v=.ref a/\eZ K H a xs/\eG K H ds xs
 | .lst ds,v=>∃a xs,v=.ref a/\eF K H a xs/\eG K H ds xs
def eG (K:Wc)(H:Hp):List D->List V->Prop
 | [],xs=>xs=[]
 |d::ds,xs=>∃x r,xs=x::r/\aQ K H d x/\eG K H ds r
end
mutual
noncomputable def fV:D->D->Bool
 | .non,.non=>true
 | .bl a,.bl b=>a==b
 | .bl a,.int b=>(if a then 1 else 0)==b
 | .int a,.bl b=>a==(if b then 1 else 0)
 | .int a,.int b=>a==b
 | .str a,.str b=>a==b
 | .tup xs,.tup ys=>f9 xs ys
 | .lst xs,.lst ys=>f9 xs ys
 |_,_=>false
noncomputable def f9:List D->List D->Bool
 | [],[]=>true
 |x::xs,y::ys=>fV x y&&f9 xs ys
 |_,_=>false
end
mutual
noncomputable def cF:D->Nat
 | .tup xs=>dZ xs+1
 | .lst xs=>dZ xs+1
 |_=>0
noncomputable def dZ:List D->Nat
 | []=>0
 |x::xs=>max (cF x) (dZ xs)
end
theorem eG.length {K:Wc}{H:Hp}:∀{ds:List D} {xs:List V},eG K H ds xs->ds.length=xs.length
 | [],_,h=>by unfold eG at h;subst h;rfl
 |d::ds,_,h=>by
  unfold eG at h;obtain⟨x,r,rfl,_,q⟩:=h;rw[Wl,Wl,eG.length q]
theorem eG.get {K:Wc}{H:Hp}:∀{ds:List D} {xs:List V} {i:Nat} {d:D} {x:V},eG K H ds xs->ds[i]? = some d->xs[i]? = some x->aQ K H d x
 | [],_,_,_,_,_,e,_=>by simp at e
 |d::ds,_,i,d',x',h,e1,e2=>by
  unfold eG at h;obtain⟨x,r,rfl,p,q⟩:=h;cases i with
  |zero=>simp at e1 e2;subst e1 e2;exact p
  |succ i=>exact eG.get q (by simpa using e1) (by simpa using e2)
theorem eK:∀{ds:List D} {i:Nat} {d:D},ds[i]? = some d->cF d<=dZ ds
 | [],_,_,e=>by simp at e
 |d::ds,i,d',e=>by
  unfold dZ;cases i with
  |zero=>simp at e;subst e;exact Nat.le_max_left _ _
  |succ i=>exact WD (eK (ds:=ds) (by simpa using e)) (Nat.le_max_right _ _)
noncomputable def cW (xs ys:List D)(j:Nat):Bool:=match xs[j]?,ys[j]? with
 |some a,some b=>fV a b
 |_,_=>true
theorem e_:∀(xs ys:List D),((Xf (min xs.length ys.length)).all (cW xs ys)&&xs.length==ys.length)=f9 xs ys
 | [],[]=>by simp[f9]
 | [],_::_=>by simp[f9]
 |_::_,[]=>by simp[f9]
 |x::xs,y::ys=>by
  have ih:=e_ xs ys;unfold f9;rw[←ih,Wl,Wl,Nat.add_min_add_right,List.range_succ_eq_map,Yj,aaC];have e0:cW (x::xs) (y::ys) 0=fV x y:=rfl;have e1:(cW (x::xs) (y::ys)∘Nat.succ)=cW xs ys:=by funext j;simp[cW,Function.comp]
  rw[e0,e1,Bool.and_assoc];congr 1;congr 1;rw[Xl];simp
theorem p9 {xs ys:List D}(h:xs.length≠ys.length):f9 xs ys=false:=by
 rw[←e_,show (xs.length==ys.length)=false from by simpa using h,aay]
mutual
theorem wF:∀d:D,fV d d=true
 | .non=>rfl
 | .bl b=>by unfold fV;simp
 | .int b=>by unfold fV;simp
 | .str b=>by unfold fV;simp
 | .tup xs=>by unfold fV;exact mR xs
 | .lst xs=>by unfold fV;exact mR xs
theorem mR:∀ds:List D,f9 ds ds=true
 | []=>rfl
 |d::ds=>by unfold f9;rw[wF d,mR ds];rfl
end
theorem Pb {ys:List V}(I:av X pins σ H s)(h:eF X.K H a xs)(h':eZ X.K H a ys):False:=by
 obtain⟨ao,_,p,_⟩:=I.list h;obtain⟨its',_,q,_⟩:=I.tuple h';exact absurd rfl (SeqAt.ne_of_list_tuple p.isList q)
theorem wG (I:av X pins σ H s):∀n d1 d2 x,cF d1<=n->aQ X.K H d1 x->aQ X.K H d2 x->fV d1 d2=true:=by
 have lists:∀n,(∀d1 d2 x,cF d1<=n->aQ X.K H d1 x->aQ X.K H d2 x->fV d1 d2=true)->∀(ds es:List D) (xs:List V),dZ ds<=n->eG X.K H ds xs->eG X.K H es xs->f9 ds es=true:=by
  intro n ih ds
  induction ds with
  |nil=>
   intro es xs _ h1 h2;unfold eG at h1;subst h1;cases es with
   |nil=>rfl
   |cons e es=>unfold eG at h2;obtain⟨x,r,e',_⟩:=h2;cases e'
  |cons d ds ihd=>
   intro es xs hd h1 h2;unfold eG at h1;obtain⟨x,r,rfl,p,q⟩:=h1;cases es with
   |nil=>unfold eG at h2;cases h2
   |cons e es=>
    unfold eG at h2;obtain⟨x',r',e',p',q'⟩:=h2;cases e';unfold dZ at hd;unfold f9;rw[ih d e x (WD (Nat.le_max_left _ _) hd) p p',ihd es r (WD (Nat.le_max_right _ _) hd) q q'];rfl
 intro n
 induction n with
 |zero=>
  intro d1 d2 x hd h1 h2;have fl:∀d,aQ X.K H d x->(∃a,x=.ref a)\/(d=.non/\x=.non)\/(∃b,d=.bl b/\x=.bl b)\/(∃b,d=.int b/\x=.int b)\/∃b,d=.str b/\x=.str b:=λd h=>by
   cases d with
   |non=>unfold aQ at h;exact .inr (.inl ⟨rfl,h⟩)
   |bl b=>unfold aQ at h;exact .inr (.inr (.inl ⟨b,rfl,h⟩))
   |int b=>unfold aQ at h;exact .inr (.inr (.inr (.inl ⟨b,rfl,h⟩)))
   |str b=>unfold aQ at h;exact .inr (.inr (.inr (.inr ⟨b,rfl,h⟩)))
   |tup ds=>unfold aQ at h;obtain⟨a,_,e,_⟩:=h;exact .inl ⟨a,e⟩
   |lst ds=>unfold aQ at h;obtain⟨a,_,e,_⟩:=h;exact .inl ⟨a,e⟩
  have nr:¬∃a,x=.ref a:=λh00=>by
   obtain⟨a,e⟩:=h00;subst e;cases d1 with
   |tup ds=>unfold cF at hd;lia
   |lst ds=>unfold cF at hd;lia
   |_=>unfold aQ at h1;cases h1
  have f1:=fl d1 h1;have f2:=fl d2 h2;rcases f1 with f1|⟨rfl,rfl⟩|⟨b,rfl,rfl⟩|⟨b,rfl,rfl⟩|⟨b,rfl,rfl⟩
  ·exact absurd f1 nr
  all_goals
   rcases f2 with f2|⟨rfl,f2⟩|⟨c,rfl,f2⟩|⟨c,rfl,f2⟩|⟨c,rfl,f2⟩
   ·exact absurd f2 nr
   all_goals first|(cases f2;exact wF _)|cases f2
 |succ n ih=>
  intro d1 d2 x hd h1 h2;cases d1 with
  |tup ds=>
   unfold aQ at h1;obtain⟨a,xs,rfl,hs,hr⟩:=h1;cases d2 with
   |tup es=>
    unfold aQ at h2;obtain⟨a',xs',e,hs',hr'⟩:=h2;cases e;have:=I.tuple_inj hs hs';subst this;unfold fV;exact lists n ih ds es xs (by unfold cF at hd;lia) hr hr'
   |lst es=>
    unfold aQ at h2;obtain⟨a',xs',e,hs',hr'⟩:=h2;cases e;exact (Pb I hs' hs).elim
   |_=>unfold aQ at h2;cases h2
  |lst ds=>
   unfold aQ at h1;obtain⟨a,xs,rfl,hs,hr⟩:=h1;cases d2 with
   |lst es=>
    unfold aQ at h2;obtain⟨a',xs',e,hs',hr'⟩:=h2;cases e;have:=I.list_inj hs hs';subst this;unfold fV;exact lists n ih ds es xs (by unfold cF at hd;lia) hr hr'
   |tup es=>
    unfold aQ at h2;obtain⟨a',xs',e,hs',hr'⟩:=h2;cases e;exact (Pb I hs hs').elim
   |_=>unfold aQ at h2;cases h2
  |_=>exact ih _ d2 x (by unfold cF;exact Yi _) h1 h2
theorem p_ (I:av X pins σ H s):∀(n:Nat) (d1 d2:D) (x y:V) (u v:Wd) (A:W2),cF d1<=n->A.units+n<XG->aQ X.K H d1 x->aQ X.K H d2 y->aM x u->aM y v->YJ A s u v (fV d1 d2):=by
 intro n
 induction n with
 |zero=>
  intro d1 d2 x y u v A hd hu h1 h2 r1 r2;have de:A.units<XG:=(by lia)
  cases d1 with
  |non=>
   unfold aQ at h1;subst h1;cases r1;cases d2 with
   |non=>
    unfold aQ at h2;subst h2;cases r2;exact Z8 _
   |bl b2=>
    unfold aQ at h2;subst h2;cases r2;exact SeqAt.EqAt.none_bool b2
   |int b2=>
    unfold aQ at h2;subst h2;obtain⟨t2,rfl⟩:=r2;exact SeqAt.EqAt.none_int b2 t2
   |str b2=>
    unfold aQ at h2;subst h2;obtain⟨t2,rfl⟩:=r2;exact SeqAt.EqAt.none_str b2 t2
   |tup b2=>
    unfold aQ at h2;obtain⟨a2,xs2,rfl,bK,hr2⟩:=h2;cases r2;obtain⟨its2,fN,p2,jf⟩:=I.tuple bK;exact SeqAt.EqAt.none_tuple p2 de
   |lst b2=>
    unfold aQ at h2;obtain⟨a2,xs2,rfl,bK,hr2⟩:=h2;cases r2;obtain⟨its2,fN,p2,jf⟩:=I.list bK;exact SeqAt.EqAt.none_list p2.isList de
  |bl b1=>
   unfold aQ at h1;subst h1;cases r1;cases d2 with
   |non=>
    unfold aQ at h2;subst h2;cases r2;exact SeqAt.EqAt.bool_none b1
   |bl b2=>
    unfold aQ at h2;subst h2;cases r2;exact SeqAt.EqAt.bool_bool b1 b2
   |int b2=>
    unfold aQ at h2;subst h2;obtain⟨t2,rfl⟩:=r2;exact SeqAt.EqAt.bool_int b1 b2 t2
   |str b2=>
    unfold aQ at h2;subst h2;obtain⟨t2,rfl⟩:=r2;exact SeqAt.EqAt.bool_str b1 b2 t2
   |tup b2=>
    unfold aQ at h2;obtain⟨a2,xs2,rfl,bK,hr2⟩:=h2;cases r2;obtain⟨its2,fN,p2,jf⟩:=I.tuple bK;exact SeqAt.EqAt.bool_tuple b1 p2 de
   |lst b2=>
    unfold aQ at h2;obtain⟨a2,xs2,rfl,bK,hr2⟩:=h2;cases r2;obtain⟨its2,fN,p2,jf⟩:=I.list bK;exact SeqAt.EqAt.bool_list b1 p2.isList de
  |int b1=>
   unfold aQ at h1;subst h1;obtain⟨t1,rfl⟩:=r1;cases d2 with
   |non=>
    unfold aQ at h2;subst h2;cases r2;exact SeqAt.EqAt.int_none b1 t1
   |bl b2=>
    unfold aQ at h2;subst h2;cases r2;exact SeqAt.EqAt.int_bool b1 t1 b2
   |int b2=>
    unfold aQ at h2;subst h2;obtain⟨t2,rfl⟩:=r2;exact abq b1 t1 b2 t2
   |str b2=>
    unfold aQ at h2;subst h2;obtain⟨t2,rfl⟩:=r2;exact abi b1 t1 b2 t2
   |tup b2=>
    unfold aQ at h2;obtain⟨a2,xs2,rfl,bK,hr2⟩:=h2;cases r2;obtain⟨its2,fN,p2,jf⟩:=I.tuple bK;exact SeqAt.EqAt.int_tuple b1 t1 p2 de
   |lst b2=>
    unfold aQ at h2;obtain⟨a2,xs2,rfl,bK,hr2⟩:=h2;cases r2;obtain⟨its2,fN,p2,jf⟩:=I.list bK;exact SeqAt.EqAt.int_list b1 t1 p2.isList de
  |str b1=>
   unfold aQ at h1;subst h1;obtain⟨t1,rfl⟩:=r1;cases d2 with
   |non=>
    unfold aQ at h2;subst h2;cases r2;exact SeqAt.EqAt.str_none b1 t1
   |bl b2=>
    unfold aQ at h2;subst h2;cases r2;exact SeqAt.EqAt.str_bool b1 t1 b2
   |int b2=>
    unfold aQ at h2;subst h2;obtain⟨t2,rfl⟩:=r2;exact abj b1 t1 b2 t2
   |str b2=>
    unfold aQ at h2;subst h2;obtain⟨t2,rfl⟩:=r2;exact SeqAt.EqAt.str_str b1 t1 b2 t2
   |tup b2=>
    unfold aQ at h2;obtain⟨a2,xs2,rfl,bK,hr2⟩:=h2;cases r2;obtain⟨its2,fN,p2,jf⟩:=I.tuple bK;exact SeqAt.EqAt.str_tuple b1 t1 p2 de
   |lst b2=>
    unfold aQ at h2;obtain⟨a2,xs2,rfl,bK,hr2⟩:=h2;cases r2;obtain⟨its2,fN,p2,jf⟩:=I.list bK;exact SeqAt.EqAt.str_list b1 t1 p2.isList de
  |tup ds=>unfold cF at hd;lia
  |lst ds=>unfold cF at hd;lia
 |succ n ih=>
  intro d1 d2 x y u v A hd hu h1 h2 r1 r2;have de:A.units<XG:=(by lia)
  cases d1 with
  |tup ds=>
   unfold aQ at h1;obtain⟨a1,xs1,rfl,kP,hr1⟩:=h1;cases r1;obtain⟨its1,rv1,p1,hz1⟩:=I.tuple kP;cases d2 with
   |non=>
    unfold aQ at h2;subst h2;cases r2;exact SeqAt.EqAt.tuple_none p1 de
   |bl b2=>
    unfold aQ at h2;subst h2;cases r2;exact SeqAt.EqAt.tuple_bool b2 p1 de
   |int b2=>
    unfold aQ at h2;subst h2;obtain⟨t2,rfl⟩:=r2;exact SeqAt.EqAt.tuple_int b2 t2 p1 de
   |str b2=>
    unfold aQ at h2;subst h2;obtain⟨t2,rfl⟩:=r2;exact SeqAt.EqAt.tuple_str b2 t2 p1 de
   |tup es=>
    unfold aQ at h2;obtain⟨a2,xs2,rfl,bK,hr2⟩:=h2;cases r2;obtain⟨its2,fN,p2,jf⟩:=I.tuple bK;by_cases hab:a1=a2
    ·subst hab;rw[wG I (n+1) (.tup ds) (.tup es) (.ref a1) hd (by unfold aQ;exact⟨a1,xs1,rfl,kP,hr1⟩) (by unfold aQ;exact⟨a1,xs2,rfl,bK,hr2⟩)];exact Z8 _
    ·refine abt hab ?_;have l1:its1.toArray.size=ds.length:=by rw[Wb,←rv1.length,hr1.length]
     have l2:its2.toArray.size=es.length:=by rw[Wb,←fN.length,hr2.length]
     have k1:xs1.length=ds.length:=hr1.length.symm;have k2:xs2.length=es.length:=hr2.length.symm;have he:∀j (h1:j<its1.toArray.size) (h2:j<its2.toArray.size),YJ A.in1 s its1.toArray[j] its2.toArray[j] (cW ds es j):=λj g1 g2=>by
      have q1:ds[j]? = some ds[j]:=V4 (by lia);have q2:es[j]? = some es[j]:=V4 (by lia);have e1:xs1[j]? = some xs1[j]:=V4 (by lia);have e2:xs2[j]? = some xs2[j]:=V4 (by lia);obtain⟨u1,z1,w1⟩:=rv1.get e1;obtain⟨u2,z2,w2⟩:=fN.get e2;have y1:its1.toArray[j]=u1:=by
       have:=We.mp z1;obtain⟨_,q⟩:=this;simpa using q
      have y2:its2.toArray[j]=u2:=by
       have:=We.mp z2;obtain⟨_,q⟩:=this;simpa using q
      rw[y1,y2];have:cW ds es j=fV ds[j] es[j]:=by unfold cW;rw[q1,q2]
      rw[this];refine ih ds[j] es[j] xs1[j] xs2[j] u1 u2 A.in1 ?_ (by show A.units+1+n<XG;lia) (hr1.get q1 e1) (hr2.get q2 e2) w1 w2;have:=eK q1;unfold cF at hd;lia
     have q:=abO (A:=A) p1 p2 de he;rw[l1,l2,e_] at q;unfold fV;exact q
   |lst es=>
    unfold aQ at h2;obtain⟨a2,xs2,rfl,bK,hr2⟩:=h2;cases r2;obtain⟨its2,fN,p2,jf⟩:=I.list bK;exact SeqAt.EqAt.tuple_list p1 p2.isList de
  |lst ds=>
   unfold aQ at h1;obtain⟨a1,xs1,rfl,kP,hr1⟩:=h1;cases r1;obtain⟨its1,rv1,p1,hz1⟩:=I.list kP;cases d2 with
   |non=>
    unfold aQ at h2;subst h2;cases r2;exact SeqAt.EqAt.list_none p1.isList de
   |bl b2=>
    unfold aQ at h2;subst h2;cases r2;exact SeqAt.EqAt.list_bool b2 p1.isList de
   |int b2=>
    unfold aQ at h2;subst h2;obtain⟨t2,rfl⟩:=r2;exact SeqAt.EqAt.list_int b2 t2 p1.isList de
   |str b2=>
    unfold aQ at h2;subst h2;obtain⟨t2,rfl⟩:=r2;exact SeqAt.EqAt.list_str b2 t2 p1.isList de
   |tup es=>
    unfold aQ at h2;obtain⟨a2,xs2,rfl,bK,hr2⟩:=h2;cases r2;obtain⟨its2,fN,p2,jf⟩:=I.tuple bK;exact SeqAt.EqAt.list_tuple p1.isList p2 de
   |lst es=>
    unfold aQ at h2;obtain⟨a2,xs2,rfl,bK,hr2⟩:=h2;cases r2;obtain⟨its2,fN,p2,jf⟩:=I.list bK;by_cases hab:a1=a2
    ·subst hab;rw[wG I (n+1) (.lst ds) (.lst es) (.ref a1) hd (by unfold aQ;exact⟨a1,xs1,rfl,kP,hr1⟩) (by unfold aQ;exact⟨a1,xs2,rfl,bK,hr2⟩)];exact Z8 _
    ·refine abt hab ?_;have l1:its1.toArray.size=ds.length:=by rw[Wb,←rv1.length,hr1.length]
     have l2:its2.toArray.size=es.length:=by rw[Wb,←fN.length,hr2.length]
     have k1:xs1.length=ds.length:=hr1.length.symm;have k2:xs2.length=es.length:=hr2.length.symm;have he:∀j (h1:j<its1.toArray.size) (h2:j<its2.toArray.size),YJ A.in1 s its1.toArray[j] its2.toArray[j] (cW ds es j):=λj g1 g2=>by
      have q1:ds[j]? = some ds[j]:=V4 (by lia);have q2:es[j]? = some es[j]:=V4 (by lia);have e1:xs1[j]? = some xs1[j]:=V4 (by lia);have e2:xs2[j]? = some xs2[j]:=V4 (by lia);obtain⟨u1,z1,w1⟩:=rv1.get e1;obtain⟨u2,z2,w2⟩:=fN.get e2;have y1:its1.toArray[j]=u1:=by
       have:=We.mp z1;obtain⟨_,q⟩:=this;simpa using q
      have y2:its2.toArray[j]=u2:=by
       have:=We.mp z2;obtain⟨_,q⟩:=this;simpa using q
      rw[y1,y2];have:cW ds es j=fV ds[j] es[j]:=by unfold cW;rw[q1,q2]
      rw[this];refine ih ds[j] es[j] xs1[j] xs2[j] u1 u2 A.in1 ?_ (by show A.units+1+n<XG;lia) (hr1.get q1 e1) (hr2.get q2 e2) w1 w2;have:=eK q1;unfold cF at hd;lia
     unfold fV;by_cases hl:ds.length=es.length
     ·have q:=SeqAt.RcAt.lists (A:=A) p1.isList p2.isList (by rw[l1,l2,hl]) de he;rw[l1] at q;have z:=e_ ds es;rw[hl,abu,beq_self_eq_true,Bool.and_true] at z;rw[hl,z] at q;exact q
     ·rw[p9 hl];exact abP (A:=A) p1.isList p2.isList (by rw[l1,l2];simpa using hl) de
  |non=>exact ih _ d2 x y u v A (by unfold cF;exact Yi _) (by lia) h1 h2 r1 r2
  |bl b1=>exact ih _ d2 x y u v A (by unfold cF;exact Yi _) (by lia) h1 h2 r1 r2
  |int b1=>exact ih _ d2 x y u v A (by unfold cF;exact Yi _) (by lia) h1 h2 r1 r2
  |str b1=>exact ih _ d2 x y u v A (by unfold cF;exact Yi _) (by lia) h1 h2 r1 r2
theorem L5 (I:av X pins σ H s)(n:Nat)(d1 d2:D)(x y:V)(u v:Wd)(A:W2)(hd:cF d1<=n)(hu:A.units+n<XG)(h1:aQ X.K H d1 x)(h2:aQ X.K H d2 y)(r1:aM x u)(r2:aM y v):SeqAt.RcAt A s u v (fV d1 d2):=by
  have de:A.units<XG:=(by lia)
  cases d1 with
  |non=>
   unfold aQ at h1;subst h1;cases r1;cases d2 with
   |non=>
    unfold aQ at h2;subst h2;cases r2;exact SeqAt.RcAt.none_none
   |bl b2=>
    unfold aQ at h2;subst h2;cases r2;exact SeqAt.RcAt.none_bool b2
   |int b2=>
    unfold aQ at h2;subst h2;obtain⟨t2,rfl⟩:=r2;exact SeqAt.RcAt.none_int b2 t2
   |str b2=>
    unfold aQ at h2;subst h2;obtain⟨t2,rfl⟩:=r2;exact SeqAt.RcAt.none_str b2 t2
   |tup es=>
    unfold aQ at h2;obtain⟨a2,xs2,rfl,bK,hr2⟩:=h2;cases r2;obtain⟨its2,fN,p2,jf⟩:=I.tuple bK;exact SeqAt.RcAt.none_tuple p2 de
   |lst es=>
    unfold aQ at h2;obtain⟨a2,xs2,rfl,bK,hr2⟩:=h2;cases r2;obtain⟨its2,fN,p2,jf⟩:=I.list bK;exact SeqAt.RcAt.none_list p2.isList de
  |bl b1=>
   unfold aQ at h1;subst h1;cases r1;cases d2 with
   |non=>
    unfold aQ at h2;subst h2;cases r2;exact SeqAt.RcAt.bool_none b1
   |bl b2=>
    unfold aQ at h2;subst h2;cases r2;exact SeqAt.RcAt.bool_bool b1 b2
   |int b2=>
    unfold aQ at h2;subst h2;obtain⟨t2,rfl⟩:=r2;exact SeqAt.RcAt.bool_int b1 b2 t2
   |str b2=>
    unfold aQ at h2;subst h2;obtain⟨t2,rfl⟩:=r2;exact SeqAt.RcAt.bool_str b1 b2 t2
   |tup es=>
    unfold aQ at h2;obtain⟨a2,xs2,rfl,bK,hr2⟩:=h2;cases r2;obtain⟨its2,fN,p2,jf⟩:=I.tuple bK;exact SeqAt.RcAt.bool_tuple b1 p2 de
   |lst es=>
    unfold aQ at h2;obtain⟨a2,xs2,rfl,bK,hr2⟩:=h2;cases r2;obtain⟨its2,fN,p2,jf⟩:=I.list bK;exact SeqAt.RcAt.bool_list b1 p2.isList de
  |int b1=>
   unfold aQ at h1;subst h1;obtain⟨t1,rfl⟩:=r1;cases d2 with
   |non=>
    unfold aQ at h2;subst h2;cases r2;exact SeqAt.RcAt.int_none b1 t1
   |bl b2=>
    unfold aQ at h2;subst h2;cases r2;exact SeqAt.RcAt.int_bool b1 t1 b2
   |int b2=>
    unfold aQ at h2;subst h2;obtain⟨t2,rfl⟩:=r2;exact SeqAt.RcAt.int_int b1 t1 b2 t2
   |str b2=>
    unfold aQ at h2;subst h2;obtain⟨t2,rfl⟩:=r2;exact SeqAt.RcAt.int_str b1 t1 b2 t2
   |tup es=>
    unfold aQ at h2;obtain⟨a2,xs2,rfl,bK,hr2⟩:=h2;cases r2;obtain⟨its2,fN,p2,jf⟩:=I.tuple bK;exact SeqAt.RcAt.int_tuple b1 t1 p2 de
   |lst es=>
    unfold aQ at h2;obtain⟨a2,xs2,rfl,bK,hr2⟩:=h2;cases r2;obtain⟨its2,fN,p2,jf⟩:=I.list bK;exact SeqAt.RcAt.int_list b1 t1 p2.isList de
  |str b1=>
   unfold aQ at h1;subst h1;obtain⟨t1,rfl⟩:=r1;cases d2 with
   |non=>
    unfold aQ at h2;subst h2;cases r2;exact SeqAt.RcAt.str_none b1 t1
   |bl b2=>
    unfold aQ at h2;subst h2;cases r2;exact SeqAt.RcAt.str_bool b1 t1 b2
   |int b2=>
    unfold aQ at h2;subst h2;obtain⟨t2,rfl⟩:=r2;exact SeqAt.RcAt.str_int b1 t1 b2 t2
   |str b2=>
    unfold aQ at h2;subst h2;obtain⟨t2,rfl⟩:=r2;exact SeqAt.RcAt.str_str b1 t1 b2 t2
   |tup es=>
    unfold aQ at h2;obtain⟨a2,xs2,rfl,bK,hr2⟩:=h2;cases r2;obtain⟨its2,fN,p2,jf⟩:=I.tuple bK;exact SeqAt.RcAt.str_tuple b1 t1 p2 de
   |lst es=>
    unfold aQ at h2;obtain⟨a2,xs2,rfl,bK,hr2⟩:=h2;cases r2;obtain⟨its2,fN,p2,jf⟩:=I.list bK;exact SeqAt.RcAt.str_list b1 t1 p2.isList de
  |tup ds=>
   unfold aQ at h1;obtain⟨a1,xs1,rfl,kP,hr1⟩:=h1;cases r1;obtain⟨its1,rv1,p1,hz1⟩:=I.tuple kP;cases d2 with
   |non=>
    unfold aQ at h2;subst h2;cases r2;exact SeqAt.RcAt.tuple_none p1 de
   |bl b2=>
    unfold aQ at h2;subst h2;cases r2;exact SeqAt.RcAt.tuple_bool b2 p1 de
   |int b2=>
    unfold aQ at h2;subst h2;obtain⟨t2,rfl⟩:=r2;exact SeqAt.RcAt.tuple_int b2 t2 p1 de
   |str b2=>
    unfold aQ at h2;subst h2;obtain⟨t2,rfl⟩:=r2;exact SeqAt.RcAt.tuple_str b2 t2 p1 de
   |tup es=>
    unfold aQ at h2;obtain⟨a2,xs2,rfl,bK,hr2⟩:=h2;cases r2;obtain⟨its2,fN,p2,jf⟩:=I.tuple bK;have l1:its1.toArray.size=ds.length:=by rw[Wb,←rv1.length,hr1.length]
    have l2:its2.toArray.size=es.length:=by rw[Wb,←fN.length,hr2.length]
    have k1:xs1.length=ds.length:=hr1.length.symm;have k2:xs2.length=es.length:=hr2.length.symm;have he:∀j (h1:j<its1.toArray.size) (h2:j<its2.toArray.size),YJ A.in1 s its1.toArray[j] its2.toArray[j] (cW ds es j):=λj g1 g2=>by
     have q1:ds[j]? = some ds[j]:=V4 (by lia);have q2:es[j]? = some es[j]:=V4 (by lia);have e1:xs1[j]? = some xs1[j]:=V4 (by lia);have e2:xs2[j]? = some xs2[j]:=V4 (by lia);obtain⟨u1,z1,w1⟩:=rv1.get e1;obtain⟨u2,z2,w2⟩:=fN.get e2;have y1:its1.toArray[j]=u1:=by
      obtain⟨_,q⟩:=We.mp z1;simpa using q
     have y2:its2.toArray[j]=u2:=by
      obtain⟨_,q⟩:=We.mp z2;simpa using q
     rw[y1,y2];have:cW ds es j=fV ds[j] es[j]:=by unfold cW;rw[q1,q2]
     rw[this];have dl:=eK q1;unfold cF at hd;exact p_ I (n-1) ds[j] es[j] xs1[j] xs2[j] u1 u2 A.in1 (by lia) (by show A.units+1+(n-1)<XG;lia) (hr1.get q1 e1) (hr2.get q2 e2) w1 w2
    have q:=abO (A:=A) p1 p2 de he;rw[l1,l2,e_] at q;unfold fV;exact q
   |lst es=>
    unfold aQ at h2;obtain⟨a2,xs2,rfl,bK,hr2⟩:=h2;cases r2;obtain⟨its2,fN,p2,jf⟩:=I.list bK;exact SeqAt.RcAt.tuple_list p1 p2.isList de
  |lst ds=>
   unfold aQ at h1;obtain⟨a1,xs1,rfl,kP,hr1⟩:=h1;cases r1;obtain⟨its1,rv1,p1,hz1⟩:=I.list kP;cases d2 with
   |non=>
    unfold aQ at h2;subst h2;cases r2;exact SeqAt.RcAt.list_none p1.isList de
   |bl b2=>
    unfold aQ at h2;subst h2;cases r2;exact SeqAt.RcAt.list_bool b2 p1.isList de
   |int b2=>
    unfold aQ at h2;subst h2;obtain⟨t2,rfl⟩:=r2;exact SeqAt.RcAt.list_int b2 t2 p1.isList de
   |str b2=>
    unfold aQ at h2;subst h2;obtain⟨t2,rfl⟩:=r2;exact SeqAt.RcAt.list_str b2 t2 p1.isList de
   |tup es=>
    unfold aQ at h2;obtain⟨a2,xs2,rfl,bK,hr2⟩:=h2;cases r2;obtain⟨its2,fN,p2,jf⟩:=I.tuple bK;exact SeqAt.RcAt.list_tuple p1.isList p2 de
   |lst es=>
    unfold aQ at h2;obtain⟨a2,xs2,rfl,bK,hr2⟩:=h2;cases r2;obtain⟨its2,fN,p2,jf⟩:=I.list bK;have l1:its1.toArray.size=ds.length:=by rw[Wb,←rv1.length,hr1.length]
    have l2:its2.toArray.size=es.length:=by rw[Wb,←fN.length,hr2.length]
    have k1:xs1.length=ds.length:=hr1.length.symm;have k2:xs2.length=es.length:=hr2.length.symm;have he:∀j (h1:j<its1.toArray.size) (h2:j<its2.toArray.size),YJ A.in1 s its1.toArray[j] its2.toArray[j] (cW ds es j):=λj g1 g2=>by
     have q1:ds[j]? = some ds[j]:=V4 (by lia);have q2:es[j]? = some es[j]:=V4 (by lia);have e1:xs1[j]? = some xs1[j]:=V4 (by lia);have e2:xs2[j]? = some xs2[j]:=V4 (by lia);obtain⟨u1,z1,w1⟩:=rv1.get e1;obtain⟨u2,z2,w2⟩:=fN.get e2;have y1:its1.toArray[j]=u1:=by
      obtain⟨_,q⟩:=We.mp z1;simpa using q
     have y2:its2.toArray[j]=u2:=by
      obtain⟨_,q⟩:=We.mp z2;simpa using q
     rw[y1,y2];have:cW ds es j=fV ds[j] es[j]:=by unfold cW;rw[q1,q2]
     rw[this];have dl:=eK q1;unfold cF at hd;exact p_ I (n-1) ds[j] es[j] xs1[j] xs2[j] u1 u2 A.in1 (by lia) (by show A.units+1+(n-1)<XG;lia) (hr1.get q1 e1) (hr2.get q2 e2) w1 w2
    unfold fV;by_cases hl:ds.length=es.length
    ·have q:=SeqAt.RcAt.lists (A:=A) p1.isList p2.isList (by rw[l1,l2,hl]) de he;rw[l1] at q;have z:=e_ ds es;rw[hl,abu,beq_self_eq_true,Bool.and_true] at z;rw[hl,z] at q;exact q
    ·rw[p9 hl];exact abP (A:=A) p1.isList p2.isList (by rw[l1,l2];simpa using hl) de
theorem D2 (I:av X pins σ H s)(n:Nat)(d1 d2:D)(x y:V)(u v:Wd)(A:W2)(hd:cF d1<=n)(hu:A.units+n<XG)(h1:aQ X.K H d1 x)(h2:aQ X.K H d2 y)(r1:aM x u)(r2:aM y v):SeqAt.RcNeAt A s u v (!fV d1 d2):=by
  have de:A.units<XG:=(by lia)
  cases d1 with
  |non=>
   unfold aQ at h1;subst h1;cases r1;cases d2 with
   |non=>
    unfold aQ at h2;subst h2;cases r2;exact SeqAt.RcNeAt.none_none
   |bl b2=>
    unfold aQ at h2;subst h2;cases r2;exact SeqAt.RcNeAt.none_bool b2
   |int b2=>
    unfold aQ at h2;subst h2;obtain⟨t2,rfl⟩:=r2;exact SeqAt.RcNeAt.none_int b2 t2
   |str b2=>
    unfold aQ at h2;subst h2;obtain⟨t2,rfl⟩:=r2;exact SeqAt.RcNeAt.none_str b2 t2
   |tup es=>
    unfold aQ at h2;obtain⟨a2,xs2,rfl,bK,hr2⟩:=h2;cases r2;obtain⟨its2,fN,p2,jf⟩:=I.tuple bK;exact SeqAt.RcNeAt.none_tuple p2 de
   |lst es=>
    unfold aQ at h2;obtain⟨a2,xs2,rfl,bK,hr2⟩:=h2;cases r2;obtain⟨its2,fN,p2,jf⟩:=I.list bK;exact SeqAt.RcNeAt.none_list p2.isList de
  |bl b1=>
   unfold aQ at h1;subst h1;cases r1;cases d2 with
   |non=>
    unfold aQ at h2;subst h2;cases r2;exact SeqAt.RcNeAt.bool_none b1
   |bl b2=>
    unfold aQ at h2;subst h2;cases r2;exact SeqAt.RcNeAt.bool_bool b1 b2
   |int b2=>
    unfold aQ at h2;subst h2;obtain⟨t2,rfl⟩:=r2;exact SeqAt.RcNeAt.bool_int b1 b2 t2
   |str b2=>
    unfold aQ at h2;subst h2;obtain⟨t2,rfl⟩:=r2;exact SeqAt.RcNeAt.bool_str b1 b2 t2
   |tup es=>
    unfold aQ at h2;obtain⟨a2,xs2,rfl,bK,hr2⟩:=h2;cases r2;obtain⟨its2,fN,p2,jf⟩:=I.tuple bK;exact SeqAt.RcNeAt.bool_tuple b1 p2 de
   |lst es=>
    unfold aQ at h2;obtain⟨a2,xs2,rfl,bK,hr2⟩:=h2;cases r2;obtain⟨its2,fN,p2,jf⟩:=I.list bK;exact SeqAt.RcNeAt.bool_list b1 p2.isList de
  |int b1=>
   unfold aQ at h1;subst h1;obtain⟨t1,rfl⟩:=r1;cases d2 with
   |non=>
    unfold aQ at h2;subst h2;cases r2;exact SeqAt.RcNeAt.int_none b1 t1
   |bl b2=>
    unfold aQ at h2;subst h2;cases r2;exact SeqAt.RcNeAt.int_bool b1 t1 b2
   |int b2=>
    unfold aQ at h2;subst h2;obtain⟨t2,rfl⟩:=r2;exact SeqAt.RcNeAt.int_int b1 t1 b2 t2
   |str b2=>
    unfold aQ at h2;subst h2;obtain⟨t2,rfl⟩:=r2;exact SeqAt.RcNeAt.int_str b1 t1 b2 t2
   |tup es=>
    unfold aQ at h2;obtain⟨a2,xs2,rfl,bK,hr2⟩:=h2;cases r2;obtain⟨its2,fN,p2,jf⟩:=I.tuple bK;exact SeqAt.RcNeAt.int_tuple b1 t1 p2 de
   |lst es=>
    unfold aQ at h2;obtain⟨a2,xs2,rfl,bK,hr2⟩:=h2;cases r2;obtain⟨its2,fN,p2,jf⟩:=I.list bK;exact SeqAt.RcNeAt.int_list b1 t1 p2.isList de
  |str b1=>
   unfold aQ at h1;subst h1;obtain⟨t1,rfl⟩:=r1;cases d2 with
   |non=>
    unfold aQ at h2;subst h2;cases r2;exact SeqAt.RcNeAt.str_none b1 t1
   |bl b2=>
    unfold aQ at h2;subst h2;cases r2;exact SeqAt.RcNeAt.str_bool b1 t1 b2
   |int b2=>
    unfold aQ at h2;subst h2;obtain⟨t2,rfl⟩:=r2;exact SeqAt.RcNeAt.str_int b1 t1 b2 t2
   |str b2=>
    unfold aQ at h2;subst h2;obtain⟨t2,rfl⟩:=r2;exact SeqAt.RcNeAt.str_str b1 t1 b2 t2
   |tup es=>
    unfold aQ at h2;obtain⟨a2,xs2,rfl,bK,hr2⟩:=h2;cases r2;obtain⟨its2,fN,p2,jf⟩:=I.tuple bK;exact SeqAt.RcNeAt.str_tuple b1 t1 p2 de
   |lst es=>
    unfold aQ at h2;obtain⟨a2,xs2,rfl,bK,hr2⟩:=h2;cases r2;obtain⟨its2,fN,p2,jf⟩:=I.list bK;exact SeqAt.RcNeAt.str_list b1 t1 p2.isList de
  |tup ds=>
   unfold aQ at h1;obtain⟨a1,xs1,rfl,kP,hr1⟩:=h1;cases r1;obtain⟨its1,rv1,p1,hz1⟩:=I.tuple kP;cases d2 with
   |non=>
    unfold aQ at h2;subst h2;cases r2;exact SeqAt.RcNeAt.tuple_none p1 de
   |bl b2=>
    unfold aQ at h2;subst h2;cases r2;exact SeqAt.RcNeAt.tuple_bool b2 p1 de
   |int b2=>
    unfold aQ at h2;subst h2;obtain⟨t2,rfl⟩:=r2;exact SeqAt.RcNeAt.tuple_int b2 t2 p1 de
   |str b2=>
    unfold aQ at h2;subst h2;obtain⟨t2,rfl⟩:=r2;exact SeqAt.RcNeAt.tuple_str b2 t2 p1 de
   |tup es=>
    unfold aQ at h2;obtain⟨a2,xs2,rfl,bK,hr2⟩:=h2;cases r2;obtain⟨its2,fN,p2,jf⟩:=I.tuple bK;have l1:its1.toArray.size=ds.length:=by rw[Wb,←rv1.length,hr1.length]
    have l2:its2.toArray.size=es.length:=by rw[Wb,←fN.length,hr2.length]
    have k1:xs1.length=ds.length:=hr1.length.symm;have k2:xs2.length=es.length:=hr2.length.symm;have he:∀j (h1:j<its1.toArray.size) (h2:j<its2.toArray.size),YJ A.in1 s its1.toArray[j] its2.toArray[j] (cW ds es j):=λj g1 g2=>by
     have q1:ds[j]? = some ds[j]:=V4 (by lia);have q2:es[j]? = some es[j]:=V4 (by lia);have e1:xs1[j]? = some xs1[j]:=V4 (by lia);have e2:xs2[j]? = some xs2[j]:=V4 (by lia);obtain⟨u1,z1,w1⟩:=rv1.get e1;obtain⟨u2,z2,w2⟩:=fN.get e2;have y1:its1.toArray[j]=u1:=by
      obtain⟨_,q⟩:=We.mp z1;simpa using q
     have y2:its2.toArray[j]=u2:=by
      obtain⟨_,q⟩:=We.mp z2;simpa using q
     rw[y1,y2];have:cW ds es j=fV ds[j] es[j]:=by unfold cW;rw[q1,q2]
     rw[this];have dl:=eK q1;unfold cF at hd;exact p_ I (n-1) ds[j] es[j] xs1[j] xs2[j] u1 u2 A.in1 (by lia) (by show A.units+1+(n-1)<XG;lia) (hr1.get q1 e1) (hr2.get q2 e2) w1 w2
    have q:=SeqAt.RcNeAt.tuples (A:=A) p1 p2 de he;rw[l1,l2,e_] at q;unfold fV;exact q
   |lst es=>
    unfold aQ at h2;obtain⟨a2,xs2,rfl,bK,hr2⟩:=h2;cases r2;obtain⟨its2,fN,p2,jf⟩:=I.list bK;exact SeqAt.RcNeAt.tuple_list p1 p2.isList de
  |lst ds=>
   unfold aQ at h1;obtain⟨a1,xs1,rfl,kP,hr1⟩:=h1;cases r1;obtain⟨its1,rv1,p1,hz1⟩:=I.list kP;cases d2 with
   |non=>
    unfold aQ at h2;subst h2;cases r2;exact SeqAt.RcNeAt.list_none p1.isList de
   |bl b2=>
    unfold aQ at h2;subst h2;cases r2;exact SeqAt.RcNeAt.list_bool b2 p1.isList de
   |int b2=>
    unfold aQ at h2;subst h2;obtain⟨t2,rfl⟩:=r2;exact SeqAt.RcNeAt.list_int b2 t2 p1.isList de
   |str b2=>
    unfold aQ at h2;subst h2;obtain⟨t2,rfl⟩:=r2;exact SeqAt.RcNeAt.list_str b2 t2 p1.isList de
   |tup es=>
    unfold aQ at h2;obtain⟨a2,xs2,rfl,bK,hr2⟩:=h2;cases r2;obtain⟨its2,fN,p2,jf⟩:=I.tuple bK;exact SeqAt.RcNeAt.list_tuple p1.isList p2 de
   |lst es=>
    unfold aQ at h2;obtain⟨a2,xs2,rfl,bK,hr2⟩:=h2;cases r2;obtain⟨its2,fN,p2,jf⟩:=I.list bK;have l1:its1.toArray.size=ds.length:=by rw[Wb,←rv1.length,hr1.length]
    have l2:its2.toArray.size=es.length:=by rw[Wb,←fN.length,hr2.length]
    have k1:xs1.length=ds.length:=hr1.length.symm;have k2:xs2.length=es.length:=hr2.length.symm;have he:∀j (h1:j<its1.toArray.size) (h2:j<its2.toArray.size),YJ A.in1 s its1.toArray[j] its2.toArray[j] (cW ds es j):=λj g1 g2=>by
     have q1:ds[j]? = some ds[j]:=V4 (by lia);have q2:es[j]? = some es[j]:=V4 (by lia);have e1:xs1[j]? = some xs1[j]:=V4 (by lia);have e2:xs2[j]? = some xs2[j]:=V4 (by lia);obtain⟨u1,z1,w1⟩:=rv1.get e1;obtain⟨u2,z2,w2⟩:=fN.get e2;have y1:its1.toArray[j]=u1:=by
      obtain⟨_,q⟩:=We.mp z1;simpa using q
     have y2:its2.toArray[j]=u2:=by
      obtain⟨_,q⟩:=We.mp z2;simpa using q
     rw[y1,y2];have:cW ds es j=fV ds[j] es[j]:=by unfold cW;rw[q1,q2]
     rw[this];have dl:=eK q1;unfold cF at hd;exact p_ I (n-1) ds[j] es[j] xs1[j] xs2[j] u1 u2 A.in1 (by lia) (by show A.units+1+(n-1)<XG;lia) (hr1.get q1 e1) (hr2.get q2 e2) w1 w2
    unfold fV;by_cases hl:ds.length=es.length
    ·have q:=SeqAt.RcNeAt.lists (A:=A) p1.isList p2.isList (by rw[l1,l2,hl]) de he;rw[l1] at q;have z:=e_ ds es;rw[hl,abu,beq_self_eq_true,Bool.and_true] at z;rw[hl,z] at q;exact q
    ·rw[p9 hl];exact SeqAt.RcNeAt.lists_lengths (A:=A) p1.isList p2.isList (by rw[l1,l2];simpa using hl) de
def L6 (K:Wc)(f:Bool->Bool):R2:=λx y H Q=>∃d1 d2,aQ K H d1 x/\aQ K H d2 y/\cF d1<=30/\Q (.bl (f (fV d1 d2))) H
theorem RZ (hu:X.A.units+64<XG):i9 X (XN .Eq) (L6 X.K id):=by
 intro pins s σ H x y v u Q I rx ry h;obtain⟨d1,d2,h1,h2,hd,q⟩:=h;exact L5 I 30 d1 d2 x y v u X.A hd (by lia) h1 h2 rx ry X.prog X.w X.xe _ ⟨.bl _,H,I,rfl,q⟩
theorem mS (hu:X.A.units+64<XG):i9 X (XN .NotEq) (L6 X.K not):=by
 intro pins s σ H x y v u Q I rx ry h;obtain⟨d1,d2,h1,h2,hd,q⟩:=h;exact D2 I 30 d1 d2 x y v u X.A hd (by lia) h1 h2 rx ry X.prog X.w X.xe _ ⟨.bl _,H,I,rfl,q⟩
end L2
namespace L2
noncomputable def dF (n m:String):Bool:=(n==m)||(n=="bool"&&m=="int")
theorem D3 (K:Wc){n m:String}(hn:n∈["NoneType","bool","int","str","list","tuple","dict"])(hm:m∈["bool","int","str","list","tuple","dict"]) :
  X5 K (.type n) (.type m)=some (dF n m):=by
 simp only[Wn,Ys,or_false] at hn hm;rcases hn with rfl|rfl|rfl|rfl|rfl|rfl|rfl<;>rcases hm with rfl|rfl|rfl|rfl|rfl|rfl<;>kernel_rfl
inductive sL (K:Wc)(H:Hp):V->String->Prop where
 |non:sL K H .non "NoneType"
 |bl (x:Bool):sL K H (.bl x) "bool"
 |int (i:Int):sL K H (.int i) "int"
 |str (x:Str):sL K H (.str x) "str"
 |lst {a:Ww} {xs:List V} (e:H a=some (.lst xs)):sL K H (.ref a) "list"
 |frz {a:Ww} {o:Obj} {xs:List V} (e:H a=some (.frz o (.lst xs))):sL K H (.ref a) "list"
 |tup {a:Ww} {xs:List V} (e:H a=some (.tup xs)):sL K H (.ref a) "tuple"
 |dK {a:Ww} {aN:List (Key×V)} (e:H a=some (.dK aN)):sL K H (.ref a) "dict"
 |dT {a:Ww} {aN:List (List Key×V)} (e:H a=some (.dT aN)):sL K H (.ref a) "dict"
theorem sL.mem {x:V}{n:String}(h:sL K H x n):n∈["NoneType","bool","int","str","list","tuple","dict"]:=by
 cases h<;>simp
theorem sL.ty {x:V}{n:String}(h:sL K H x n):mK K H x (.type n):=by
 cases h with
 |non=>exact .non
 |bl=>exact .bl _
 |int=>exact .int _
 |str=>exact .str _
 |lst e=>exact .lst e
 |frz e=>exact .frz e
 |tup e=>exact .tup e
 |dK e=>exact .dK e
 |dT e=>exact .dT e
theorem wH {m:String}(hm:m∈["bool","int","str","list","tuple","dict"]):cU X (.builtin "isinstance") (λxs H Q=>∃x n,xs=[x,.ty m]/\sL X.K H x n/\Q (.bl (dF n m)) H):=by
 intro pins s σ H xs us Q I r h;obtain⟨x,n,rfl,ty,q⟩:=h;obtain⟨u,w',rfl,rx,rt⟩:=tF r;cases rt;exact BS I rx ty.ty (D3 X.K ty.mem hm) λtk=>⟨.bl _,H,I.tok tk,rfl,q⟩
theorem nX:cU X (.type "range") (λxs H Q=>∃j,xs=[.int j]/\∀p,H p=none->Q (.ref p) (bL H p (.rng 0 j))):=by
 intro pins s σ H xs us Q I r h;obtain⟨j,rfl,q⟩:=h;obtain⟨u,rfl,rx⟩:=gT r;obtain⟨t,rfl⟩:=rx;refine call_range_1 ⟨.ref s.heap.objs.size,bL H s.heap.objs.size (.rng 0 j),I.laid (λb u e=>V7 _ e) (Wf _) ?_,rfl,q _ (I.hok.fresh (Wf _))⟩;exact⟨_,_,_,Wj _ rfl⟩
theorem qb {a:Int}{cg:Array Wd}(h:ItemsOf (λi v=>∃t,v=Value.int (a+i*1) t) cg n):aP ((Xf n).map λi=>V.int (a+(i:Nat))) cg.toList:=by
 obtain⟨hs,hi⟩:=h;have gen:∀(l:List Wd) (k:Nat),(∀(i:Nat) v,l[i]? = some v->∃t,v=Value.int (a+((k+i:Nat):Int)*1) t)->aP ((List.range' k l.length).map λi=>V.int (a+(i:Nat))) l:=by
  intro l
  induction l with
  |nil=>intro k _;exact .nil
  |cons v r ih=>
   intro k hk;rw[Wl,List.range'_succ,V_];refine .cons ?_ (ih (k+1) λi v e=>?_)
   ·obtain⟨t,e⟩:=hk 0 v rfl;exact⟨t,by rw[e];simp⟩
   ·obtain⟨t,e'⟩:=hk (i+1) v (by simpa using e);refine⟨t,?_⟩;rw[e',show k+(i+1)=k+1+i by lia]
 have q:=gen cg.toList 0 (λi v e=>by
  obtain⟨t,e'⟩:=hi i v (by simpa using e);exact⟨t,by rw[e',Zm]⟩)
 rw[Wg,hs] at q;rw[List.range_eq_range'];exact q
theorem sM (hc:X.calm=true):cU X (.type "list") (λxs H Q=>∃p lo hi,xs=[.ref p]/\H p=some (.rng lo hi)/\(-(2 ^ 62)<=lo/\lo<2 ^ 62/\ -(2 ^ 62)<=hi/\hi<2 ^ 62)/\(hi-lo).toNat<=2 ^ 20/\
  ∀l,H l=none->Q (.ref l) (bL H l (.lst ((Xf (hi-lo).toNat).map λi=>V.int (lo+(i:Nat)))))):=by
 intro pins s σ H xs us Q I r h;obtain⟨p,lo,hi,rfl,hp,⟨h1,h2,h3,h4⟩,hz,q⟩:=h;obtain⟨u,rfl,rx⟩:=gT r;cases rx;obtain⟨t,u,v,e⟩:=I.hok p _ hp;refine call_list_range (n:=(hi-lo).toNat) (I.ok.hd hc) (c:=1) (show IsRange s.heap p lo hi 1 t u v from e) (small_one h1 h2 h3 h4) (by rw[rangeSize_one];split<;>lia) (by lia) λh' tk NW c' hk QG pd=>?_;have hl:((Xf (hi-lo).toNat).map λi=>V.int (lo+(i:Nat))).length<=Wa:=by
  rw[V6,Xy,Yg];lia
 refine⟨.ref s.heap.objs.size,_,I.laid hk (Wf _) (show bh X.prog X.w _ _ _ (.lst _) from ⟨hl,NW.toList,c',qb pd,by simpa using QG⟩),rfl,q _ (I.hok.fresh (Wf _))⟩
def D4 (i j:Int):Prop:=0<j/\j<18446744073709551616
theorem yL (h:n<18446744073709551616):n.log2<9000:=by
 by_cases h0:n=0
 ·subst h0;decide
 ·have:=(Nat.log2_lt h0 (k:=64)).mpr (by lia);lia
theorem jN:i9 X (Zf .FloorDiv) (rI D4 λi j=>.int (i / j)):=QU λi j _ _ _ _ _ hc q=>by
 refine floordiv_int (by have:=hc.1;lia) ?_ (.inl (PyProof.noPylong_of_log2 (yL (by have:=hc.1;have:=hc.2;lia))));rw[Int.fdiv_eq_ediv_of_nonneg _ (by have:=hc.1;lia)];exact q
theorem iJ:W6 "list"=some (.type "list"):=by decide+kernel
theorem cY:W6 "tuple"=some (.type "tuple"):=by decide+kernel
theorem Hz:W6 "dict"=some (.type "dict"):=by decide+kernel
theorem uR:W6 "bool"=some (.type "bool"):=by decide+kernel
theorem wI:W6 "range"=some (.type "range"):=by decide+kernel
theorem gb:W6 "len"=some (.builtin "len"):=by decide+kernel
theorem D5:W6 "max"=some (.builtin "max"):=by decide+kernel
theorem uS:W6 "min"=some (.builtin "min"):=by decide+kernel
theorem D6:W6 "abs"=some (.builtin "abs"):=by decide+kernel
theorem eW:W6 "isinstance"=some (.builtin "isinstance"):=by decide+kernel
theorem mT:W6 "sorted"=some (.builtin "sorted"):=by decide+kernel
theorem D7:W6 "all"=some (.builtin "all"):=by decide+kernel
end L2
namespace HT
open L2
section
variable {w:Xt}{A:W2}
theorem getItem_tuple_whole {t sl:Ww}{items:Array Wd}{vl vu:Wd}{lo:Option Int}(ht:IsTup s.heap t items)(hs:s.heap.IsSliceOf sl vl vu .none)(pl:IsPart vl lo)(pu:IsPart vu hi)(hw:sIx items.size 0 lo=0/\sIx items.size items.size hi=items.size)(h:Q (.ref t) s):Wv (WI prog w) A (aa1 (.ref t) (.ref sl)) Q E s:=by
 obtain⟨os,G9,hcs,hds⟩:=id hs;have S2:s.TypeIs (.ref sl) "slice":=⟨os,G9,hcs⟩;unfold aa1
 try with_reducible refine Xp ?_
 first|refine V3 (V8 ?_)|skip
 refine V3 (wpAny_sequenceKey ht.typeIs (by decide) ?_);refine V3 (W_ (name:=XO "__getitem__") ht.typeIs Yh
  (Xe Yh ht.typeIs entry_tuple_getitem ?_ (args_tuple_getitem _ _)))
 show Wv _ _ (ZD (.ref t) >>= _) _ _ s;refine V3 (tupleItemsOf_ ht ?_);refine V3 (aaB S2 ?_);rw[hZ (by decide)];refine V3 (ik hs pl pu ?_);obtain⟨w1,w2⟩:=hw;rw[w1,w2];show Wv _ _ (if (((0:Nat):Int)==0&&(1:Int)==1&&(items.size-0)==items.size)=true then _ else _) _ _ s;rw[hZ (by simp)];have QH:Wv (WI prog w) A.in1 (abd (.ref t)) (λb s'=>b=true/\s'=s) E s:=by
  unfold abd;exact V3 (aaB ht.typeIs (V8 ⟨(by decide),rfl⟩))
 refine V3 (Xg QH (λb s' hb=>?_) λ_ _ e=>e);obtain⟨rfl,rfl⟩:=hb;rw[hZ rfl];exact V3 (YI (V8 ⟨_,rfl,V8 h⟩))
end
end HT
namespace L2
theorem qc (h:H p=none)(o:HO):aG H (bL H p o):=λb u q=>by rw[aF (ba q h)];exact q
section
open AutoSeq1 (wpAny_loadPart')
theorem j5 {w:Xt}{A:W2}{Q:List Wd->Wr->Prop}{r:Ww}{a b c:Int}{t u v:Tok}(hh:A.handled=none)(hr:IsRange s.heap r a b c t u v)(zX:Builtin.Range.small a b c=true)(hn:Z5 a b c=n)(cv:n<=2 ^ 24)(hQ:∀h' tk (cg:Array Wd),(∀b o',s.heap.get? b=some o'->h'.get? b=some o')->ItemsOf (λi v=>∃t,v=.int (a+i*c) t) cg n->Q cg.toList {s with heap:=h',toks:=tk}) :
  Wv (WI prog w) A (collect (.ref r)) Q E s:=by
 unfold collect;refine V3 (wpAny_runValue (Y2 F.entry_proto_collect ?_));rw[Yw F.plain_proto_collect _];show Wv _ A.in1 (newList [] >>= λl=>again (.builtin "list.__iadd__" ⟨[l,.ref r],[]⟩)) _ _ s;refine V3 (WR ?_);refine V8 ⟨plainId_quiet F.plain_list_iadd _,Y2 F.entry_list_iadd ?_⟩;rw[Yw F.plain_list_iadd _];have hS:(s.heap.push {cls:=.type "list",data:=.seq ([]:List Wd).toArray}).get? s.heap.objs.size=some {cls:=.type "list",data:=.seq (List.toArray []) 0}:=Wj _ rfl;show Wv _ A.in1 (aa5 (.ref s.heap.objs.size) (.ref r) (.ref s.heap.objs.size)) _ _ _;refine Xg (wpAny_extend_range (A:=A) (R:=λres s'=>res=.ok (.ret (.ref s.heap.objs.size))/\Wv (WI prog w) A (load s.heap.objs.size >>= λo=>match o.data with|.seq xs _=>pure xs.toList|_=>aa6 "internal:collect") Q E s')
  hh (V7 _ hr) zX hn cv s.heap.objs.size _ 0 hS λh' tk NW c' hk QG pd=>⟨rfl,?_⟩) (λfin s' h=>?_) λe s' h=>absurd h.1 (by simp)
 ·refine V3 (wpAny_load QG (V8 ?_));exact hQ h' tk NW (λb o' hb=>hk b o' (WA (Wq hb)) (V7 _ hb)) pd
 ·cases fin with
  |done f=>
   obtain⟨e,q⟩:=h;cases e;exact q
  |again c'=>exact⟨h.1,ZX h.2 λr Di hr=>by obtain⟨rfl,q⟩:=hr;exact q⟩
theorem i_ (l:Ww)(a b c:Int)(t u v:Tok)(n:Nat)(zX:Builtin.Range.small a b c=true)(hn:Z5 a b c=n)(cv:n<=2 ^ 20) :
  Meets (Builtin.«tuple.__new__» ⟨[.type "tuple",.ref l],[]⟩)
   (λA R s=>A.handled=none/\IsRange s.heap l a b c t u v/\∀(h':Y5) (tk:Nat) (cg:Array Wd),(∀b o',s.heap.get? b=some o'->h'.get? b=some o')->ItemsOf (λi v=>∃t,v=.int (a+i*c) t) cg n->
    R (.ok (.ret (.ref h'.objs.size))) {s with heap:=h'.push {cls:=.type "tuple",data:=.seq cg},toks:=tk}):=
 .of_wp λprog w A R s h=>by
  obtain⟨hp,g,d,tk,os⟩:=s;obtain⟨hh,ht,h⟩:=h;have UU:=sub_tuple_self;have Uc:=init_tuple_lookup;have VY:=madeHere_tuple;have hT:Shared.TypeIs ⟨hp,g,d,tk,os⟩ (.ref l) "range":=⟨_,ht,rfl⟩;wp_walk using aaB hT,j5 (A:=A.in1) hh ht zX hn (by lia);intro h' NY cg hk pd;show Wv _ _ (XC cg.toList.toArray >>= λv=>ret v) _ _ _;unfold XC;refine V3 (WR ?_ (by show cg.toList.toArray.size<=Wa;rw[Yg];simp;have:=pd.1;lia));refine V8 ⟨_,rfl,?_⟩;have e:cg.toList.toArray=cg:=by simp
  rw[e];exact h h' NY cg hk pd
theorem qd (hc:X.calm=true):cU X (.type "tuple") (λxs H Q=>∃p lo hi,xs=[.ref p]/\H p=some (.rng lo hi)/\(-(2 ^ 62)<=lo/\lo<2 ^ 62/\ -(2 ^ 62)<=hi/\hi<2 ^ 62)/\(hi-lo).toNat<=2 ^ 20/\
  ∀l,H l=none->Q (.ref l) (bL H l (.tup ((Xf (hi-lo).toNat).map λi=>V.int (lo+(i:Nat)))))):=by
 intro pins s σ H xs us Q I r h;obtain⟨p,lo,hi,rfl,hp,⟨h1,h2,h3,h4⟩,hz,q⟩:=h;obtain⟨u,rfl,rx⟩:=gT r;cases rx;obtain⟨t,u,v,e⟩:=I.hok p _ hp;refine callType_new F.called_tuple (by decide) (F.typeCall_tuple_1 _) (F.newCall_tuple_1 _) (λobj=>F.args_object_init_2 obj _) F.entry_tuple_new
  (i_ p lo hi 1 t u v (hi-lo).toNat (small_one h1 h2 h3 h4) (by rw[rangeSize_one];split<;>lia) hz) ⟨I.ok.hd hc,e,λh' tk cg hk pd=>⟨⟨_,Wj _ rfl,rfl⟩,?_⟩⟩
 have hl:((Xf (hi-lo).toNat).map λi=>V.int (lo+(i:Nat))).length<=Wa:=by
  rw[V6,Xy,Yg];lia
 have I1:av X pins σ H {s with heap:=h',toks:=tk}:=I.kept hk;refine⟨.ref h'.objs.size,_,I1.laid (t':=tk) (λb o e=>V7 _ e) (Wf _) (show bh X.prog X.w _ _ _ (.tup _) from ⟨hl,cg.toList,qb pd,by simpa using IsTup.new h' cg,0,by simpa using Wj h' rfl⟩),rfl,q _ (I1.hok.fresh (Wf _))⟩
end
end L2
namespace HT
open L2
end HT
namespace L2
def wJ:V->List V->Hp->VK->Prop:=λx vs H Q=>∃l b xs zs,x=.ref l/\vs=[.ref b]/\H l=some (.lst xs)/\H b=some (.tup zs)/\xs.length+zs.length<=Wa/\Q .non (bL H l (.lst (xs++zs)))
theorem yM:Of X "list.extend" wJ:=by
 intro pins s σ H x vs v us Q I rx rv h;obtain⟨l,b,xs,zs,rfl,rfl,hH,hB,hz,q⟩:=h;cases rx;obtain⟨u,rfl,ru⟩:=rv.one;cases ru;obtain⟨z,ao,n,r,hl,e⟩:=I.lstM hH;obtain⟨z2,its2,r2,_,n2,e2⟩:=I.hok b _ hB;have GO:=r2.length;have hsz:ao.toArray.size+its2.toArray.size<=Wa:=by rw[Wb,Wb];lia
 have yn:¬(!ao.toArray.isEmpty&&Yr (ao.toArray.size+its2.toArray.size))=true:=by
  rw[p0 hsz,aay];exact V5
 refine Y_ abr ⟨_,e,rfl⟩ aa3 (aaP _ _)
  (AutoSeq1.list_extend_list_tuple_0 l ao.toArray n b its2.toArray n2 yn (by rw[Wb];lia) (by lia)) ⟨e,e2,?_⟩
 refine⟨.non,_,I.lset (its':=ao++its2) hH e (by simp) (r.append r2) ?_,rfl,q⟩;rw[V9];lia
theorem uT:cU X (.builtin "sorted") (λxs H Q=>∃(p:Ww) (ns:List Int),xs=[.ref p]/\(eF X.K H p (ns.map V.int)\/eZ X.K H p (ns.map V.int))/\ns.length<64/\
  ∀(l:Ww) (uG:List Int),H l=none->uG.Perm ns->uG.Pairwise (·<=·)->Q (.ref l) (bL H l (.lst (uG.map V.int)))):=by
 intro pins s σ H xs us Q I r h;obtain⟨p,ns,rfl,hq,h64,q⟩:=h;obtain⟨u,rfl,rx⟩:=gT r;cases rx;have QI:∃(T:String) (o:Obj) (ao:List Wd) (n:Nat),(T="list"\/T="tuple")/\s.heap.get? p=some o/\o.cls=.type T/\o.data=.seq ao.toArray n/\aa2 ao ns:=by
  rcases hq with hq|hq
  ·obtain⟨ao,rv,pl,hz⟩:=I.list hq;obtain⟨o,e,c,n,d⟩:=pl.isList;exact⟨"list",o,ao,n,.inl rfl,e,c,d,kr rv⟩
  ·obtain⟨ao,rv,pl,hz⟩:=I.tuple hq;obtain⟨o,e,c,n,d⟩:=pl;exact⟨"tuple",o,ao,n,.inr rfl,e,c,d,kr rv⟩
 obtain⟨T,o,ao,n,hT,ho,hc,hd,hI⟩:=QI;have cv:ao.length=ns.length:=hI.length;refine ZK kind_sorted plain_sorted entry_sorted (args_sorted1 _) ?_;unfold Builtin.«sorted»;refine V3 (m:=checkCount "sorted" 1 1 _) (V8 ?_);refine V3 (abQ p hT ho hc hd (λh1 k1=>?_) (by rw[Wb,Yg];lia));refine V3 (wpAny_newList ?_);have Le:(h1.push (abv "list" ao.toArray 0)).get? h1.objs.size=some (abv "list" ao.toArray 0):=Wj _ rfl;have NZ:(h1.push {cls:=.type "list",data:=.seq (ao.toArray.toList).toArray}).get? h1.objs.size=some (abv "list" ao.toArray 0):=by simpa using Le
 refine V3 (Xp (Xe slot_list_sort ⟨_,NZ,rfl⟩ entry_list_sort (list_sort_tree NZ hI (by lia) λout uG a1 a2 a3=>⟨_,rfl,?_⟩) (args_list_sort _)));refine V8 ⟨_,rfl,?_⟩;obtain⟨e,he⟩:=sortedHeap_at (out:=out) NZ;have keep:∀b o,h1.get? b=some o->(sortedHeap (h1.push {cls:=.type "list",data:=.seq (ao.toArray.toList).toArray}) h1.objs.size ao out).get? b=some o:=λb o e=>by
  have hb:=Wq e;rw[sortedHeap_old (WA hb) (by rw[YT];exact aaq hb)];exact V7 _ e
 have I1:av X pins σ H {s with heap:=h1}:=I.kept (t':=s.toks) k1;have GO:(uG.map V.int).length<=Wa:=by rw[V6,a2.length_eq,Yg];lia
 exact⟨.ref h1.objs.size,_,I1.laid (t':=s.toks) keep (Wf _) (show bh X.prog X.w _ _ _ (.lst _) from ⟨GO,out.toList,e,mP a1,by simpa using he⟩),rfl,q _ uG (I1.hok.fresh (Wf _)) a2 a3⟩
theorem B2 {bs:List Bool}{us:List Wd}(r:aP (bs.map V.bl) us){v:Wd}(h:us[i]? = some v):v=.bool (bs.getD i true):=by
 have hl:=r.length;rw[V6] at hl;obtain⟨hi,_⟩:=We.mp h;have e:(bs.map V.bl)[i]? = some (V.bl (bs.getD i true)):=by
  rw[Wu,V4 (by lia)];simp[List.getD,V4 (show i<bs.length by lia)]
 obtain⟨u,hu,ru⟩:=r.get e;rw[h] at hu;cases hu;exact ru
theorem B3 (bs:List Bool):((Xf bs.length).all λi=>bs.getD i true)=bs.all id:=by
 induction bs with
 |nil=>rfl
 |cons b bs ih=>
  rw[Wl,List.range_succ_eq_map,Yj,aaC,Yj];congr 1
theorem tN (hc:X.calm=true):cU X (.builtin "all") (λxs H Q=>∃(p:Ww) (bs:List Bool),xs=[.ref p]/\eF X.K H p (bs.map V.bl)/\Q (.bl (bs.all id)) H):=by
 intro pins s σ H xs us Q I r h;obtain⟨p,bs,rfl,hq,q⟩:=h;obtain⟨u,rfl,rx⟩:=gT r;cases rx;obtain⟨ao,rv,pl,hz⟩:=I.list hq;have hl:=pl.isList;have yo:p<s.heap.objs.size:=by obtain⟨_,e,_⟩:=hl;exact Wq e
 refine call_all_walk (aak hl ?_);refine⟨s.heap.objs.size,_,_,_,_,_,λi=>bs.getD i true,rfl,Walks.list (A:=X.A.in1) (I.ok.hd hc) _ p (WA yo) ao.toArray,⟨⟨_,Wj _ rfl,rfl,rfl⟩,hl.push _⟩,?_,λh' tk hk=>?_⟩
 ·intro i v s' Q' E' hP UW;have e:=B2 rv (i:=i) (v:=v) (by simpa using hP);subst e;exact YY UW
 ·have e:(Xf ao.toArray.size).all (λi=>bs.getD i true)=bs.all id:=by
   rw[Wb,←rv.length,V6];exact B3 bs
  rw[e];refine⟨.bl _,H,I.kept λb o e=>hk b o (λhm=>?_) (V7 _ e),rfl,q⟩;rcases Wn.mp hm with e1|hm
  ·exact absurd (e1▸Wq e) (Yz _)
  ·cases hm
def D8 (K:Wc):V->Option Int->Option Int->Hp->VK->Prop:=λx lo hi H Q=>∃a xs,x=.ref a/\H a=some (.tup xs)/\∀r H',aG H H'->H' r=some (.tup (pY xs lo hi))->Q (.ref r) H'
theorem HA:DF X (D8 X.K):=by
 have base:DF X (OY X.K):=LO;intro pins s σ H x v vl vu lo hi sl Q I rx hs pl pu h;obtain⟨a,xs,rfl,sG,q⟩:=h;have hx:eZ X.K H a xs:=eZ.of sG;by_cases hw:HT.sIx xs.length 0 lo=0/\HT.sIx xs.length xs.length hi=xs.length
 ·cases rx;obtain⟨ao,r,ht,hz⟩:=I.tuple hx;have hl:ao.toArray.size=xs.length:=by rw[Wb,r.length]
  refine⟨"tuple",_,PyProof.Rows.slot_tuple_getitem.lookup,ht.typeIs,HT.getItem_tuple_whole ht hs pl pu (by rw[hl];exact hw) ⟨.ref a,H,I,rfl,q a H (aG.refl _) ?_⟩⟩;have e:pY xs lo hi=xs:=by unfold pY;rw[hw.1,hw.2];simp
  rw[e];exact sG
 ·exact base pins s σ H _ v vl vu lo hi sl Q I rx hs pl pu ⟨a,xs,rfl,hx,hw,λp hp=>q p _ (qc hp _) aH⟩
def D9:R2:=λx y H Q=>∃a b xs ys,x=.ref a/\y=.ref b/\H a=some (.tup xs)/\H b=some (.tup ys)/\xs.length+ys.length<=Wa/\∀r H',aG H H'->H' r=some (.tup (xs++ys))->Q (.ref r) H'
theorem D_:i9 X (Zf .Add) D9:=by
 intro pins s σ H x y v u Q I rx ry h;obtain⟨a,b,xs,ys,rfl,rfl,Dj,hb',hz,q⟩:=h;have ha:eZ X.K H a xs:=eZ.of Dj;have hb:eZ X.K H b ys:=eZ.of hb';by_cases hx:xs=[]
 ·subst hx;cases rx;cases ry;obtain⟨ao,r1,p1,_⟩:=I.tuple ha;obtain⟨its2,r2,p2,_⟩:=I.tuple hb;have e1:ao=[]:=(aP.nil_iff r1).mpr rfl;subst e1;obtain⟨⟨cls,dd,data,sl⟩,ho,hc,n,hd⟩:=id p1;obtain⟨⟨cls2,OA,data2,sl2⟩,ho2,hc2,n2,JG⟩:=id p2;simp only at hc hd hc2 JG;subst hc hd hc2 JG;exact concat_meets ⟨_,ho,rfl⟩ ⟨_,ho2,rfl⟩ noFill_tuple_add seq_tuple_add aai Z7 (ZZ _ _)
   (tuple_addW0 a b ([]:List Wd).toArray its2.toArray n n2 dd OA sl sl2 (by simp)) ⟨ho,ho2,⟨.ref b,H,I,rfl,q b H (aG.refl _) (by simpa using hb')⟩⟩
 ·refine Hq pins s σ H _ _ v u Q I rx ry ⟨a,b,xs,ys,rfl,rfl,ha,hb,hx,hz,λe=>?_,λ_ p hp=>q p _ (qc hp _) aH⟩;subst e;exact q a H (aG.refl _) (by simpa using Dj)
end L2
namespace L2
structure Fn (P:YG)(w:Xt)(K:Wc)(mg:Str->Option Wd)(base:Y5)(x:Str)(k:Nat)(ps:List Str)(sp:Sp):Prop where
 ex:∃(f:Ww) (fd:Zu),mg x=some (.ref f)/\XR K (.ref f)=true/\jm K fd ps []/\iI P w K mg base uQ k f fd ps sp
structure Df (K:Wc)(mg:Str->Option Wd)(x:Str)(st:aaX):Prop where
 ex:∃(f:Ww) (fd:Zu),mg x=some (.ref f)/\G0 K x x st f fd
section
variable {w:Xt}
theorem Df.fn (d:Df K mg x st)(S:aR N ps (aj st))(hb:∀(kV jF pm:Wd) (an:Option Ww) (bC ct:Wd) (us:List Wd),us.length=ps.length->bindArgs (XH x x (dE st) (bH st) (aj st) .none kV jF pm an bC ct) ⟨us,[]⟩=pure (ps.zip us))(len:∀vs H Q E,sp vs H Q E->vs.length=ps.length)(eB:∀(f:Ww) (bC:Wd) (A:W2) (outer:List Env) (s:Wr) (H:Hp) (vs:List V) (Q:VK) (E:XK),dw k (A.deeper (Yq x (aj st) s.heap.objs.size f bC))->sp vs H Q E->
   ∃t,pR (gP uQ P w K mg base N x (aj st) f bC A outer s H E).nox (bH st) t/\t {nx:=λ_ H'=>Q .non H',rt:=Q} (aa0 N vs) H):Fn P w K mg base x (k+1) ps sp:=by
 obtain⟨f,fd,m,F⟩:=d.ex;exact⟨f,fd,m,F.kp,F.binds hb,F.ok S len (eB f)⟩
end
section
variable {p:Pos}{e:X4}{es:List X4}{t:TA}
theorem wK (F:Fn X.prog X.w X.K X.mg X.base x k ps sp)(hr:dw k X.A)(ha:PA X (e::es) t)(hg:Gl X x:=by rfl)(v9:(x==("__debug__":Str))=false:=by decide)
  (he:Wm (e::es) X.env=(false,YX e X.env)::Wm es X.env:=by rfl) (j_:(Yp pos (Wm es X.env)).any (·.1)=false:=by rfl) :
  PE X (.Call (.Name x p) (e::es) [] pos) (Dz sp [] E0 t):=by
 obtain⟨f,fd,hm,hk,hb,G⟩:=F.ex;exact Hl G hr hg hm hk hb .nil O5 ha v9 he j_
end
theorem aG.seqT (e:aG H H')(h:eZ K H a xs):eZ K H' a xs:=by
 rcases h with (h|⟨o,h⟩)|h
 ·exact .inl (.inl (e _ _ h))
 ·exact .inl (.inr ⟨o,e _ _ h⟩)
 ·exact .inr h
mutual
theorem aG.rep {K:Wc}{H H':Hp}(e:aG H H'):∀{d:D} {v:V},aQ K H d v->aQ K H' d v
 | .non,v,h=>by unfold aQ at h ⊢;exact h
 | .bl b,v,h=>by unfold aQ at h ⊢;exact h
 | .int b,v,h=>by unfold aQ at h ⊢;exact h
 | .str b,v,h=>by unfold aQ at h ⊢;exact h
 | .tup ds,v,h=>by
  unfold aQ at h ⊢;obtain⟨a,xs,r,q,z⟩:=h;exact⟨a,xs,r,e.seqT q,aG.reps e z⟩
 | .lst ds,v,h=>by
  unfold aQ at h ⊢;obtain⟨a,xs,r,q,z⟩:=h;exact⟨a,xs,r,e.seq q,aG.reps e z⟩
theorem aG.reps {K:Wc}{H H':Hp}(e:aG H H'):∀{ds:List D} {vs:List V},eG K H ds vs->eG K H' ds vs
 | [],vs,h=>by unfold eG at h ⊢;exact h
 |d::ds,vs,h=>by
  unfold eG at h ⊢;obtain⟨x,r,q,p,z⟩:=h;exact⟨x,r,q,aG.rep e p,aG.reps e z⟩
end
end L2
namespace L2
inductive U where
 |non|bl (b:Bool)|int (i:Int)|str (x:Str)|tup (xs:List U)|lst (xs:List U)|dct (ks vs:List U)|scr (xs:List U)
instance:Inhabited U:=⟨.non⟩
inductive R (α:Type) where
 |ok (a:α)|exc (c:String) (u:U)|stk
noncomputable def R.bind {α β:Type}:R α->(α->R β)->R β
 | .ok a,f=>f a
 | .exc c u,_=>.exc c u
 | .stk,_=>.stk
noncomputable abbrev Ev:=List (Option U)
inductive SR where
 |nx (ρ:Ev)|rt (u:U) (ρ:Ev)|bk (ρ:Ev)|ct (ρ:Ev)|exc (c:String) (u:U)|stk
end L2
variable {us ks:List L2.U}{u s1:L2.U}{es:List (List L2.U×Ww×L2.V)}{ρ:L2.Ev}{sg:L2.U->L2.Ev->L2.R L2.Ev}{a5 a6 a7 a8 a4 a0:Option L2.U}
namespace L2
open Sem (wp)
mutual
noncomputable def uU:U->U->Bool
 | .non,.non=>true
 | .bl a,.bl b=>decide (a=b)
 | .int a,.int b=>decide (a=b)
 | .str a,.str b=>decide (a=b)
 | .tup a,.tup b=>mU a b
 | .lst a,.lst b=>mU a b
 | .dct a b,.dct c d=>mU a c&&mU b d
 | .scr a,.scr b=>mU a b
 |_,_=>false
noncomputable def mU:List U->List U->Bool
 | [],[]=>true
 |x::xs,y::ys=>uU x y&&mU xs ys
 |_,_=>false
end
mutual
theorem Ea:∀{a b:U},uU a b=true->a=b
 | .non,b,h=>by cases b<;>first|rfl|(unfold uU at h;cases h)
 | .bl a,b,h=>by cases b<;>unfold uU at h<;>first|(cases h;done)|rw[of_decide_eq_true h]
 | .int a,b,h=>by cases b<;>unfold uU at h<;>first|(cases h;done)|rw[of_decide_eq_true h]
 | .str a,b,h=>by cases b<;>unfold uU at h<;>first|(cases h;done)|rw[of_decide_eq_true h]
 | .tup a,b,h=>by cases b<;>unfold uU at h<;>first|(cases h;done)|rw[jO h]
 | .lst a,b,h=>by cases b<;>unfold uU at h<;>first|(cases h;done)|rw[jO h]
 | .scr a,b,h=>by cases b<;>unfold uU at h<;>first|(cases h;done)|rw[jO h]
 | .dct a c,b,h=>by
  cases b<;>unfold uU at h<;>first|(cases h;done)|skip
  rw[Wt] at h;rw[jO h.1,jO h.2]
theorem jO:∀{a b:List U},mU a b=true->a=b
 | [],[],_=>rfl
 | [],_::_,h=>by unfold mU at h;cases h
 |_::_,[],h=>by unfold mU at h;cases h
 |x::xs,y::ys,h=>by
  unfold mU at h;rw[Wt] at h;rw[Ea h.1,jO h.2]
end
mutual
theorem wL:∀(a:U),uU a a=true
 | .non=>rfl
 | .bl a=>by unfold uU;exact hG rfl
 | .int a=>by unfold uU;exact hG rfl
 | .str a=>by unfold uU;exact hG rfl
 | .tup a=>by unfold uU;exact fW a
 | .lst a=>by unfold uU;exact fW a
 | .scr a=>by unfold uU;exact fW a
 | .dct a b=>by unfold uU;rw[fW a,fW b];rfl
theorem fW:∀(a:List U),mU a a=true
 | []=>by unfold mU;rfl
 |x::xs=>by unfold mU;rw[wL x,fW xs];rfl
end
noncomputable instance Uw:DecidableEq U:=λa b=>if h:uU a b=true then .isTrue (Ea h) else .isFalse λe=>h (by rw[e];exact wL b)
mutual
def fc (h:Y5):U->Wd->Prop
 | .int i,v=>∃t,v=.int i t
 | .tup us,v=>∃a items,v=.ref a/\h.IsTuple a items/\cI h us items.toList
 |_,_=>False
def cI (h:Y5):List U->List Wd->Prop
 | [],vs=>vs=[]
 |u::us,vs=>∃v r,vs=v::r/\fc h u v/\cI h us r
end
mutual
noncomputable def hK:U->Int
 | .int i=>hashInt i
 | .tup us=>reduceHash (XW (wo us))
 |_=>0
noncomputable def wo:List U->List Int
 | []=>[]
 |u::us=>hK u::wo us
end
mutual
noncomputable def JP:U->Nat
 | .tup us=>mV us+1
 |_=>1
noncomputable def mV:List U->Nat
 | []=>0
 |u::us=>JP u+mV us
end
mutual
noncomputable def yw:U->Nat
 | .tup us=>sN us+1
 |_=>0
noncomputable def sN:List U->Nat
 | []=>0
 |u::us=>max (yw u) (sN us)
end
theorem yN {x y:Array Wd}(h1:h.IsTuple a x)(h2:h.IsTuple a y):x=y:=by
 obtain⟨o,e,_,n,d⟩:=h1;obtain⟨o',e',_,n',d'⟩:=h2;rw[e] at e';cases e';rw[d] at d';cases d';rfl
mutual
theorem fc.inj {h:Y5}:∀{x y:U} {v:Wd},fc h x v->fc h y v->x=y
 | .int i,y,v,h1,h2=>by
  unfold fc at h1;obtain⟨t,rfl⟩:=h1;cases y<;>unfold fc at h2<;>first|exact h2.elim|skip
  ·obtain⟨u,e⟩:=h2;cases e;rfl
  ·obtain⟨_,_,e,_⟩:=h2;cases e
 | .str i,y,v,h1,h2=>by unfold fc at h1;exact h1.elim
 | .tup us,y,v,h1,h2=>by
  unfold fc at h1;obtain⟨a,ao,rfl,q,z⟩:=h1;cases y<;>unfold fc at h2<;>first|exact h2.elim|skip
  ·obtain⟨u,e⟩:=h2;cases e
  ·obtain⟨a',its',e,q',z'⟩:=h2;cases e;have:=yN q q';subst this;rw[cI.inj z z']
 | .non,y,v,h1,h2=>by unfold fc at h1;exact h1.elim
 | .bl _,y,v,h1,h2=>by unfold fc at h1;exact h1.elim
 | .lst _,y,v,h1,h2=>by unfold fc at h1;exact h1.elim
 | .dct _ _,y,v,h1,h2=>by unfold fc at h1;exact h1.elim
 | .scr _,y,v,h1,h2=>by unfold fc at h1;exact h1.elim
theorem cI.inj {h:Y5}:∀{x y:List U} {vs:List Wd},cI h x vs->cI h y vs->x=y
 | [],y,vs,h1,h2=>by
  unfold cI at h1;subst h1;cases y with
  |nil=>rfl
  |cons=>unfold cI at h2;obtain⟨_,_,e,_⟩:=h2;cases e
 |u::us,y,vs,h1,h2=>by
  unfold cI at h1;obtain⟨v,r,rfl,p,q⟩:=h1;cases y with
  |nil=>unfold cI at h2;cases h2
  |cons=>
   unfold cI at h2;obtain⟨v',r',e,p',q'⟩:=h2;cases e;rw[fc.inj p p',cI.inj q q']
end
mutual
theorem fc.keep {h h':Y5}(k:∀a ao,h.IsTuple a ao->h'.IsTuple a ao):∀{x:U} {v:Wd},fc h x v->fc h' x v
 | .int i,v,h1=>by unfold fc at h1 ⊢;exact h1
 | .str i,v,h1=>by unfold fc at h1;exact h1.elim
 | .tup us,v,h1=>by
  unfold fc at h1 ⊢;obtain⟨a,ao,e,q,z⟩:=h1;exact⟨a,ao,e,k a ao q,cI.keep k z⟩
 | .non,v,h1=>by unfold fc at h1;exact h1.elim
 | .bl _,v,h1=>by unfold fc at h1;exact h1.elim
 | .lst _,v,h1=>by unfold fc at h1;exact h1.elim
 | .dct _ _,v,h1=>by unfold fc at h1;exact h1.elim
 | .scr _,v,h1=>by unfold fc at h1;exact h1.elim
theorem cI.keep {h h':Y5}(k:∀a ao,h.IsTuple a ao->h'.IsTuple a ao):∀{x:List U} {vs:List Wd},cI h x vs->cI h' x vs
 | [],vs,h1=>by unfold cI at h1 ⊢;exact h1
 |u::us,vs,h1=>by
  unfold cI at h1 ⊢;obtain⟨v,r,e,p,q⟩:=h1;exact⟨v,r,e,fc.keep k p,cI.keep k q⟩
end
theorem cI.length {h:Y5}:∀{us:List U} {vs:List Wd},cI h us vs->us.length=vs.length
 | [],vs,h1=>by unfold cI at h1;subst h1;rfl
 |u::us,vs,h1=>by
  unfold cI at h1;obtain⟨v,r,rfl,p,q⟩:=h1;rw[Wl,Wl,cI.length q]
theorem cI.get {h:Y5}:∀{us:List U} {vs:List Wd} {i:Nat} {u:U} {v:Wd},cI h us vs->us[i]? = some u->vs[i]? = some v->fc h u v
 | [],_,_,_,_,_,e,_=>by simp at e
 |w::us,_,i,u,v,h,e1,e2=>by
  unfold cI at h;obtain⟨x,r,rfl,p,q⟩:=h;cases i with
  |zero=>simp at e1 e2;subst e1 e2;exact p
  |succ i=>exact cI.get q (by simpa using e1) (by simpa using e2)
theorem k8:∀{us:List U} {i:Nat} {u:U},us[i]? = some u->yw u<=sN us
 | [],_,_,e=>by simp at e
 |w::us,i,u,e=>by
  unfold sN;cases i with
  |zero=>simp at e;subst e;exact Nat.le_max_left _ _
  |succ i=>exact WD (k8 (us:=us) (by simpa using e)) (Nat.le_max_right _ _)
theorem qe:∀(a b:List U),wo (a++b)=wo a++wo b
 | [],b=>by unfold wo;rfl
 |x::a,b=>by rw[ZP,wo,wo,qe a b];rfl
theorem nY:∀(a b:List U),mV (a++b)=mV a+mV b
 | [],b=>by rw[X7];show _=0+_;lia
 |x::a,b=>by rw[ZP,mV,mV,nY a b];lia
section
variable {w:Xt}
theorem L7:∀(n:Nat) (u:U) (v:Wd) (A:W2) (E:Wd->Wr->Prop) (s:Wr) (Q:Int->Wr->Prop),yw u<=n->A.units+n<XG->fc s.heap u v->Q (hK u) {s with toks:=s.toks+JP u} ->
  Wv (WI prog w) A (pyHash v) Q E s:=by
 intro n
 induction n with
 |zero=>
  intro u v A E s Q hd hu hk h;cases u<;>unfold fc at hk<;>first|exact hk.elim|skip
  ·obtain⟨t,rfl⟩:=hk;unfold hK JP at h;exact wpAny_pyHash_int h
  ·unfold yw at hd;lia
 |succ n ih=>
  intro u v A E s Q hd hu hk h;cases u<;>unfold fc at hk<;>first|exact hk.elim|skip
  ·obtain⟨t,rfl⟩:=hk;unfold hK JP at h;exact wpAny_pyHash_int h
  ·rename_i us;unfold yw at hd;obtain⟨a,items,rfl,ht,hi⟩:=hk;have hT:s.TypeIs (.ref a) "tuple":=let ⟨o,e,c,_⟩:=ht;⟨o,e,c⟩
   obtain⟨o,ho,_,nn,hdat⟩:=ht;unfold pyHash
   first|unfold pyHashByItsType|skip
   first|refine V3 (wpAny_cRoomFor_or (.inr (by lia)) ?_)|skip
   refine V3 (aa4 hT F.slot_tuple_hash.lookup ?_);show Wv _ _ (if (some (Value.builtin "tuple.__hash__")==some Value.none)=true then _ else _) Q E s;rw[hV (by rw[beq_builtin_none];exact V5)];refine V3 (aa4 hT F.slot_tuple_hash.lookup ?_);show Wv _ _ (callSpecialIfBoundUnlessNone? (.ref a) "__hash__" _ >>= _) Q E s;refine V3 (wpAny_callSpecialIfBoundUnlessNone?_slot hT F.slot_tuple_hash (Xe F.slot_tuple_hash hT F.entry_tuple_hash ?_ (F.args_tuple_hash_1 _)));show Wv _ _ (ZD (.ref a) >>= _) _ _ s;refine V3 (wpAny_tupleItemsOf ho hdat ?_);refine V3 ?_;rw[←Array.forIn_toList];refine wpAny_forIn_list _
    (λrest (b:Array Int) s'=>∃done left,us=done++left/\cI s.heap left rest/\b.toList=wo done/\s'={s with toks:=s.toks+mV done})
    _ ?_ ?_ _ _ ⟨[],us,rfl,hi,by unfold wo;rfl,by unfold mV;rfl⟩
   ·rintro x rest b s' ⟨done,left,rfl,hl,hb,rfl⟩;cases left with
    |nil=>unfold cI at hl;cases hl
    |cons k ks'=>
     unfold cI at hl;obtain⟨v',r',e,h1,Ln⟩:=hl;cases e;have Td:yw k<=n:=by
      have:=k8 (us:=done++k::ks') (i:=done.length) (u:=k) (by simp);lia
     refine V3 (ih k x A.in1 E _ _ Td (by show A.units+1+n<XG;lia) h1 ?_);have e2:wo (done++[k])=wo done++[hK k]:=by rw[qe];unfold wo wo;rfl
     have e3:mV (done++[k])=mV done+JP k:=by rw[nY];show _+(JP k+mV [])=_;unfold mV;lia
     first
      |exact V8 ⟨done++[k],ks',by simp,Ln,by simp[hb,e2],by simp[e3,Y6]⟩
      |exact V3 (V8 (V8 ⟨done++[k],ks',by simp,Ln,by simp[hb,e2],by simp[e3,Y6]⟩))
   ·rintro b s' ⟨done,left,rfl,hl,hb,rfl⟩;cases left with
    |cons k ks'=>unfold cI at hl;obtain⟨_,_,e,_⟩:=hl;cases e
    |nil=>
     rw[WN] at h;show Wv _ _ (retInt (XW b.toList)) _ _ _;rw[hb];refine wpAny_ret_mkInt ?_;show Wv _ _ (if (decide (-(2:Int) ^ 63<=XW (wo done))&&decide (XW (wo done)<2 ^ 63))=true then _ else _) Q E _;unfold hK JP reduceHash at h;by_cases hr:(decide (-(2:Int) ^ 63<=XW (wo done))&&decide (XW (wo done)<2 ^ 63))=true
     ·rw[hZ hr];rw[hZ hr] at h;exact V8 (by simpa [Y6] using h)
     ·rw[hV hr];rw[hV hr] at h;exact V3 (YI (V8 (by simpa [Y6] using h)))
theorem R0:∀(n:Nat) (x y:U) (u v:Wd) (A:W2),yw x<=n->A.units+n<XG->fc s.heap x u->fc s.heap y v->YJ A s u v (decide (x=y)):=by
 intro n
 induction n with
 |zero=>
  intro x y u v A hd hu h1 h2;have de:A.units<XG:=(by lia)
  cases x<;>(try (unfold fc at h1;exact h1.elim))
  case int i=>
   unfold fc at h1;obtain⟨t,rfl⟩:=h1;cases y<;>(try (unfold fc at h2;exact h2.elim))
   case int j=>
    unfold fc at h2;obtain⟨t',rfl⟩:=h2;have:=abq (A:=A) (s:=s) i t j t';have e:decide (U.int i=U.int j)=(i==j):=by rw[Xl];simp
    rw[e];exact this
   case tup us=>
    unfold fc at h2;obtain⟨a,ao,rfl,ht,_⟩:=h2;rw[hJ (by intro z;cases z)];exact SeqAt.EqAt.int_tuple i t ht de
  case tup us=>unfold yw at hd;lia
 |succ n ih=>
  intro x y u v A hd hu h1 h2;have de:A.units<XG:=(by lia)
  cases x<;>(try (unfold fc at h1;exact h1.elim))
  case int i=>exact ih _ y u v A (by unfold yw;lia) (by lia) h1 h2
  case tup us=>
   unfold yw at hd;have QJ:=h1;unfold fc at h1;obtain⟨a,ao,rfl,p1,z1⟩:=h1;cases y<;>(try (unfold fc at h2;exact h2.elim))
   case int j=>
    unfold fc at h2;obtain⟨t',rfl⟩:=h2;rw[hJ (by intro z;cases z)];exact SeqAt.EqAt.tuple_int j t' p1 de
   case tup ws=>
    have Lf:=h2;unfold fc at h2;obtain⟨b,its2,rfl,p2,z2⟩:=h2;by_cases hab:a=b
    ·subst hab;rw[fc.inj QJ Lf,hG rfl];exact Z8 _
    ·refine abt hab ?_;have l1:ao.size=us.length:=by rw[z1.length,Wg]
     have l2:its2.size=ws.length:=by rw[z2.length,Wg]
     have he:∀j (g1:j<ao.size) (g2:j<its2.size),YJ A.in1 s ao[j] its2[j] (decide (us[j]? = ws[j]?)):=λj g1 g2=>by
      have q1:us[j]? = some us[j]:=V4 (by lia);have q2:ws[j]? = some ws[j]:=V4 (by lia);have y1:ao.toList[j]? = some ao[j]:=by rw[WX];exact YU g1
      have y2:its2.toList[j]? = some its2[j]:=by rw[WX];exact YU g2
      have e:decide (us[j]? = ws[j]?)=decide (us[j]=ws[j]):=by rw[q1,q2,Xl];simp
      rw[e];refine ih us[j] ws[j] ao[j] its2[j] A.in1 ?_ (by show A.units+1+n<XG;lia) (z1.get q1 y1) (z2.get q2 y2);have:=k8 q1;lia
     have q:=abO (A:=A) p1 p2 de he;rw[l1,l2] at q;have fin:((Xf (min us.length ws.length)).all (λj=>decide (us[j]? = ws[j]?))&&us.length==ws.length)=decide (U.tup us=U.tup ws):=by
      rw[Xl,Wt,WT,decide_eq_true_eq];constructor
      ·rintro⟨ha,hl⟩;have hl:us.length=ws.length:=by simpa using hl
       congr 1;refine aar λj=>?_;by_cases hj:j<us.length
       ·exact of_decide_eq_true (ha j (abA.mpr (by lia)))
       ·rw[Xz.mpr (by lia),Xz.mpr (by lia)]
      ·intro e;cases e;exact⟨λj _=>hG rfl,by simp⟩
     rw[←fin];exact q
theorem HB:∀(n:Nat) (x:U) (v:Wd) (A:W2) (E:Wd->Wr->Prop) (s:Wr) (Q:Bool->Wr->Prop),yw x<=n->fc s.heap x v->Q true s->Wv (WI prog w) A (eqIsQuiet n v) Q E s:=by
 intro n
 induction n with
 |zero=>
  intro x v A E s Q hd hk h;cases x<;>unfold fc at hk<;>first|exact hk.elim|skip
  ·obtain⟨t,rfl⟩:=hk;rw[eqIsQuiet_byValue _ rfl];exact V8 h
  ·unfold yw at hd;lia
 |succ n ih=>
  intro x v A E s Q hd hk h;cases x<;>unfold fc at hk<;>first|exact hk.elim|skip
  ·obtain⟨t,rfl⟩:=hk;rw[eqIsQuiet_byValue _ rfl];exact V8 h
  ·rename_i us;unfold yw at hd;obtain⟨a,items,rfl,ht,hi⟩:=hk;have hT:s.TypeIs (.ref a) "tuple":=let ⟨o,e,c,_⟩:=ht;⟨o,e,c⟩
   obtain⟨o,ho,_,nn,hdat⟩:=ht;unfold eqIsQuiet;refine V3 (aa4 hT F.slot_tuple_eq.lookup ?_);show Wv _ _ (isInstance (.ref a) (.type "tuple") >>= _) _ _ s;refine V3 (aaJ hT isSubtype_tuple_tuple ?_);simp only[Xo,Xj,if_false];refine V3 (Yk ho hdat ?_);refine V3 ?_;show Wv _ _ (forIn items _ _) _ _ s;rw[←Array.forIn_toList];refine wpAny_forIn_list _ (λrest r s'=>r.1=none/\s'=s/\∃done left,us=done++left/\cI s.heap left rest) _ ?_ ?_ _ _ ⟨rfl,rfl,[],us,rfl,hi⟩
   ·rintro v rest r s' ⟨hr,rfl,done,left,rfl,hl⟩;cases left with
    |nil=>unfold cI at hl;cases hl
    |cons k ks'=>
     unfold cI at hl;obtain⟨v',r',e,h1,Ln⟩:=hl;cases e;have Td:yw k<=n:=by
      have:=k8 (us:=done++k::ks') (i:=done.length) (u:=k) (by simp);lia
     refine V3 (ih k v A E _ _ Td h1 ?_);simp only[Xo,Xj,if_false];exact V8 ⟨rfl,rfl,done++[k],ks',by simp,Ln⟩
   ·rintro⟨r1,r2⟩ s' ⟨hr,rfl,_⟩;simp only at hr;subst hr;exact V8 h
def TK (h:Y5)(us:List U)(a:Ww):Prop:=sN us<=6/\∃items,h.IsTuple a items/\cI h us items.toList
theorem TK.is (x:TK h us a):yw (.tup us)<=7/\fc h (.tup us) (.ref a):=by
 obtain⟨l,ao,t,z⟩:=x;exact⟨by unfold yw;lia,by unfold fc;exact⟨a,ao,rfl,t,z⟩⟩
theorem k9 {x y:List U}:(U.tup x=U.tup y)↔x=y:=⟨λh=>by cases h;rfl,λh=>by rw[h]⟩
noncomputable def ff (prog:YG)(w:Xt):HeapKind prog w (List U) where
 is:=TK
 hash:=λus=>hK (.tup us)
 draws:=λus=>JP (.tup us)
 room:=λA=>A.units+20<XG
 inj:=λhx hy=>k9.mp (fc.inj hx.is.2 hy.is.2)
 keeps:=λ{h h' k a d o es ep} x ho hd hs=>by
  have kp:∀b ao,h.IsTuple b ao->h'.IsTuple b ao:=λb ao h00=>by
   obtain⟨o',e,c,n,z⟩:=h00;have GP:b≠d:=by
    rintro rfl;obtain rfl:o'=o:=WS (e.symm.trans ho);rw[hd] at z;exact nomatch z
   exact⟨o',(hs.2 b GP).trans e,c,n,z⟩
  obtain⟨l,ao,t,z⟩:=x;exact⟨l,ao,kp _ _ t,z.keep kp⟩
 pyHash:=λ{A E s k a Q} hu hk h=>L7 7 (.tup k) (.ref a) A E s Q hk.is.1 (by lia) hk.is.2 h
 eqBool:=λ{A E s x y a b Q} hu hx hy h=>R0 7 (.tup x) (.tup y) (.ref a) (.ref b) A hx.is.1 (by lia) hx.is.2 hy.is.2 prog w E Q (by
  have e:decide (U.tup x=U.tup y)=decide (x=y):=by rw[Xl,decide_eq_true_eq,decide_eq_true_eq];exact k9
  rw[e];exact h)
 quiet:=λ{A E s k a Q} hk h=>HB 8 (.tup k) (.ref a) A E s Q (WD hk.is.1 (by lia)) hk.is.2 h
end
def Eb (p:List U×Ww×V)(q:List U×Ww×Wd):Prop:=p.1=q.1/\p.2.1=q.2.1/\aM p.2.2 q.2.2
noncomputable def Pc (e:List U×Ww×Wd):abJ:=⟨hK (.tup e.1),.ref e.2.1,e.2.2⟩
def Pd (a:Ww)(ep:Nat)(es:List (List U×Ww×V))(h:Y5):Prop:=(a==XM)=false/\∃o ds,∃xs:List (List U×Ww×Wd),h.get? a=some o/\o.ExactDict/\o.data=.dict ds ep/\ZI Eb es xs/\ds.toList=xs.map Pc
noncomputable def DN (a:Ww)(ep:Nat)(es:List (List U×Ww×V)):HO:=.ext (Pd a ep es)
mutual
def KH (H:Hp):U->V->Prop
 | .int i,v=>v=.int i
 | .tup us,v=>∃b ys,v=.ref b/\H b=some (.tup ys)/\us.length<=Wa/\qf H us ys
 |_,_=>False
def qf (H:Hp):List U->List V->Prop
 | [],vs=>vs=[]
 |u::us,vs=>∃v r,vs=v::r/\KH H u v/\qf H us r
end
mutual
theorem KH.to {H H':Hp}(e:∀b ys,H b=some (.tup ys)->H' b=some (.tup ys)):∀{u:U} {v:V},KH H u v->KH H' u v
 | .int i,v,h=>by unfold KH at h ⊢;exact h
 | .tup us,v,h=>by
  unfold KH at h ⊢;obtain⟨b,ys,r,q,l,z⟩:=h;exact⟨b,ys,r,e b ys q,l,qf.to e z⟩
 | .non,v,h=>by unfold KH at h;exact h.elim
 | .bl _,v,h=>by unfold KH at h;exact h.elim
 | .str _,v,h=>by unfold KH at h;exact h.elim
 | .lst _,v,h=>by unfold KH at h;exact h.elim
 | .dct _ _,v,h=>by unfold KH at h;exact h.elim
 | .scr _,v,h=>by unfold KH at h;exact h.elim
theorem qf.to {H H':Hp}(e:∀b ys,H b=some (.tup ys)->H' b=some (.tup ys)):∀{us:List U} {vs:List V},qf H us vs->qf H' us vs
 | [],vs,h=>by unfold qf at h ⊢;exact h
 |u::us,vs,h=>by
  unfold qf at h ⊢;obtain⟨v,r,q,p,z⟩:=h;exact⟨v,r,q,KH.to e p,qf.to e z⟩
end
section
variable {w:Xt}
mutual
theorem KH.is (ok:ig P w H h):∀{u:U} {v:V} {x:Wd},KH H u v->aM v x->fc h u x
 | .int i,v,x,k,r=>by
  unfold KH at k;subst k;obtain⟨t,rfl⟩:=r;unfold fc;exact⟨t,rfl⟩
 | .tup us,v,x,k,r=>by
  unfold KH at k;obtain⟨b,ys,rfl,q,_,z⟩:=k;cases r;obtain⟨_,ao,rv,it,_⟩:=ok b _ q;unfold fc;exact⟨b,ao.toArray,rfl,it,by simpa using qf.is ok z rv⟩
 | .non,v,x,k,r=>by unfold KH at k;exact k.elim
 | .bl _,v,x,k,r=>by unfold KH at k;exact k.elim
 | .str _,v,x,k,r=>by unfold KH at k;exact k.elim
 | .lst _,v,x,k,r=>by unfold KH at k;exact k.elim
 | .dct _ _,v,x,k,r=>by unfold KH at k;exact k.elim
 | .scr _,v,x,k,r=>by unfold KH at k;exact k.elim
theorem qf.is (ok:ig P w H h):∀{us:List U} {vs:List V} {xs:List Wd},qf H us vs->aP vs xs->cI h us xs
 | [],vs,xs,k,r=>by
  unfold qf at k;subst k;cases r;unfold cI;rfl
 |u::us,vs,xs,k,r=>by
  unfold qf at k;obtain⟨v,vr,rfl,p,z⟩:=k;cases r with
  |cons r1 r2=>
   unfold cI;exact⟨_,_,rfl,KH.is ok p r1,qf.is ok z r2⟩
end
def oS (H:Hp)(us:List U)(b:Ww):Prop:=sN us<=6/\∃ys,H b=some (.tup ys)/\us.length<=Wa/\qf H us ys
theorem oS.tk (ok:ig P w H h)(k:oS H us b):TK h us b:=by
 obtain⟨l,ys,q,_,z⟩:=k;obtain⟨_,ao,rv,it,_⟩:=ok b _ q;exact⟨l,ao.toArray,it,by simpa using qf.is ok z rv⟩
theorem oS.to (e:∀b ys,H b=some (.tup ys)->H' b=some (.tup ys))(k:oS H us b):oS H' us b:=by
 obtain⟨l,ys,q,n,z⟩:=k;exact⟨l,ys,e b ys q,n,z.to e⟩
structure gc (H:Hp)(a:Ww)(es:List (List U×Ww×V)):Prop where
 ob:(∃ep,H a=some (DN a ep es))\/(es=[]/\H a=some (.dK []))
 nd:(es.map (·.1)).Nodup
 key:∀e∈es,oS H e.1 e.2.1
theorem qg {α β:Type}{R:α->β->Prop}:∀{xs:List α} {ys:List β} {y:β},ZI R xs ys->y∈ys->∃x∈xs,R x y
 |_,_,_,.nil,h=>by cases h
 |x::xs,y'::ys,y,.cons r t,h=>by
  rcases Wn.mp h with e|h
  ·subst e;exact⟨x,Wi,r⟩
  ·obtain⟨x',m,q⟩:=qg t h;exact⟨x',Wh _ m,q⟩
theorem qh:∀{es:List (List U×Ww×V)} {xs:List (List U×Ww×Wd)},ZI Eb es xs->es.map (·.1)=xs.map (·.1)
 |_,_,.nil=>rfl
 |_::_,_::_,.cons r t=>by rw[V_,V_,qh t,r.1]
theorem gc.of (ok:ig P w H h)(d:gc H a es):∃xs,ZI Eb es xs/\h.DictOfH (ff P w) a xs:=by
 rcases d.ob with⟨ep,q⟩|⟨e,q⟩
 ·obtain⟨⟨_,o,ds,xs,h1,h2,h3,h4,h5⟩,_⟩:=ok a _ q;refine⟨xs,h4,o,ds,ep,h1,h2,h3,h5,λx hx=>?_,by rw[←qh h4];exact d.nd⟩;obtain⟨e,he,r⟩:=qg h4 hx;have:=(d.key e he).tk ok;rw[r.1,r.2.1] at this;exact this
 ·subst e;obtain⟨_,_,vs,rel,dd⟩:=ok a _ q;cases rel;obtain⟨o,ds,ep,h1,h2,h3,h4,h5,h6⟩:=dd;have e0:ds.toList=[]:=by
   generalize ds.toList=l at h5;cases h5;rfl
  exact⟨[],.nil,o,ds,ep,h1,h2,h3,by rw[e0];rfl,(λx hx=>by cases hx),YV⟩
theorem gc.lo (ok:ig P w H h)(d:gc H a es):(a==XM)=false:=by
 rcases d.ob with⟨ep,q⟩|⟨e,q⟩
 ·obtain⟨⟨l,_⟩,_⟩:=ok a _ q;exact l
 ·obtain⟨_,l,_⟩:=ok a _ q;exact l
noncomputable def ky (es:List (List U×Ww×V))(k:List U):Option V:=(es.find? λe=>decide (e.1=k)).map (·.2.2)
noncomputable def gd (es:List (List U×Ww×V))(k:List U)(b:Ww)(v:V):List (List U×Ww×V):=
 if (ky es k).isSome then es.map (λe=>if e.1=k then (e.1,e.2.1,v) else e) else es++[(k,b,v)]
theorem il (k:List U):∀{es:List (List U×Ww×V)} {xs:List (List U×Ww×Wd)},ZI Eb es xs->kl (ky es k) ((atKey xs k).map (·.2))
 |_,_,.nil=>trivial
 |e::es,x::xs,.cons r t=>by
  have ih:=il k t;unfold ky atKey at ih ⊢;rw[XU,XU];by_cases c:e.1=k
  ·have c':x.1=k:=by rw[←r.1];exact c
   rw[hG c,hG c'];exact r.2.2
  ·have c':¬x.1=k:=by rw[←r.1];exact c
   rw[hJ c,hJ c'];exact ih
theorem qi (k:List U){u:Wd}(rv:aM v u){xs:List (List U×Ww×Wd)}(p:ZI Eb es xs):ZI Eb (gd es k b v) (storedH xs k b u):=by
 have e:(ky es k).isSome=(atKey xs k).isSome:=by
  have:=(il k p).isSome_eq;rw[Y1] at this;exact this
 unfold gd storedH;rw[e];split
 ·rename_i hh;clear hh e
  induction p with
  |nil=>exact .nil
  | @cons q x es xs r t ih=>
   refine .cons ?_ ih;unfold putAt;dsimp only;by_cases c:q.1=k
   ·have c':x.1=k:=by rw[←r.1];exact c
    rw[hZ c,hZ c'];exact⟨r.1,r.2.1,rv⟩
   ·have c':¬x.1=k:=by rw[←r.1];exact c
    rw[hV c,hV c'];exact r
 ·rename_i hh;clear hh e
  induction p with
  |nil=>exact .cons ⟨rfl,rfl,rv⟩ .nil
  |cons r t ih=>exact .cons r ih
end
section
variable {d:V}{r:Wd}{k:List U}{A:W2}
theorem qj (hu:A.units+64<XG):(ff X.prog X.w).room A.in1:=by show A.units+1+20<XG;lia
theorem B4 (hu:A.units+64<XG)(I:av X pins σ H s)(g:gc H a es)(kb:oS H k b)(e:ky es k=some v)(h:∀w' s',av X pins σ H s'->aM v w'->Q w' s') :
  Wv (WI X.prog X.w) A (aa1 (.ref a) (.ref b)) Q E s:=by
 obtain⟨xs,rel,dd⟩:=g.of I.hok;obtain⟨w',hw,yp⟩:=kl.some_of (v:=v) (o:=(atKey xs k).map (·.2)) (by rw[←e];exact il k rel);obtain⟨p,hp,C8⟩:=Option.map_eq_some_iff.mp hw;refine wpAny_getItem_heap (qj hu) (kb.tk I.hok) dd hp ?_;rw[C8];exact h w' _ (I.tok _) yp
theorem R1 (hu:A.units+64<XG)(I:av X pins σ H s)(g:gc H a es)(kb:oS H k b)(h:∀s',av X pins σ H s'->Q (.bool (ky es k).isSome) s') :
  Wv (WI X.prog X.w) A (XN .In (.ref b) (.ref a)) Q E s:=by
 obtain⟨xs,rel,dd⟩:=g.of I.hok;refine wpAny_in_heap (qj hu) (kb.tk I.hok) (g.lo I.hok) dd ?_;have q:=(il k rel).isSome_eq;rw[Y1] at q;rw[←q];exact h _ (I.tok _)
theorem HC (hu:A.units+64<XG)(I:av X pins σ H s)(g:gc H a es)(kb:oS H k b)(h:∀s',av X pins σ H s'->Q (.bool (!(ky es k).isSome)) s') :
  Wv (WI X.prog X.w) A (XN .NotIn (.ref b) (.ref a)) Q E s:=by
 obtain⟨xs,rel,dd⟩:=g.of I.hok;refine wpAny_notIn_heap (qj hu) (kb.tk I.hok) (g.lo I.hok) dd ?_;have q:=(il k rel).isSome_eq;rw[Y1] at q;rw[←q];exact h _ (I.tok _)
theorem L8 (hu:A.units+64<XG)(I:av X pins σ H s)(g:gc H a es)(kb:oS H k b)(rd:aM d r)(h:∀w' s',av X pins σ H s'->aM ((ky es k).getD d) w'->Q w' s') :
  Wv (WI X.prog X.w) A (call (.builtin "dict.get") [.ref a,.ref b,r]) Q E s:=by
 obtain⟨xs,rel,dd⟩:=g.of I.hok;exact call_meetsIn Zl dd.typeIs aaj (Z_ _ _ _) (meetsH_dict_get_default (ff X.prog X.w) a b (g.lo I.hok) r) ⟨qj hu,k,xs,kb.tk I.hok,dd,h _ _ (I.tok _) ((il k rel).getD rd)⟩
theorem gc.typeIs (I:av X pins σ H s)(g:gc H a es):s.TypeIs (.ref a) "dict":=by
 obtain⟨xs,rel,dd⟩:=g.of I.hok;exact dd.typeIs
theorem gc.noDict (I:av X pins σ H s)(g:gc H a es):∀b,Value.ref a=.ref b->∃ob,s.heap.get? b=some ob/\ob.dict=none:=λb q=>by
 cases q;obtain⟨xs,rel,ob,_,_,h1,h2,_⟩:=g.of I.hok;exact⟨ob,h1,h2.2.1⟩
theorem gc.mut (g:gc H a es):Oe (H a):=by
 rcases g.ob with⟨ep,q⟩|⟨_,q⟩<;>(rw[q];exact True.intro)
theorem B5 {Q:Unit->Wr->Prop}(hu:A.units+64<XG)(I:av X pins σ H s)(g:gc H a es)(kb:oS H k b)(hz:es.length<=Wa)(rv:aM v r)(h:∀ep s',av X pins σ (bL H a (DN a ep (gd es k b v))) s'->Q () s') :
  Wv (WI X.prog X.w) A (setItem (.ref a) (.ref b) r) Q E s:=by
 obtain⟨xs,rel,dd⟩:=g.of I.hok;refine wpAny_setItem_heap (hsz:=by rw[←Zv rel];exact hz) (qj hu) (kb.tk I.hok) dd λh' Lc hs=>?_;obtain⟨q,ds,ep,hq,h2,h3,h4,_,h5⟩:=Lc;refine h ep _ ?_;refine pz I g.mut hs ⟨q,hq⟩ ⟨⟨g.lo I.hok,q,ds,_,hq,h2,h3,qi k rv rel,h4⟩,⟨q,hq⟩,λg1 g2 ⟨l,o,ds,xs,z1,z2⟩ kp=>⟨l,o,ds,xs,kp _ z1,z2⟩⟩
end
end L2
namespace L2
noncomputable def kU:Key->U
 | .inl i=>.int i
 | .inr x=>.str x
def wq (H:Hp)(a:Ww)(ks:List U)(xs:List V):Prop:=
 (∃aN:List (Key×V),H a=some (.dK aN)/\ks=aN.map (λp=>kU p.1)/\xs=aN.map (·.2)) \/
 ∃es:List (List U×Ww×V),es≠[]/\gc H a es/\ks=es.map (λp=>.tup p.1)/\xs=es.map (·.2.2)
noncomputable abbrev Pe:=wq
theorem wq.at (h:Pe H a ks xs):wq H a ks xs:=h
theorem gc.ne (h:gc H a es)(n:es≠[]):∃ep,H a=some (DN a ep es):=by
 rcases h.ob with q|⟨e,_⟩
 ·exact q
 ·exact absurd e n
def HD (K:Wc)(H:Hp)(a:Ww)(xs:List V):Prop:=(∃o,H a=some (.frz o (.lst xs))) \/
  ∃(o:Obj) (ao:Array Wd) (n:Nat),K.lookup a=some o/\o.cls=.type "list"/\o.dict=none/\o.data=.seq ao n/\ao.size<=Wa/\aP xs ao.toList
theorem HD.sq (h:HD K H a xs):eF K H a xs:=by
 rcases h with⟨o,h⟩|h
 ·exact .inl (.inr ⟨o,h⟩)
 ·exact .inr h
theorem HD.to (h:HD K H a xs)(e:∀o y,H a=some (.frz o y)->H' a=some (.frz o y)):HD K H' a xs:=by
 rcases h with⟨o,h⟩|h
 ·exact .inl ⟨o,e _ _ h⟩
 ·exact .inr h
mutual
def Rp (K:Wc)(H:Hp)(A:Ww->Prop):U->V->Prop
 | .non,v=>v=.non
 | .bl b,v=>v=.bl b
 | .int i,v=>v=.int i
 | .str x,v=>v=.str x
 | .tup us,v=>∃a xs,v=.ref a/\H a=some (.tup xs)/\us.length<=Wa/\aA K H A us xs
 | .lst us,v=>∃a xs,v=.ref a/\¬A a/\H a=some (.lst xs)/\us.length<=Wa/\aA K H A us xs
 | .dct ks us,v=>∃a xs,v=.ref a/\¬A a/\wq H a ks xs/\us.length<=Wa/\aA K H A us xs
 | .scr us,v=>∃a xs,v=.ref a/\HD K H a xs/\us.length<=Wa/\aA K H A us xs
def aA (K:Wc)(H:Hp)(A:Ww->Prop):List U->List V->Prop
 | [],xs=>xs=[]
 |u::us,xs=>∃x r,xs=x::r/\Rp K H A u x/\aA K H A us r
end
def jq (K:Wc)(H:Hp)(A:Ww->Prop):U->Ww->Prop
 | .lst us,a=>∃xs,H a=some (.lst xs)/\us.length<=Wa/\aA K H A us xs
 | .dct ks us,a=>∃xs,Pe H a ks xs/\us.length<=Wa/\aA K H A us xs
 |_,_=>False
def Pk (K:Wc)(H:Hp)(A:Ww->Prop):U->V->Prop
 | .non,v=>v=.non
 | .bl b,v=>v=.bl b
 | .int i,v=>v=.int i
 | .str x,v=>v=.str x
 | .tup us,v=>∃a xs,v=.ref a/\H a=some (.tup xs)/\us.length<=Wa/\aA K H A us xs
 | .lst us,v=>∃a xs,v=.ref a/\H a=some (.lst xs)/\us.length<=Wa/\aA K H A us xs
 | .dct ks us,v=>∃a xs,v=.ref a/\wq H a ks xs/\us.length<=Wa/\aA K H A us xs
 | .scr us,v=>∃a xs,v=.ref a/\HD K H a xs/\us.length<=Wa/\aA K H A us xs
def Mu:Option HO->Prop
 |some (.lst _)=>True
 |some (.dK _)=>True
 |some (.dT _)=>True
 |some (.ext _)=>True
 |_=>False
theorem Mu.ex {o:Option HO}(h:Mu o):∃x,o=.some x:=by
 cases o with
 |none=>exact h.elim
 |some x=>exact⟨x,rfl⟩
def dI (A:Ww->Prop)(H H':Hp):Prop:=∀b o,¬A b->H b=some o->H' b=some o
theorem dI.refl:dI A H H:=λ_ _ _ h=>h
theorem dI.trans (a:dI A H H1)(b:dI A H1 H2):dI A H H2:=λc o n h=>b c o n (a c o n h)
theorem dI.same (h:aG H H'):dI A H H':=λb o _ e=>h b o e
section
variable {A':Ww->Prop}
theorem wq.ex (h:wq H a ks xs):∃o,H a=some o:=by
 rcases h with⟨k,h,_⟩|⟨k,n,h,_⟩
 ·exact⟨_,h⟩
 ·obtain⟨ep,q⟩:=h.ne n;exact⟨_,q⟩
theorem wq.to (h:wq H a ks xs)(e:∀o,H a=some o->H' a=some o)(t:∀b ys,H b=some (.tup ys)->H' b=some (.tup ys)):wq H' a ks xs:=by
 rcases h with⟨k,h,z⟩|⟨k,n,h,z⟩
 ·exact .inl ⟨k,e _ h,z⟩
 ·exact .inr ⟨k,n,⟨h.ob.imp (fun⟨ep,q⟩=>⟨ep,e _ q⟩) (λq=>⟨q.1,e _ q.2⟩),h.nd,λy hy=>(h.key y hy).to t⟩,z⟩
mutual
theorem Rp.re (m:∀b,A b->Mu (H b))(e:dI A H H')(n:∀b,A' b->A b\/H b=none):∀{u:U} {v:V},Rp K H A u v->Rp K H' A' u v
 | .non,v,h=>by unfold Rp at h ⊢;exact h
 | .bl b,v,h=>by unfold Rp at h ⊢;exact h
 | .int b,v,h=>by unfold Rp at h ⊢;exact h
 | .str b,v,h=>by unfold Rp at h ⊢;exact h
 | .tup us,v,h=>by
  unfold Rp at h ⊢;obtain⟨a,xs,r,q,l,z⟩:=h;exact⟨a,xs,r,e a _ (λz=>by have:=m a z;rw[q] at this;exact this) q,l,aA.re m e n z⟩
 | .lst us,v,h=>by
  unfold Rp at h ⊢;obtain⟨a,xs,r,na,q,l,z⟩:=h;refine⟨a,xs,r,λy=>?_,e a _ na q,l,aA.re m e n z⟩;rcases n a y with y|y
  ·exact na y
  ·rw[q] at y;cases y
 | .scr us,v,h=>by
  unfold Rp at h ⊢;obtain⟨a,xs,r,q,l,z⟩:=h;exact⟨a,xs,r,q.to λo y w=>e a _ (λz=>by have:=m a z;rw[w] at this;exact this) w,l,aA.re m e n z⟩
 | .dct ks us,v,h=>by
  unfold Rp at h ⊢;obtain⟨a,xs,r,na,q,l,z⟩:=h;refine⟨a,xs,r,λy=>?_,q.to (λo w=>e a o na w) (λb ys w=>e b _ (λy=>by have:=m b y;rw[w] at this;exact this) w),l,aA.re m e n z⟩;obtain⟨o,w⟩:=q.ex;rcases n a y with y|y
  ·exact na y
  ·rw[w] at y;cases y
theorem aA.re (m:∀b,A b->Mu (H b))(e:dI A H H')(n:∀b,A' b->A b\/H b=none):∀{us:List U} {vs:List V},aA K H A us vs->aA K H' A' us vs
 | [],vs,h=>by unfold aA at h ⊢;exact h
 |u::us,vs,h=>by
  unfold aA at h ⊢;obtain⟨x,r,q,p,z⟩:=h;exact⟨x,r,q,Rp.re m e n p,aA.re m e n z⟩
end
mutual
theorem Rp.mono (n:∀b,A' b->A b):∀{u:U} {v:V},Rp K H A u v->Rp K H A' u v
 | .non,v,h=>by unfold Rp at h ⊢;exact h
 | .bl b,v,h=>by unfold Rp at h ⊢;exact h
 | .int b,v,h=>by unfold Rp at h ⊢;exact h
 | .str b,v,h=>by unfold Rp at h ⊢;exact h
 | .tup us,v,h=>by
  unfold Rp at h ⊢;obtain⟨a,xs,r,q,l,z⟩:=h;exact⟨a,xs,r,q,l,aA.mono n z⟩
 | .lst us,v,h=>by
  unfold Rp at h ⊢;obtain⟨a,xs,r,na,q,l,z⟩:=h;exact⟨a,xs,r,λy=>na (n a y),q,l,aA.mono n z⟩
 | .scr us,v,h=>by
  unfold Rp at h ⊢;obtain⟨a,xs,r,q,l,z⟩:=h;exact⟨a,xs,r,q,l,aA.mono n z⟩
 | .dct ks us,v,h=>by
  unfold Rp at h ⊢;obtain⟨a,xs,r,na,q,l,z⟩:=h;exact⟨a,xs,r,λy=>na (n a y),q,l,aA.mono n z⟩
theorem aA.mono (n:∀b,A' b->A b):∀{us:List U} {vs:List V},aA K H A us vs->aA K H A' us vs
 | [],vs,h=>by unfold aA at h ⊢;exact h
 |u::us,vs,h=>by
  unfold aA at h ⊢;obtain⟨x,r,q,p,z⟩:=h;exact⟨x,r,q,Rp.mono n p,aA.mono n z⟩
end
mutual
theorem Rp.same (e:aG H H'):∀{u:U} {v:V},Rp K H A u v->Rp K H' A u v
 | .non,v,h=>by unfold Rp at h ⊢;exact h
 | .bl b,v,h=>by unfold Rp at h ⊢;exact h
 | .int b,v,h=>by unfold Rp at h ⊢;exact h
 | .str b,v,h=>by unfold Rp at h ⊢;exact h
 | .tup us,v,h=>by
  unfold Rp at h ⊢;obtain⟨a,xs,r,q,l,z⟩:=h;exact⟨a,xs,r,e a _ q,l,aA.same e z⟩
 | .lst us,v,h=>by
  unfold Rp at h ⊢;obtain⟨a,xs,r,na,q,l,z⟩:=h;exact⟨a,xs,r,na,e a _ q,l,aA.same e z⟩
 | .scr us,v,h=>by
  unfold Rp at h ⊢;obtain⟨a,xs,r,q,l,z⟩:=h;exact⟨a,xs,r,q.to λo y w=>e a _ w,l,aA.same e z⟩
 | .dct ks us,v,h=>by
  unfold Rp at h ⊢;obtain⟨a,xs,r,na,q,l,z⟩:=h;exact⟨a,xs,r,na,q.to (λo w=>e a o w) (λb ys w=>e b _ w),l,aA.same e z⟩
theorem aA.same (e:aG H H'):∀{us:List U} {vs:List V},aA K H A us vs->aA K H' A us vs
 | [],vs,h=>by unfold aA at h ⊢;exact h
 |u::us,vs,h=>by
  unfold aA at h ⊢;obtain⟨x,r,q,p,z⟩:=h;exact⟨x,r,q,Rp.same e p,aA.same e z⟩
end
theorem aA.length:∀{us:List U} {vs:List V},aA K H A us vs->us.length=vs.length
 | [],_,h=>by unfold aA at h;subst h;rfl
 |u::us,_,h=>by
  unfold aA at h;obtain⟨x,r,rfl,_,q⟩:=h;rw[Wl,Wl,aA.length q]
theorem aA.get:∀{us:List U} {vs:List V} {i:Nat} {u:U},aA K H A us vs->us[i]? = some u->∃v,vs[i]? = some v/\Rp K H A u v
 | [],_,_,_,_,e=>by simp at e
 |w::us,_,i,u,h,e=>by
  unfold aA at h;obtain⟨x,r,rfl,p,q⟩:=h;cases i with
  |zero=>simp at e;subst e;exact⟨x,by simp,p⟩
  |succ i=>
   obtain⟨v,a,b⟩:=aA.get q (i:=i) (by simpa using e);exact⟨v,by simpa using a,b⟩
theorem aA.nil:aA K H A [] []:=by unfold aA;rfl
theorem aA.cons (h:Rp K H A u v)(t:aA K H A us vs):aA K H A (u::us) (v::vs):=by unfold aA;exact⟨v,vs,rfl,h,t⟩
theorem aA.append:∀{us ws:List U} {vs xs:List V},aA K H A us vs->aA K H A ws xs->aA K H A (us++ws) (vs++xs)
 | [],ws,vs,xs,h,t=>by unfold aA at h;subst h;exact t
 |u::us,ws,vs,xs,h,t=>by
  unfold aA at h;obtain⟨x,r,rfl,p,q⟩:=h;exact aA.cons p (aA.append q t)
theorem aA.take:∀{us:List U} {vs:List V} (n:Nat),aA K H A us vs->aA K H A (us.take n) (vs.take n)
 | [],vs,n,h=>by unfold aA at h;subst h;simp;exact aA.nil
 |u::us,vs,0,h=>by simp;exact aA.nil
 |u::us,vs,n+1,h=>by
  unfold aA at h;obtain⟨x,r,rfl,p,q⟩:=h;exact aA.cons p (aA.take n q)
theorem aA.drop:∀{us:List U} {vs:List V} (n:Nat),aA K H A us vs->aA K H A (us.drop n) (vs.drop n)
 | [],vs,n,h=>by unfold aA at h;subst h;simp;exact aA.nil
 |u::us,vs,0,h=>h
 |u::us,vs,n+1,h=>by
  unfold aA at h;obtain⟨x,r,rfl,p,q⟩:=h;exact aA.drop n q
theorem aA.set:∀{us:List U} {vs:List V} (n:Nat) {u:U} {v:V},Rp K H A u v->aA K H A us vs->aA K H A (us.set n u) (vs.set n v)
 | [],vs,n,_,_,_,h=>by unfold aA at h;subst h;simp;exact aA.nil
 |u::us,vs,0,_,_,p',h=>by
  unfold aA at h;obtain⟨x,r,rfl,p,q⟩:=h;exact aA.cons p' q
 |u::us,vs,n+1,_,_,p',h=>by
  unfold aA at h;obtain⟨x,r,rfl,p,q⟩:=h;exact aA.cons p (aA.set n p' q)
theorem Rp.pk (h:Rp K H A u v):Pk K H A u v:=by
 cases u<;>(unfold Rp at h;unfold Pk)
 case lst us=>obtain⟨a,xs,r,na,q⟩:=h;exact⟨a,xs,r,q⟩
 case dct ks us=>obtain⟨a,xs,r,na,q⟩:=h;exact⟨a,xs,r,q⟩
 all_goals exact h
theorem Pk.same (e:aG H H')(h:Pk K H A u v):Pk K H' A u v:=by
 cases u<;>(unfold Pk at h ⊢)
 case tup us=>obtain⟨a,xs,r,q,l,z⟩:=h;exact⟨a,xs,r,e a _ q,l,z.same e⟩
 case lst us=>obtain⟨a,xs,r,q,l,z⟩:=h;exact⟨a,xs,r,e a _ q,l,z.same e⟩
 case scr us=>obtain⟨a,xs,r,q,l,z⟩:=h;exact⟨a,xs,r,q.to λo y w=>e a _ w,l,z.same e⟩
 case dct ks us=>obtain⟨a,xs,r,q,l,z⟩:=h;exact⟨a,xs,r,q.to (λo w=>e a o w) (λb ys w=>e b _ w),l,z.same e⟩
 all_goals exact h
theorem jq.pk (h:jq K H A u a):Pk K H A u (.ref a):=by
 cases u<;>(unfold jq at h;unfold Pk)
 case lst us=>obtain⟨xs,q,l,z⟩:=h;exact⟨a,xs,rfl,q,l,z⟩
 case dct ks us=>obtain⟨xs,q,l,z⟩:=h;exact⟨a,xs,rfl,q.at,l,z⟩
 all_goals exact h.elim
theorem jq.rp (h:jq K H A u a)(n:∀b,A' b->A b)(na:¬A' a):Rp K H A' u (.ref a):=by
 cases u<;>(unfold jq at h;unfold Rp)
 case lst us=>obtain⟨xs,q,l,z⟩:=h;exact⟨a,xs,rfl,na,q,l,z.mono n⟩
 case dct ks us=>obtain⟨xs,q,l,z⟩:=h;exact⟨a,xs,rfl,na,q.at,l,z.mono n⟩
 all_goals exact h.elim
theorem jq.re (m:∀b,A b->Mu (H b))(e:dI A H H')(n:∀b,A' b->A b\/H b=none)(ea:∀o,H a=some o->H' a=some o)(h:jq K H A u a):jq K H' A' u a:=by
 cases u<;>(unfold jq at h ⊢)
 case lst us=>obtain⟨xs,q,l,z⟩:=h;exact⟨xs,ea _ q,l,z.re m e n⟩
 case dct ks us=>obtain⟨xs,q,l,z⟩:=h;exact⟨xs,q.to ea (λb ys w=>e b _ (λy=>by have:=m b y;rw[w] at this;exact this) w),l,z.re m e n⟩
 all_goals exact h.elim
theorem jq.mu (h:jq K H A u a):Mu (H a):=by
 cases u<;>(unfold jq at h)
 case lst us=>obtain⟨xs,q,_⟩:=h;rw[q];trivial
 case dct ks us=>
  obtain⟨xs,q,_⟩:=h;rcases q with⟨k,q,_⟩|⟨k,n,q,_⟩
  ·rw[q];trivial
  ·obtain⟨ep,q⟩:=q.ne n;rw[q];trivial
 all_goals exact h.elim
end
structure Pkg where
 A0:Ww->Prop
 B:Hp
 a0:Ww
structure Gm where
 own:List Bool
 io:Bool
 W:Hp->Prop
noncomputable def Gm.is (G:Gm)(i:Nat):Bool:=G.own.getD i false
structure cb (K:Wc)(G:Gm)(Z:Pkg)(A:Ww->Prop)(ρ:Ev)(σ:St)(H:Hp):Prop where
 slot:∀i u,ρ[i]? = some (some u)->∃v,σ[i]? = some (some v)/\if G.is i=true then (∃a,v=.ref a/\A a/\Z.B a=none/\(¬Z.A0 a\/(G.io=true/\i=0))/\jq K H A u a) else Rp K H A u v
 dis:∀i j u w a,G.is i=true->G.is j=true->i≠j->ρ[i]? = some (some u)->ρ[j]? = some (some w)->σ[i]? = some (some (.ref a))->σ[j]? = some (some (.ref a))->False
 mu:∀a,A a->Mu (H a)
 sup:∀a,Z.A0 a->A a
 out:∀a,A a->Z.A0 a\/Z.B a=none
 bas:∀a o,Z.B a=some o->H a=some o
 io0:G.io=true->σ[0]? = some (some (.ref Z.a0))/\G.is 0=true
 len:ρ.length=σ.length
section
variable {A':Ww->Prop}{G:Gm}{Z:Pkg}{ρ':Ev}
theorem cb.same (r:cb K G Z A ρ σ H)(e:aG H H'):cb K G Z A ρ σ H' where
 slot:=λi u h=>by
  obtain⟨v,h1,h2⟩:=r.slot i u h;refine⟨v,h1,?_⟩;by_cases c:G.is i=true
  ·rw[hZ c] at h2 ⊢;obtain⟨a,e1,e2,e3,e4,e5⟩:=h2;exact⟨a,e1,e2,e3,e4,e5.re r.mu (dI.same e) (λb z=>.inl z) λo w=>e a o w⟩
  ·rw[hV c] at h2 ⊢;exact h2.same e
 dis:=r.dis
 mu:=λa h=>by
  have m:=r.mu a h;obtain⟨o,q⟩:=m.ex;rw[e a o q,←q];exact m
 sup:=r.sup
 out:=r.out
 bas:=λa o h=>e a o (r.bas a o h)
 io0:=r.io0
 len:=r.len
theorem cb.add (r:cb K G Z A ρ σ H)(e:aG H H')(n:H a=none)(m:Mu (H' a)):cb K G Z (λb=>A b\/b=a) ρ σ H' where
 slot:=λi u h=>by
  have q:∀b,(A b\/b=a)->A b\/H b=none:=λb z=>by
   rcases z with z|z
   ·exact .inl z
   ·subst z;exact .inr n
  obtain⟨v,h1,h2⟩:=r.slot i u h;refine⟨v,h1,?_⟩;by_cases c:G.is i=true
  ·rw[hZ c] at h2 ⊢;obtain⟨b,e1,e2,e3,e4,e5⟩:=h2;exact⟨b,e1,.inl e2,e3,e4,e5.re r.mu (dI.same e) q λo w=>e b o w⟩
  ·rw[hV c] at h2 ⊢;exact h2.re r.mu (dI.same e) q
 dis:=r.dis
 mu:=λb h=>by
  rcases h with h|h
  ·exact (r.same e).mu b h
  ·subst h;exact m
 sup:=λb h=>.inl (r.sup b h)
 out:=λb h=>by
  rcases h with h|h
  ·exact r.out b h
  ·subst h;refine .inr ?_;cases q:Z.B b with
   |none=>rfl
   |some o=>rw[r.bas b o q] at n;cases n
 bas:=λa o h=>e a o (r.bas a o h)
 io0:=r.io0
 len:=r.len
theorem cb.notA (r:cb K G Z A ρ σ H)(n:H a=none):¬A a:=λz=>by
 have:=r.mu a z;rw[n] at this;exact this
theorem cb.notB (r:cb K G Z A ρ σ H)(n:H a=none):Z.B a=none:=by
 cases q:Z.B a with
 |none=>rfl
 |some o=>rw[r.bas a o q] at n;cases n
theorem cb.val (r:cb K G Z A ρ σ H)(c:G.is i=false)(h:ρ[i]? = some (some u)):∃v,σ[i]? = some (some v)/\Rp K H A u v:=by
 obtain⟨v,h1,h2⟩:=r.slot i u h;rw[hV (by rw[c];exact V5)] at h2;exact⟨v,h1,h2⟩
theorem cb.own (r:cb K G Z A ρ σ H)(c:G.is i=true)(h:ρ[i]? = some (some u)):∃a,σ[i]? = some (some (.ref a))/\A a/\Z.B a=none/\(¬Z.A0 a\/(G.io=true/\i=0))/\jq K H A u a:=by
 obtain⟨v,h1,h2⟩:=r.slot i u h;rw[hZ c] at h2;obtain⟨a,rfl,z⟩:=h2;exact⟨a,h1,z⟩
end
end L2
variable {Z:L2.Pkg}{G:L2.Gm}
namespace L2
inductive Md where
 |S|O|P
 deriving DecidableEq
def wt (K:Wc)(G:Gm)(Z:Pkg)(m:Md)(A:Ww->Prop)(ρ:Ev)(σ:St)(H:Hp)(u:U)(v:V):Prop:=match m with
 | .S=>Rp K H A u v
 | .P=>Pk K H A u v
 | .O=>∃a,v=.ref a/\¬A a/\Z.B a=none/\cb K G Z (λb=>A b\/b=a) ρ σ H/\jq K H (λb=>A b\/b=a) u a
def B6 (K:Wc)(m:Md)(A:Ww->Prop)(H H':Hp)(u:U)(v:V):Prop:=match m with
 | .S=>Rp K H' A u v
 | .P=>Pk K H' A u v
 | .O=>∃a,v=.ref a/\H a=none/\jq K H' (λb=>A b\/b=a) u a
def HF (K:Wc)(G:Gm)(Z:Pkg)(A:Ww->Prop)(b:Bool)(m:Md)(ρ:Ev)(σ:St)(H:Hp):R (U×Ev)->VK->Prop
 | .ok (u,ρ'),Q=>∀v H',cb K G Z A ρ' σ H'->dI A H H'->(b=false->ρ'=ρ/\aG H H')->wt K G Z m A ρ' σ H' u v->Q v H'
 |_,_=>False
def tD (K:Wc)(G:Gm)(b:Bool)(m:Md)(g:Ev->R (U×Ev)):TE:=λσ H Q=>∃Z A ρ,cb K G Z A ρ σ H/\HF K G Z A b m ρ σ H (g ρ) Q
structure DE (X:Cx)(G:Gm)(e:X4)(b:Bool)(m:Md)(g:Ev->R (U×Ev)):Prop where
 un:PE X e (tD X.K G b m g)
def HG (K:Wc)(G:Gm)(Z:Pkg)(A:Ww->Prop)(b:Bool)(ρ:Ev)(σ:St)(H:Hp):R (Bool×Ev)->(Bool->Hp->Prop)->Prop
 | .ok (c,ρ'),Q=>∀H',cb K G Z A ρ' σ H'->dI A H H'->(b=false->ρ'=ρ/\aG H H')->Q c H'
 |_,_=>False
def De (K:Wc)(G:Gm)(b:Bool)(g:Ev->R (Bool×Ev)):TT:=λσ H Q=>∃Z A ρ,cb K G Z A ρ σ H/\HG K G Z A b ρ σ H (g ρ) Q
structure DT (X:Cx)(G:Gm)(e:X4)(b:Bool)(g:Ev->R (Bool×Ev)):Prop where
 un:PT X e (De X.K G b g)
def yO (K:Wc)(H:Hp)(A:Ww->Prop):List U->List V->Prop
 | [],vs=>vs=[]
 |u::us,vs=>∃x r,vs=x::r/\Pk K H A u x/\yO K H A us r
def HH (K:Wc)(p:Bool)(A:Ww->Prop)(H:Hp)(us:List U)(vs:List V):Prop:=if p=true then yO K H A us vs else aA K H A us vs
def HJ (K:Wc)(G:Gm)(Z:Pkg)(A:Ww->Prop)(b p:Bool)(ρ:Ev)(σ:St)(H:Hp):R (List U×Ev)->(List V->Hp->Prop)->Prop
 | .ok (us,ρ'),Q=>∀vs H',cb K G Z A ρ' σ H'->dI A H H'->(b=false->ρ'=ρ/\aG H H')->HH K p A H' us vs->Q vs H'
 |_,_=>False
def R3 (K:Wc)(G:Gm)(b p:Bool)(g:Ev->R (List U×Ev)):TA:=λσ H Q=>∃Z A ρ,cb K G Z A ρ σ H/\HJ K G Z A b p ρ σ H (g ρ) Q
structure DA (X:Cx)(G:Gm)(es:List X4)(b p:Bool)(g:Ev->R (List U×Ev)):Prop where
 un:PA X es (R3 X.K G b p g)
section
variable {e:X4}{t t':TE}
theorem PE.to (h:PE X e t)(i:∀σ H Q,t' σ H Q->t σ H Q):PE X e t':=λpins s σ H Q I q=>h pins s σ H Q I (i _ _ _ q)
theorem PT.to {t t':TT}(h:PT X e t)(i:∀σ H Q,t' σ H Q->t σ H Q):PT X e t':=λpins s σ H Q I q=>h pins s σ H Q I (i _ _ _ q)
theorem PW.to {t t':TT}(h:PW X e t)(i:∀σ H Q,t' σ H Q->t σ H Q):PW X e t':=λmF pins s σ H Q I q=>h mF pins s σ H Q I (i _ _ _ q)
theorem PA.to {es:List X4}{t t':TA}(h:PA X es t)(i:∀σ H Q,t' σ H Q->t σ H Q):PA X es t':=λpos pins s σ H Q I q=>h pos pins s σ H Q I (i _ _ _ q)
theorem PS.to {t t':TS}(h:PS X st t)(i:∀D σ H,t' D σ H->t D σ H):PS X st t':=λpins s σ H D I q=>h pins s σ H D I (i _ _ _ q)
theorem pR.to {st:List aaX}{t t':TS}(h:pR X st t)(i:∀D σ H,t' D σ H->t D σ H):pR X st t':=λpins s σ H D I q=>h pins s σ H D I (i _ _ _ q)
theorem PG.to {t t':TG}(h:PG X e t)(i:∀v σ H Q,t' v σ H Q->t v σ H Q):PG X e t':=λpins s σ H v u Q I r q=>h pins s σ H v u Q I r (i _ _ _ _ q)
end
section
variable {A':Ww->Prop}{ρ':Ev}{m:Md}{b:Bool}
theorem wt.rp (h:wt K G Z m A ρ σ H u v)(n:m≠.P):Rp K H A u v:=by
 cases m with
 |S=>exact h
 |O=>
  obtain⟨a,rfl,na,_,_,t⟩:=h;exact t.rp (λb z=>.inl z) na
 |P=>exact absurd rfl n
theorem wt.pk (h:wt K G Z m A ρ σ H u v):Pk K H A u v:=by
 by_cases c:m=.P
 ·subst c;exact h
 ·exact (h.rp c).pk
theorem B6.e (r:cb K G Z A ρ σ H)(s:aG H H')(h:B6 K m A H H' u v):wt K G Z m A ρ σ H' u v:=by
 cases m with
 |S=>exact h
 |P=>exact h
 |O=>
  obtain⟨a,rfl,n,t⟩:=h;exact⟨a,rfl,r.notA n,r.notB n,r.add s n t.mu,t⟩
theorem wt.later (r:cb K G Z A ρ σ H)(h:wt K G Z m A ρ σ H u v)(x:dI A H H')(s:b=false->ρ'=ρ/\aG H H')(c:m=.P->b=false):Pk K H' A u v:=by
 by_cases d:m=.P
 ·exact h.pk.same (s (c d)).2
 ·exact ((h.rp d).re r.mu x λb z=>.inl z).pk
theorem wt.laterS (r:cb K G Z A ρ σ H)(h:wt K G Z m A ρ σ H u v)(x:dI A H H')(d:m≠.P):Rp K H' A u v:=(h.rp d).re r.mu x λb z=>.inl z
theorem two {b1 b2:Bool}{ρ1 ρ2:Ev}(h1:b1=false->ρ1=ρ/\aG H H1)(h2:b2=false->ρ2=ρ1/\aG H1 H2):(b1||b2)=false->ρ2=ρ/\aG H H2:=λh=>by
 rw[ZF] at h;obtain⟨a,b⟩:=h1 h.1;obtain⟨c,d⟩:=h2 h.2;exact⟨c.trans a,b.trans d⟩
theorem oU {b1:Bool}{ρ1:Ev}(h1:b1=false->ρ1=ρ/\aG H H1)(h2:aG H1 H2):b1=false->ρ1=ρ/\aG H H2:=λh=>⟨(h1 h).1,(h1 h).2.trans h2⟩
end
noncomputable def aa (i:Nat):Ev->R (U×Ev):=λρ=>match ρ[i]? with
 |some (some u)=>.ok (u,ρ)
 |_=>.stk
noncomputable def gC (u:U):Ev->R (U×Ev):=λρ=>.ok (u,ρ)
section
variable {e a b:X4}{es:List X4}
theorem Pf {b:Bool}{m:Md}(h:PE X e (Dl i))(c:G.is i=false):DE X G e false .S (aa i):=by
 refine⟨h.to λσ H Q ⟨Z,A,ρ,r,f⟩=>?_⟩;unfold aa at f;split at f
 ·rename_i u hu;obtain⟨v,h1,h2⟩:=r.val c hu;exact⟨v,h1,f v H r dI.refl (λ_=>⟨rfl,aG.refl _⟩) h2⟩
 ·exact f.elim
theorem ak (i:Nat)(hN:X.N[i]? = some x:=by rfl)(hv:yx X.env.scope x:=by first|exact Or.inl rfl|exact Or.inr (Or.inl rfl)|exact Or.inr (Or.inr rfl))(hd:(x==("__debug__":Str))=false:=by decide)
  (iF:(x==("__classdict__":Str))=false:=by decide) (c:G.is i=false:=by rfl):DE X G (.Name x pos) false .S (aa i):=Pf (b:=false) (m:=.S) (eJ hN hv hd iF) c
theorem cy (i:Nat)(hN:X.N[i]? = some x:=by rfl)(hv:yx X.env.scope x:=by first|exact Or.inl rfl|exact Or.inr (Or.inl rfl)|exact Or.inr (Or.inr rfl))(hd:(x==("__debug__":Str))=false:=by decide)
  (iF:(x==("__classdict__":Str))=false:=by decide) (c:G.is i=true:=by rfl):DE X G (.Name x pos) false .P (aa i):=by
 refine⟨(eJ hN hv hd iF).to λσ H Q ⟨Z,A,ρ,r,f⟩=>?_⟩;unfold aa at f;split at f
 ·rename_i u hu;obtain⟨a,h1,_,_,_,h2⟩:=r.own c hu;exact⟨.ref a,h1,f _ H r dI.refl (λ_=>⟨rfl,aG.refl _⟩) h2.pk⟩
 ·exact f.elim
theorem HK (h:PE X e (tC v))(r:∀K H A,Rp K H A u v):DE X G e false .S (gC u):=by
 refine⟨h.to λσ H Q ⟨Z,A,ρ,q,f⟩=>?_⟩;exact f v H q dI.refl (λ_=>⟨rfl,aG.refl _⟩) (r _ _ _)
theorem aB {i j pos}:DE X G (.Constant (.int i) j pos) false .S (gC (.int i)):=HK Dm λ_ _ _=>by unfold Rp;rfl
theorem eI {i j pos}:DE X G (.Constant (.bool i) j pos) false .S (gC (.bl i)):=HK z_ λ_ _ _=>by unfold Rp;rfl
theorem yP {i j pos}:DE X G (.Constant (.str i) j pos) false .S (gC (.str i)):=HK g5 λ_ _ _=>by unfold Rp;rfl
theorem wM {i:Int}{tk:Tok}(hg:Gl X x)(hm:X.mg x=some (.int i tk))(hd:(x==("__debug__":Str))=false:=by decide):DE X G (.Name x pos) false .S (gC (.int i)):=HK (v:=.int i) (uK hg hm ⟨_,rfl⟩ hd) λ_ _ _=>by unfold Rp;rfl
noncomputable def aW (p:U->U->R U)(g1 g2:Ev->R (U×Ev)):Ev->R (U×Ev):=λρ=>(g1 ρ).bind λx=>(g2 x.2).bind λy=>(p x.1 y.1).bind λz=>.ok (z,y.2)
def fg (K:Wc)(r:R2)(m:Md)(p:U->U->R U):Prop:=∀A H x y u w z Q,Pk K H A u x->Pk K H A w y->(∀a,A a->Mu (H a))->p u w=.ok z->(∀v H',aG H H'->B6 K m A H H' z v->Q v H')->r x y H Q
variable {b1 b2 b3:Bool}{m1 m2 m3 mr:Md}{g1 g2 g3:Ev->R (U×Ev)}
theorem k_ {p:U->U->R U}(hp:fg X.K r mr p)(hm:m1=.P->b2=false){Q:VK}(h:tD X.K G (b1||b2) mr (aW p g1 g2) σ H Q) :
  ON r (tD X.K G b1 m1 g1) (tD X.K G b2 m2 g2) σ H Q:=by
 obtain⟨Z,A,ρ,q,f⟩:=h;unfold aW at f;refine⟨Z,A,ρ,q,?_⟩;cases e1:g1 ρ with
 |stk=>rw[e1] at f;exact f.elim
 |exc=>rw[e1] at f;exact f.elim
 |ok x=>
  obtain⟨u,ρ1⟩:=x;rw[e1] at f;intro v1 H1 q1 x1 s1 sH;refine⟨Z,A,ρ1,q1,?_⟩;cases e2:g2 ρ1 with
  |stk=>simp only[R.bind,e2] at f;exact f.elim
  |exc=>simp only[R.bind,e2] at f;exact f.elim
  |ok y=>
   obtain⟨w,ρ2⟩:=y;simp only[R.bind,e2] at f;intro v2 H2 q2 x2 s2 zY;cases e3:p u w with
   |stk=>rw[e3] at f;exact f.elim
   |exc=>rw[e3] at f;exact f.elim
   |ok z=>
    rw[e3] at f;refine hp A H2 v1 v2 u w z Q (sH.later q1 x2 s2 hm) zY.pk q2.mu e3 λv H' sm vm=>?_;exact f v H' (q2.same sm) ((x1.trans x2).trans (dI.same sm)) (oU (two s1 s2) sm) (vm.e q2 sm)
theorem bq {op:Operator}{p:U->U->R U}(ho:i9 X (Zf op) r)(hp:fg X.K r mr p)(ha:DE X G a b1 m1 g1)(hb:DE X G b b2 m2 g2)(hm:m1=.P->b2=false:=by first|exact λ_=>rfl|exact λh=>nomatch h) :
  DE X G (.BinOp a op b pos) (b1||b2) mr (aW p g1 g2):=⟨(JK ho ha.un hb.un).to λ_ _ _=>k_ hp hm⟩
theorem yQ {p:U->U->R U}(ho:i9 X (XN op) r)(hp:fg X.K r mr p)(ha:DE X G a b1 m1 g1)(hb:DE X G b b2 m2 g2)(hk:Zw op b=false)(hm:m1=.P->b2=false:=by first|exact λ_=>rfl|exact λh=>nomatch h) :
  DE X G (.Compare a [op] [b] pos) (b1||b2) mr (aW p g1 g2):=⟨(Hj ho ha.un hb.un hk).to λ_ _ _=>k_ hp hm⟩
theorem gU {p:U->U->R U}(ho:GZ X r)(hp:fg X.K r mr p)(ha:DE X G a b1 m1 g1)(hb:DE X G b b2 m2 g2)(hs:Af b)(hm:m1=.P->b2=false:=by first|exact λ_=>rfl|exact λh=>nomatch h) :
  DE X G (.Subscript a b pos) (b1||b2) mr (aW p g1 g2):=⟨(JM ho ha.un hb.un hs).to λ_ _ _=>k_ hp hm⟩
noncomputable def gB (g:Ev->R (U×Ev)):Ev->R (Bool×Ev):=λρ=>(g ρ).bind λx=>match x.1 with
 | .bl c=>.ok (c,x.2)
 |_=>.stk
theorem tP {g:Ev->R (U×Ev)}{m:Md}{Q:Bool->Hp->Prop}(h:De X.K G b1 (gB g) σ H Q):tD X.K G b1 m g σ H λx H'=>∃k,x=.bl k/\Q k H':=by
 obtain⟨Z,A,ρ,q,f⟩:=h;refine⟨Z,A,ρ,q,?_⟩;unfold gB at f;cases e1:g ρ with
 |stk=>rw[e1] at f;exact f.elim
 |exc=>rw[e1] at f;exact f.elim
 |ok x=>
  obtain⟨u,ρ1⟩:=x;rw[e1] at f;intro v H1 q1 x1 s1 vm;cases u with
  |bl c=>
   have e:v=.bl c:=by have:=vm.pk;unfold Pk at this;exact this
   exact⟨c,e,f H1 q1 x1 s1⟩
  |_=>exact f.elim
theorem kz (h:DE X G e b1 m1 g1)(he:∀mF,isTrue e X.env mF=(do let v ←mF;standAt e.pos;holding [v] (truthy v)):=by intro _;rfl):DT X G e b1 (gB g1):=⟨(Dn h.un he).to λ_ _ _ h=>tP h⟩
theorem bw {p:U->U->R U}(ho:i9 X (XN op) r)(hp:fg X.K r mr p)(ha:DE X G a b1 m1 g1)(hb:DE X G b b2 m2 g2)(hk:Zw op b=false)(hm:m1=.P->b2=false:=by first|exact λ_=>rfl|exact λh=>nomatch h) :
  DT X G (.Compare a [op] [b] pos) (b1||b2) (gB (aW p g1 g2)):=⟨(Ac ho ha.un hb.un hk).to λ_ _ _ h=>k_ hp hm (tP (m:=mr) h)⟩
end
end L2
namespace L2
section
variable {A':Ww->Prop}{ρ':Ev}{b p:Bool}{m:Md}{α:Type}
theorem HF.bind {x:R α}{k:α->R (U×Ev)}{Q:VK}(f:HF K G Z A b m ρ σ H (x.bind k) Q):∃a,x=.ok a/\HF K G Z A b m ρ σ H (k a) Q:=by
 cases x with
 |ok a=>exact⟨a,rfl,f⟩
 |exc=>exact f.elim
 |stk=>exact f.elim
theorem HG.bind {x:R α}{k:α->R (Bool×Ev)}{Q:Bool->Hp->Prop}(f:HG K G Z A b ρ σ H (x.bind k) Q):∃a,x=.ok a/\HG K G Z A b ρ σ H (k a) Q:=by
 cases x with
 |ok a=>exact⟨a,rfl,f⟩
 |exc=>exact f.elim
 |stk=>exact f.elim
theorem HJ.bind {x:R α}{k:α->R (List U×Ev)}{Q:List V->Hp->Prop}(f:HJ K G Z A b p ρ σ H (x.bind k) Q):∃a,x=.ok a/\HJ K G Z A b p ρ σ H (k a) Q:=by
 cases x with
 |ok a=>exact⟨a,rfl,f⟩
 |exc=>exact f.elim
 |stk=>exact f.elim
theorem Pk.bl {c:Bool}(h:Pk K H A (.bl c) v):v=.bl c:=by unfold Pk at h;exact h
theorem Pk.int {i:Int}(h:Pk K H A (.int i) v):v=.int i:=by unfold Pk at h;exact h
theorem Pk.str {i:Str}(h:Pk K H A (.str i) v):v=.str i:=by unfold Pk at h;exact h
theorem fK {c:Bool}:Rp K H A (.bl c) (.bl c):=by unfold Rp;rfl
theorem dJ {c:Int}:Rp K H A (.int c) (.int c):=by unfold Rp;rfl
theorem wt.ofS (h:Rp K H A u v):wt K G Z .S A ρ σ H u v:=h
theorem mW:Rp K H A .non .non:=by unfold Rp;rfl
theorem Ec {c:Str}:Rp K H A (.str c) (.str c):=by unfold Rp;rfl
theorem aA.pks:∀{us:List U} {vs:List V},aA K H A us vs->yO K H A us vs
 | [],_,h=>by unfold aA at h;unfold yO;exact h
 |u::us,_,h=>by
  unfold aA at h;unfold yO;obtain⟨x,r,e,z,q⟩:=h;exact⟨x,r,e,z.pk,aA.pks q⟩
end
section
variable {e a b:X4}{es rest:List X4}{b1 b2 b3:Bool}{m1 m2 m3 mr:Md}{g1 g2 g3:Ev->R (U×Ev)}{h1 h2:Ev->R (Bool×Ev)}
noncomputable def Ed (g1 g2:Ev->R (Bool×Ev)):Ev->R (Bool×Ev):=λρ=>(g1 ρ).bind λx=>if x.1=true then g2 x.2 else .ok (false,x.2)
noncomputable def HL (g1 g2:Ev->R (Bool×Ev)):Ev->R (Bool×Ev):=λρ=>(g1 ρ).bind λx=>if x.1=true then .ok (true,x.2) else g2 x.2
noncomputable def sO (g1:Ev->R (Bool×Ev)):Ev->R (Bool×Ev):=λρ=>(g1 ρ).bind λx=>.ok (!x.1,x.2)
structure DW (X:Cx)(G:Gm)(e:X4)(b:Bool)(g:Ev->R (Bool×Ev)):Prop where
 un:PW X e (De X.K G b g)
theorem DW.dt (h:DW X G e b1 h1):DT X G e b1 h1:=⟨PW.pt h.un⟩
theorem Ee {Q:Bool->Hp->Prop}(h:De X.K G (b1||b2) (Ed h1 h2) σ H Q):OD (De X.K G b1 h1) (De X.K G b2 h2) σ H Q:=by
 obtain⟨Z,A,ρ,q,f⟩:=h;obtain⟨⟨k,ρ1⟩,e1,f⟩:=f.bind;refine⟨Z,A,ρ,q,?_⟩;rw[e1];intro H1 q1 x1 s1;cases k with
 |true=>
  rw[hZ rfl] at f ⊢;refine⟨Z,A,ρ1,q1,?_⟩;dsimp only at f;cases e2:h2 ρ1 with
  |ok y=>rw[e2] at f;exact λH2 q2 x2 s2=>f H2 q2 (x1.trans x2) (two s1 s2)
  |exc=>rw[e2] at f;exact f.elim
  |stk=>rw[e2] at f;exact f.elim
 |false=>
  rw[hV V5] at f ⊢;exact f H1 q1 x1 λz=>s1 (ZF.mp z).1
theorem HM {Q:Bool->Hp->Prop}(h:De X.K G (b1||b2) (HL h1 h2) σ H Q):Tv (De X.K G b1 h1) (De X.K G b2 h2) σ H Q:=by
 obtain⟨Z,A,ρ,q,f⟩:=h;obtain⟨⟨k,ρ1⟩,e1,f⟩:=f.bind;refine⟨Z,A,ρ,q,?_⟩;rw[e1];intro H1 q1 x1 s1;cases k with
 |false=>
  rw[hV V5] at f ⊢;refine⟨Z,A,ρ1,q1,?_⟩;dsimp only at f;cases e2:h2 ρ1 with
  |ok y=>rw[e2] at f;exact λH2 q2 x2 s2=>f H2 q2 (x1.trans x2) (two s1 s2)
  |exc=>rw[e2] at f;exact f.elim
  |stk=>rw[e2] at f;exact f.elim
 |true=>
  rw[hZ rfl] at f ⊢;exact f H1 q1 x1 λz=>s1 (ZF.mp z).1
theorem HN (ha:DT X G a b1 h1):DW X G (.BoolOp .And [a] pos) b1 h1:=⟨Ha ha.un⟩
theorem uW (ha:DT X G a b1 h1):DW X G (.BoolOp .Or [a] pos) b1 h1:=⟨Ls ha.un⟩
theorem L9 (ha:DT X G a b1 h1)(hb:DW X G (.BoolOp .And (b::rest) pos) b2 h2):DW X G (.BoolOp .And (a::b::rest) pos) (b1||b2) (Ed h1 h2):=⟨(Lu ha.un hb.un).to λ_ _ _=>Ee⟩
theorem Ai (ha:DT X G a b1 h1)(hb:DW X G (.BoolOp .Or (b::rest) pos) b2 h2):DW X G (.BoolOp .Or (a::b::rest) pos) (b1||b2) (HL h1 h2):=⟨(OE ha.un hb.un).to λ_ _ _=>HM⟩
theorem qk (ha:DT X G a b1 h1):DT X G (.UnaryOp .Not a pos) b1 (sO h1):=⟨(Dq ha.un).to λσ H Q h=>by
 obtain⟨Z,A,ρ,q,f⟩:=h;obtain⟨⟨k,ρ1⟩,e1,f⟩:=f.bind;refine⟨Z,A,ρ,q,?_⟩;rw[e1];exact λH1 q1 x1 s1=>f H1 q1 x1 s1⟩
noncomputable def L_ (g1 g2:Ev->R (U×Ev)):Ev->R (U×Ev):=λρ=>(gB g1 ρ).bind λx=>if x.1=true then g2 x.2 else .ok (.bl false,x.2)
noncomputable def Ux (g1 g2:Ev->R (U×Ev)):Ev->R (U×Ev):=λρ=>(gB g1 ρ).bind λx=>if x.1=true then .ok (.bl true,x.2) else g2 x.2
noncomputable def R4 (g1:Ev->R (U×Ev)):Ev->R (U×Ev):=λρ=>(gB g1 ρ).bind λx=>.ok (.bl (!x.1),x.2)
theorem Pg {g:Ev->R (U×Ev)}{ρ1:Ev}{k:Bool}(h:gB g ρ=.ok (k,ρ1)):g ρ=.ok (.bl k,ρ1):=by
 unfold gB at h;cases e:g ρ with
 |ok y=>
  obtain⟨u,ρ2⟩:=y;rw[e] at h;cases u<;>simp[R.bind] at h;obtain⟨rfl,rfl⟩:=h;rfl
 |exc=>rw[e] at h;simp[R.bind] at h
 |stk=>rw[e] at h;simp[R.bind] at h
theorem Ma (hn:m2≠.P:=by decide)(ha:DE X G a b1 m1 g1)(hb:DE X G (.BoolOp .And (b::rest) pos) b2 m2 g2):DE X G (.BoolOp .And (a::b::rest) pos) (b1||b2) .S (L_ g1 g2):=⟨(Lx ha.un hb.un).to λσ H Q h=>by
 obtain⟨Z,A,ρ,q,f⟩:=h;obtain⟨⟨k,ρ1⟩,e1,f⟩:=f.bind;refine⟨Z,A,ρ,q,?_⟩;rw[Pg e1];intro v H1 q1 x1 s1 vm;refine⟨k,vm.pk.bl,?_⟩;cases k with
 |true=>
  rw[hZ rfl] at f ⊢;refine⟨Z,A,ρ1,q1,?_⟩;dsimp only at f;cases e2:g2 ρ1 with
  |ok y=>rw[e2] at f;exact λv2 H2 q2 x2 s2 zY=>f v2 H2 q2 (x1.trans x2) (two s1 s2) (zY.rp hn)
  |exc=>rw[e2] at f;exact f.elim
  |stk=>rw[e2] at f;exact f.elim
 |false=>
  rw[hV V5] at f ⊢;exact f _ H1 q1 x1 (λz=>s1 (ZF.mp z).1) (wt.ofS fK)⟩
theorem Mb {op}(ha:DE X G a b1 m1 g1):DE X G (.BoolOp op [a] pos) b1 m1 g1:=⟨Lw ha.un⟩
noncomputable def Uy (h:Ev->R (Bool×Ev))(g1 g2:Ev->R (U×Ev)):Ev->R (U×Ev):=λρ=>(h ρ).bind λx=>if x.1=true then g1 x.2 else g2 x.2
noncomputable def Mc (p p':U->U->R U)(g1 g2 g3:Ev->R (U×Ev)):Ev->R (U×Ev):=λρ=>(g1 ρ).bind λx=>(g2 x.2).bind λy=>(p x.1 y.1).bind λz=>match z with
 | .bl k=>if k=true then (g3 y.2).bind λw=>(p' y.1 w.1).bind λz'=>.ok (z',w.2) else .ok (.bl false,y.2)
 |_=>.stk
noncomputable def Uz (p:U->R U)(g:Ev->R (U×Ev)):Ev->R (U×Ev):=λρ=>(g ρ).bind λx=>(p x.1).bind λz=>.ok (z,x.2)
noncomputable def aq:Ev->R (List U×Ev):=λρ=>.ok ([],ρ)
noncomputable def ae (g:Ev->R (U×Ev))(ga:Ev->R (List U×Ev)):Ev->R (List U×Ev):=λρ=>(g ρ).bind λx=>(ga x.2).bind λy=>.ok (x.1::y.1,y.2)
variable {ga:Ev->R (List U×Ev)}{p:Bool}
theorem ai:DA X G [] false p aq:=⟨cT.to λσ H Q ⟨Z,A,ρ,q,f⟩=>f [] H q dI.refl (λ_=>⟨rfl,aG.refl _⟩) (by unfold HH;split;exact rfl;exact aA.nil)⟩
theorem af (ha:DE X G e b1 m1 g1)(hr:DA X G es b2 p ga)(hm:m1=.P->(p=true/\b2=false):=by first|exact λ_=>⟨rfl,rfl⟩|exact λh=>nomatch h)
  (hs:Wm (e::es) X.env=(false,YX e X.env)::Wm es X.env:=by rfl):DA X G (e::es) (b1||b2) p (ae g1 ga):=⟨(aO ha.un hr.un hs).to λσ H Q h=>by
 obtain⟨Z,A,ρ,q,f⟩:=h;obtain⟨⟨u,ρ1⟩,e1,f⟩:=f.bind;obtain⟨⟨us,ρ2⟩,e2,f⟩:=f.bind;refine⟨Z,A,ρ,q,?_⟩;rw[e1];intro v1 H1 q1 x1 s1 sH;refine⟨Z,A,ρ1,q1,?_⟩;dsimp only at e2;rw[e2];intro vs H2 q2 x2 s2 zY;refine f (v1::vs) H2 q2 (x1.trans x2) (two s1 s2) ?_;unfold HH at zY ⊢;cases p with
 |true=>
  rw[hZ rfl] at zY ⊢;exact⟨v1,vs,rfl,sH.later q1 x2 s2 (λz=>(hm z).2),zY⟩
 |false=>
  rw[hV V5] at zY ⊢;exact aA.cons (sH.laterS q1 x2 λz=>V5 (hm z).1) zY⟩
theorem HH.pks (h:HH K p A H us vs):yO K H A us vs:=by
 unfold HH at h;cases p with
 |true=>rw[hZ rfl] at h;exact h
 |false=>rw[hV V5] at h;exact h.pks
theorem HH.rps (h:HH K false A H us vs):aA K H A us vs:=by
 unfold HH at h;rw[hV V5] at h;exact h
noncomputable def i7 (ga:Ev->R (List U×Ev)):Ev->R (U×Ev):=λρ=>(ga ρ).bind λx=>if x.1.length<=Wa then .ok (.tup x.1,x.2) else .stk
noncomputable def cM (ga:Ev->R (List U×Ev)):Ev->R (U×Ev):=λρ=>(ga ρ).bind λx=>if x.1.length<=Wa then .ok (.lst x.1,x.2) else .stk
theorem bD {p:Ww}(h:H p=none)(o:HO):aG H (bL H p o):=λb u q=>by rw[aF (ba q h)];exact q
theorem mX {a:Ww}(h:aA K H A us vs)(n:H a=none)(l:us.length<=Wa):Rp K (bL H a (.tup vs)) A (.tup us) (.ref a):=by
 unfold Rp;exact⟨a,vs,rfl,aH,l,h.same (bD n _)⟩
theorem bI {a:Ww}(m:∀b,A b->Mu (H b))(h:aA K H A us vs)(n:H a=none)(l:us.length<=Wa):jq K (bL H a (.lst vs)) (λb=>A b\/b=a) (.lst us) a:=
 ⟨vs,aH,l,h.re m (dI.same (bD n _)) λb z=>by
  rcases z with z|z
  ·exact .inl z
  ·subst z;exact .inr n⟩
theorem ql {x1}(h:DA X G es b1 false ga):DE X G (.Tuple es x1 pos) b1 .S (i7 ga):=⟨(Dy h.un).to λσ H Q h=>by
 obtain⟨Z,A,ρ,q,f⟩:=h;obtain⟨⟨us,ρ1⟩,e1,f⟩:=f.bind;refine⟨Z,A,ρ,q,?_⟩;rw[e1];intro vs H1 q1 x1 s1 sH;dsimp only at f;split at f
 ·rename_i l;refine⟨by rw[←sH.rps.length];exact l,λa n=>?_⟩;exact f _ _ (q1.same (bD n _)) (x1.trans (dI.same (bD n _))) (oU s1 (bD n _)) (wt.ofS (mX sH.rps n l))
 ·exact f.elim⟩
theorem d4 (h:DA X G es b1 false ga):DE X G (.List es pos) b1 .O (cM ga):=⟨(uN h.un).to λσ H Q h=>by
 obtain⟨Z,A,ρ,q,f⟩:=h;obtain⟨⟨us,ρ1⟩,e1,f⟩:=f.bind;refine⟨Z,A,ρ,q,?_⟩;rw[e1];intro vs H1 q1 x1 s1 sH;dsimp only at f;split at f
 ·rename_i l;refine⟨by rw[←sH.rps.length];exact l,λa n=>?_⟩;exact f _ _ (q1.same (bD n _)) (x1.trans (dI.same (bD n _))) (oU s1 (bD n _)) (B6.e q1 (bD n _) ⟨a,rfl,n,bI q1.mu sH.rps n l⟩)
 ·exact f.elim⟩
noncomputable def fO (p:List U->R U)(ga:Ev->R (List U×Ev)):Ev->R (U×Ev):=λρ=>(ga ρ).bind λx=>(p x.1).bind λz=>.ok (z,x.2)
def j6 (K:Wc)(r:List V->Hp->VK->Prop)(m:Md)(p:List U->R U):Prop:=∀A H vs us z Q,yO K H A us vs->(∀a,A a->Mu (H a))->p us=.ok z->(∀v H',aG H H'->B6 K m A H H' z v->Q v H')->r vs H Q
theorem Aj {r:List V->Hp->VK->Prop}{f:List U->R U}(hp:j6 X.K r mr f){Q:VK}(h:tD X.K G b1 mr (fO f ga) σ H Q):RT r (R3 X.K G b1 p ga) σ H Q:=by
 obtain⟨Z,A,ρ,q,f⟩:=h;obtain⟨⟨us,ρ1⟩,e1,f⟩:=f.bind;obtain⟨z,e2,f⟩:=f.bind;refine⟨Z,A,ρ,q,?_⟩;rw[e1];intro vs H1 q1 x1 s1 sH;exact hp A H1 vs us z Q sH.pks q1.mu e2 λv H' sm vm=>f v H' (q1.same sm) (x1.trans (dI.same sm)) (oU s1 sm) (vm.e q1 sm)
theorem aZ {id:String}{p1:Pos}{r:List V->Hp->VK->Prop}{f:List U->R U}(hc:cU X (.builtin id) r)(hp:j6 X.K r mr f)(hg:Gl X x)(hm:X.mg x=none)(hv:W6 x=some (.builtin id))(ha:DA X G (e::es) b1 true ga)(hn:x≠"__name__":=by decide)(v9:(x==("__debug__":Str))=false:=by decide)
  (he:Wm (e::es) X.env=(false,YX e X.env)::Wm es X.env:=by rfl) (j_:(Yp pos (Wm es X.env)).any (·.1)=false:=by rfl):DE X G (.Call (.Name x p1) (e::es) [] pos) b1 mr (fO f ga):=⟨(f7 hc hg hm hv ha.un hn v9 he j_).to λ_ _ _=>Aj hp⟩
theorem cz {p1:Pos}{r:List V->Hp->VK->Prop}{f:List U->R U}(hc:cU X (.type T) r)(hp:j6 X.K r mr f)(hg:Gl X x)(hm:X.mg x=none)(hv:W6 x=some (.type T))(ha:DA X G (e::es) b1 true ga)(hn:x≠"__name__":=by decide)(v9:(x==("__debug__":Str))=false:=by decide)(he:Wm (e::es) X.env=(false,YX e X.env)::Wm es X.env:=by rfl)(j_:(Yp pos (Wm es X.env)).any (·.1)=false:=by rfl):DE X G (.Call (.Name x p1) (e::es) [] pos) b1 mr (fO f ga):=⟨(ij hc hg hm hv ha.un hn v9 he j_).to λ_ _ _=>Aj hp⟩
end
end L2
namespace L2
section
variable {A':Ww->Prop}{ρ':Ev}{b p:Bool}{m:Md}{α:Type}
theorem jq.mono (n:∀b,A' b->A b)(h:jq K H A u a):jq K H A' u a:=by
 cases u<;>(unfold jq at h ⊢)
 case lst us=>obtain⟨xs,q,l,z⟩:=h;exact⟨xs,q,l,z.mono n⟩
 case dct ks us=>obtain⟨xs,q,l,z⟩:=h;exact⟨xs,q,l,z.mono n⟩
 all_goals exact h.elim
theorem cx {α:Type}{l:List (Option α)}{x:Option α}{y:α}(h:(l.set i x)[j]? = some (some y)):(i=j/\x=some y)\/(i≠j/\l[j]? = some (some y)):=by
 by_cases e:i=j
 ·subst e;rw[List.getElem?_set_self'] at h;refine .inl ⟨rfl,?_⟩;cases q:l[i]? with
  |none=>rw[q] at h;cases h
  |some w=>rw[q] at h;exact WS h
 ·rw[WQ e] at h;exact .inr ⟨e,h⟩
theorem pB {α:Type}{l l':List (Option α)}{x:α}{β:Type}{k:List (Option β)}{y:Option β}{z:β}(hl:k.length=l.length)(h:(k.set i y)[i]? = some (some z)):(l.set i (some x))[i]? = some (some x):=by
 have:i<l.length:=by
  have:=(We.mp h).1;rw[XI] at this;lia
 rw[Za this]
theorem cb.set (r:cb K G Z A ρ σ H)(c:G.is i=false)(h:Rp K H A u v):cb K G Z A (ρ.set i (some u)) (σ.set i (some v)) H where
 slot:=λj w hj=>by
  rcases cx hj with⟨rfl,e⟩|⟨ne,e⟩
  ·cases e;refine⟨v,pB (l':=σ) r.len hj,?_⟩;rw[hV (by rw[c];exact V5)];exact h
  ·rw[WQ ne];exact r.slot j w e
 dis:=λj k w w' a cj ck ne hj hk sj sk=>by
  rcases cx hj with⟨rfl,_⟩|⟨n1,e1⟩
  ·rw[c] at cj;cases cj
  ·rcases cx hk with⟨rfl,_⟩|⟨n2,e2⟩
   ·rw[c] at ck;cases ck
   ·rw[WQ n1] at sj;rw[WQ n2] at sk;exact r.dis j k w w' a cj ck ne e1 e2 sj sk
 mu:=r.mu
 sup:=r.sup
 out:=r.out
 bas:=r.bas
 io0:=λh0=>by
  obtain⟨a,b⟩:=r.io0 h0;refine⟨?_,b⟩;have:i≠0:=λz=>by subst z;rw[b] at c;cases c
  rw[WQ this];exact a
 len:=by rw[XI,XI];exact r.len
theorem cb.drop (r:cb K G Z A ρ σ H)(i:Nat):cb K G Z A (ρ.set i none) σ H where
 slot:=λj w hj=>by
  rcases cx hj with⟨rfl,e⟩|⟨ne,e⟩
  ·cases e
  ·exact r.slot j w e
 dis:=λj k w w' a cj ck ne hj hk sj sk=>by
  rcases cx hj with⟨rfl,e⟩|⟨n1,e1⟩
  ·cases e
  ·rcases cx hk with⟨rfl,e⟩|⟨n2,e2⟩
   ·cases e
   ·exact r.dis j k w w' a cj ck ne e1 e2 sj sk
 mu:=r.mu
 sup:=r.sup
 out:=r.out
 bas:=r.bas
 io0:=r.io0
 len:=by rw[XI];exact r.len
theorem cb.setO (r:cb K G Z A ρ σ H)(c:G.is i=true)(hi:G.io=true->i≠0)(na:¬A a)(nb:Z.B a=none)(r':cb K G Z (λb=>A b\/b=a) ρ σ H)(h:jq K H (λb=>A b\/b=a) u a) :
  cb K G Z (λb=>A b\/b=a) (ρ.set i (some u)) (σ.set i (some (.ref a))) H where
 slot:=λj w hj=>by
  rcases cx hj with⟨rfl,e⟩|⟨ne,e⟩
  ·cases e;refine⟨.ref a,pB (l':=σ) r.len hj,?_⟩;rw[hZ c];exact⟨a,rfl,.inr rfl,nb,.inl λz=>na (r.sup a z),h⟩
  ·rw[WQ ne];exact r'.slot j w e
 dis:=λj k w w' b cj ck ne hj hk sj sk=>by
  have key:∀k w',G.is k=true->i≠k->ρ[k]? = some (some w')->σ[k]? ≠ some (some (.ref a)):=λk w' ck _ e q=>by
   obtain⟨b,h1,h2,_⟩:=r.own ck e;rw[h1] at q;cases q;exact na h2
  rcases cx hj with⟨rfl,e1⟩|⟨n1,e1⟩
  ·rcases cx hk with⟨rfl,_⟩|⟨n2,e2⟩
   ·exact ne rfl
   ·rw[pB (l':=σ) r.len hj] at sj;cases sj;rw[WQ n2] at sk;exact key k w' ck n2 e2 sk
  ·rcases cx hk with⟨rfl,e2⟩|⟨n2,e2⟩
   ·rw[pB (l':=σ) r.len hk] at sk;cases sk;rw[WQ n1] at sj;exact key j w cj n1 e1 sj
   ·rw[WQ n1] at sj;rw[WQ n2] at sk;exact r.dis j k w w' b cj ck ne e1 e2 sj sk
 mu:=r'.mu
 sup:=r'.sup
 out:=r'.out
 bas:=r'.bas
 io0:=λh0=>by
  obtain⟨a,b⟩:=r.io0 h0;exact⟨by rw[WQ (hi h0)];exact a,b⟩
 len:=by rw[XI,XI];exact r.len
theorem cb.free (r:cb K G Z A ρ σ H)(c:G.is i=true)(hi:G.io=true->i≠0)(h:ρ[i]? = some (some u)):∃a A',σ[i]? = some (some (.ref a))/\cb K G Z A' (ρ.set i none) σ H/\Rp K H A' u (.ref a):=by
 obtain⟨a,h1,h2,h3,h4,h5⟩:=r.own c h;have na:¬Z.A0 a:=by
  rcases h4 with h4|⟨h4,h6⟩
  ·exact h4
  ·exact absurd h6 (hi h4)
 have sub:∀b,(A b/\b≠a)->A b:=λb z=>z.1;refine⟨a,λb=>A b/\b≠a,h1,?_,h5.rp sub λz=>z.2 rfl⟩;exact {
  slot:=λj w hj=>by
   rcases cx hj with⟨rfl,e⟩|⟨ne,e⟩
   ·cases e
   ·obtain⟨v,s1,s2⟩:=r.slot j w e;refine⟨v,s1,?_⟩;by_cases cj:G.is j=true
    ·rw[hZ cj] at s2 ⊢;obtain⟨b,e1,e2,e3,e4,e5⟩:=s2;refine⟨b,e1,⟨e2,λz=>?_⟩,e3,e4,e5.mono sub⟩;subst z e1;exact r.dis i j u w b c cj ne h e h1 s1
    ·rw[hV cj] at s2 ⊢;exact s2.mono sub
  dis:=(r.drop i).dis
  mu:=λb z=>r.mu b z.1
  sup:=λb z=>⟨r.sup b z,λe=>na (e▸z)⟩
  out:=λb z=>r.out b z.1
  bas:=r.bas
  io0:=r.io0
  len:=by rw[XI];exact r.len}
theorem cb.put (r:cb K G Z A ρ σ H){w:U}(c:G.is i=true)(h:ρ[i]? = some (some u))(ha:σ[i]? = some (some (.ref a)))(e:∀b o,b≠a->H b=some o->H' b=some o)(t:jq K H' A w a) :
  cb K G Z A (ρ.set i (some w)) σ H':=by
 obtain⟨a',h1,h2,h3,h4,h5⟩:=r.own c h;rw[ha] at h1;cases h1;have x:dI A H H':=λb o nb z=>e b o (λq=>nb (q▸h2)) z;exact {
  slot:=λj y hj=>by
   rcases cx hj with⟨rfl,q⟩|⟨ne,q⟩
   ·cases q;refine⟨.ref a,ha,?_⟩;rw[hZ c];exact⟨a,rfl,h2,h3,h4,t⟩
   ·obtain⟨v,s1,s2⟩:=r.slot j y q;refine⟨v,s1,?_⟩;by_cases cj:G.is j=true
    ·rw[hZ cj] at s2 ⊢;obtain⟨b,e1,e2,e3,e4,e5⟩:=s2;refine⟨b,e1,e2,e3,e4,e5.re r.mu x (λb z=>.inl z) λo z=>e b o (λq'=>?_) z⟩;subst q' e1;exact r.dis i j u y b c cj ne h q ha s1
    ·rw[hV cj] at s2 ⊢;exact s2.re r.mu x λb z=>.inl z
  dis:=λj k y y' b cj ck ne hj hk sj sk=>by
   have f:∀j y,(ρ.set i (some w))[j]? = some (some y)->∃y',ρ[j]? = some (some y'):=λj y hj=>by
    rcases cx hj with⟨rfl,q⟩|⟨ne,q⟩
    ·exact⟨u,h⟩
    ·exact⟨y,q⟩
   obtain⟨y1,hj⟩:=f j y hj;obtain⟨y2,hk⟩:=f k y' hk;exact r.dis j k y1 y2 b cj ck ne hj hk sj sk
  mu:=λb z=>by
   by_cases q:b=a
   ·subst q;exact t.mu
   ·have m:=r.mu b z;obtain⟨o,z⟩:=m.ex;rw[e b o q z,←z];exact m
  sup:=r.sup
  out:=r.out
  bas:=λb o z=>e b o (λq=>by subst q;rw[h3] at z;cases z) (r.bas b o z)
  io0:=r.io0
  len:=by rw[XI];exact r.len}
end
def HP (K:Wc)(m:Md)(A:Ww->Prop)(H:Hp):R U->VK->Prop
 | .ok u,Q=>∀v H',aG H H'->B6 K m A H H' u v->Q v H'
 |_,_=>False
noncomputable def wN {α:Type}(n:Nat)(g:List U->R α)(us:List U):R α:=if us.length=n then g us else .stk
def jP (K:Wc)(n:Nat)(f:List U->R U)(m:Md):Sp:=λvs H Q _=>∃us A,aA K H A us vs/\(∀a,A a->Mu (H a))/\HP K m A H (wN n f us) Q
def Dg (K:Wc)(n:Nat)(f:List U->R (U×U)):Sp:=λvs H Q _=>∃u0 us a0 vs' A,vs=.ref a0::vs'/\A a0/\jq K H A u0 a0/\aA K H A us vs'/\(∀a,A a->Mu (H a))/\match wN n f (u0::us) with
 | .ok (u,w)=>∀v H',(∀b o,b≠a0->H b=some o->H' b=some o)->jq K H' A w a0->Rp K H' A u v->Q v H'
 |_=>False
section
variable {e a b:X4}{es rest:List X4}{p1:Pos}{b1 b2 b3:Bool}{m1 m2 m3 mr:Md}{g1 g2 g3:Ev->R (U×Ev)}{h1 h2:Ev->R (Bool×Ev)}{ga:Ev->R (List U×Ev)}
noncomputable def ip (n:Nat)(f:List U->R U)(ga:Ev->R (List U×Ev)):Ev->R (U×Ev):=λρ=>(ga ρ).bind λx=>(wN n f x.1).bind λz=>.ok (z,x.2)
theorem a_ {f:List U->R U}(F:Fn X.prog X.w X.K X.mg X.base x k ps (jP X.K n f mr))(hr:dw k X.A)(ha:DA X G (e::es) b1 false ga)(hg:Gl X x:=by rfl)(v9:(x==("__debug__":Str))=false:=by decide)(he:Wm (e::es) X.env=(false,YX e X.env)::Wm es X.env:=by rfl)(j_:(Yp pos (Wm es X.env)).any (·.1)=false:=by rfl):DE X G (.Call (.Name x p1) (e::es) [] pos) b1 mr (ip n f ga):=⟨(wK F hr ha.un hg v9 he j_).to λσ H Q h=>by
 obtain⟨Z,A,ρ,q,f⟩:=h;obtain⟨⟨us,ρ1⟩,e1,f⟩:=f.bind;obtain⟨z,e2,f⟩:=f.bind;refine⟨Z,A,ρ,q,?_⟩;rw[e1];intro vs H1 q1 x1 s1 sH;show jP _ _ _ _ _ _ _ _;rw[WN];refine⟨us,A,sH.rps,q1.mu,?_⟩;dsimp only at e2;rw[e2];exact λv H' sm vm=>f v H' (q1.same sm) (x1.trans (dI.same sm)) (oU s1 sm) (vm.e q1 sm)⟩
noncomputable def Ef (ρ:Ev)(i:Nat):Bool:=match ρ[i]? with
 |some (some _)=>true
 |_=>false
theorem uX (h:Ef ρ i=true):∃u,ρ[i]? = some (some u):=by
 unfold Ef at h;split at h
 ·rename_i u hu;exact⟨u,hu⟩
 ·cases h
noncomputable def jQ (n i:Nat)(f:List U->R (U×U))(ga:Ev->R (List U×Ev)):Ev->R (U×Ev):=λρ=>if Ef ρ i=true then (ga ρ).bind λx=>match x.2[i]? with
 |some (some u0)=>(wN n f (u0::x.1)).bind λz=>.ok (z.1,x.2.set i (some z.2))
 |_=>.stk
 else .stk
theorem bZ {y:Str}{f:List U->R (U×U)}(F:Fn X.prog X.w X.K X.mg X.base x k ps (Dg X.K n f))(hr:dw k X.A)(ha:DA X G es b1 false ga)(hN:X.N[i]? = some y:=by rfl)(hv:yx X.env.scope y:=by first|exact Or.inl rfl|exact Or.inr (Or.inl rfl)|exact Or.inr (Or.inr rfl))(c:G.is i=true:=by rfl)(hd:(y==("__debug__":Str))=false:=by decide)(iF:(y==("__classdict__":Str))=false:=by decide)(hs:Wm (.Name y p2::es) X.env=(false,YX (.Name y p2) X.env)::Wm es X.env:=by rfl)(hg:Gl X x:=by rfl)(v9:(x==("__debug__":Str))=false:=by decide)(j_:(Yp pos (Wm es X.env)).any (·.1)=false:=by rfl):DE X G (.Call (.Name x p1) (.Name y p2::es) [] pos) true .S (jQ n i f ga):=⟨(wK F hr (aO (eJ hN hv hd iF) ha.un hs) hg v9 hs j_).to λσ H Q h=>by
 obtain⟨Z,A,ρ,q,f⟩:=h;unfold jQ at f;split at f
 ·rename_i hl;obtain⟨u00,hu0⟩:=uX hl;obtain⟨a0,h0,_⟩:=q.own c hu0;obtain⟨⟨us,ρ1⟩,e1,f⟩:=f.bind;dsimp only at f;split at f
  ·rename_i u0 hu;obtain⟨⟨z,w⟩,e2,f⟩:=f.bind;refine⟨.ref a0,h0,Z,A,ρ,q,?_⟩;rw[e1];intro vs H1 q1 x1 s1 sH;obtain⟨a0',k1,k2,_,_,k3⟩:=q1.own c hu;rw[h0] at k1;cases k1;show Dg _ _ _ _ _ _ _;rw[WN];refine⟨u0,us,a0,vs,A,rfl,k2,k3,sH.rps,q1.mu,?_⟩;rw[e2];intro v H' em tp rp;exact f v H' (q1.put c hu h0 em tp) (x1.trans λb o nb z=>em b o (λy=>nb (y▸k2)) z) (λz=>nomatch z) rp
  ·exact f.elim
 ·exact f.elim⟩
def wO (K:Wc)(T:String)(r:V->List V->Hp->VK->Prop)(p:U->List U->R (U×U)):Prop:=∀A H a u vs us z w Q,jq K H A u a->A a->aA K H A us vs->(∀a,A a->Mu (H a))->p u us=.ok (z,w)->
 (∀v H',(∀b o,b≠a->H b=some o->H' b=some o)->jq K H' A w a->Rp K H' A z v->Q v H')->r (.ref a) vs H Q
noncomputable def B7:U->String->Bool
 | .lst _,T=>T=="list"
 |_,_=>false
theorem Eg {a:Ww}(h:jq K H A u a)(t:B7 u T=true):QV K T (.ref a) H:=by
 cases u<;>(unfold B7 at t;unfold jq at h)
 case lst us=>
  obtain⟨xs,q,_⟩:=h;exact .inl ⟨by simpa using t,xs,.inl (.inl q)⟩
 all_goals cases t
noncomputable def gM (T:String)(i:Nat)(p:U->List U->R (U×U))(ga:Ev->R (List U×Ev)):Ev->R (U×Ev):=λρ=>match ρ[i]? with
 |some (some u1)=>if B7 u1 T=true then (ga ρ).bind λx=>match x.2[i]? with
  |some (some u0)=>(p u0 x.1).bind λz=>.ok (z.1,x.2.set i (some z.2))
  |_=>.stk
  else .stk
 |_=>.stk
theorem Eh {r:V->List V->Hp->VK->Prop}{p:U->List U->R (U×U)}(hp:wO X.K T r p)(c:G.is i=true){Q:VK}(h:tD X.K G true .S (gM T i p ga) σ H Q) :
  TC X.K T r (Dl i) (R3 X.K G b1 false ga) σ H Q:=by
 obtain⟨Z,A,ρ,q,f⟩:=h;unfold gM at f;split at f
 ·rename_i u1 nN;split at f
  ·rename_i ht;obtain⟨a0,h0,_,_,_,t0⟩:=q.own c nN;obtain⟨⟨us,ρ1⟩,e1,f⟩:=f.bind;dsimp only at f;split at f
   ·rename_i u0 hu;obtain⟨⟨z,w⟩,e2,f⟩:=f.bind;refine⟨.ref a0,h0,Eg t0 ht,Z,A,ρ,q,?_⟩;rw[e1];intro vs H1 q1 x1 s1 sH;obtain⟨a0',k1,k2,_,_,k3⟩:=q1.own c hu;rw[h0] at k1;cases k1;exact hp A H1 a0 u0 vs us z w Q k3 k2 sH.rps q1.mu e2 λv H' em tp rp=>f v H' (q1.put c hu h0 em tp) (x1.trans λb o nb z=>em b o (λy=>nb (y▸k2)) z) (λz=>nomatch z) rp
   ·exact f.elim
  ·exact f.elim
 ·exact f.elim
theorem B8 {r:V->List V->Hp->VK->Prop}{p:U->List U->R (U×U)}(hp:wO X.K T r p)(c:G.is i=true){Q:VK}(h:tD X.K G true .S (gM T i p aq) σ H Q) :
  O4 X.K T r (Dl i) σ H Q:=by
 obtain⟨Z,A,ρ,q,f⟩:=h;unfold gM at f;split at f
 ·rename_i u1 nN;split at f
  ·rename_i ht;obtain⟨a0,h0,k2,_,_,t0⟩:=q.own c nN;obtain⟨⟨us,ρ1⟩,e1,f⟩:=f.bind;cases e1;dsimp only at f;rw[nN] at f;obtain⟨⟨z,w⟩,e2,f⟩:=f.bind;exact⟨.ref a0,h0,Eg t0 ht,hp A H a0 u1 [] [] z w Q t0 k2 aA.nil q.mu e2 λv H' em tp rp=>f v H' (q.put c nN h0 em tp) (λb o nb z=>em b o (λy=>nb (y▸k2)) z) (λz=>nomatch z) rp⟩
  ·exact f.elim
 ·exact f.elim
theorem qm {id:String}{y:Str}{cR:Pos}{r:V->List V->Hp->VK->Prop}{p:U->List U->R (U×U)}(pa:PlainAttrs T)(slot:Slot T name id)(NO:typeOf (.builtin id)=pure (.type "method_descriptor"))(hm:C_ X id r)(hp:wO X.K T r p)(ha:DA X G (e::es) b1 false ga)(hN:X.N[i]? = some y:=by rfl)(hv:yx X.env.scope y:=by first|exact Or.inl rfl|exact Or.inr (Or.inl rfl)|exact Or.inr (Or.inr rfl))(c:G.is i=true:=by rfl)(hd:(y==("__debug__":Str))=false:=by decide)(iF:(y==("__classdict__":Str))=false:=by decide)(r9:Zy (.Name y p2) name X.env (YX (.Name y p2) X.env)=YX (.Name y p2) X.env:=by rfl)(NP:((Yp pos (Wm (e::es) X.env)).all (λx=> !x.1)&&(backToKw pos (keywordEach [] X.env)).all (λx=>x.1.isSome)
   && decide ((e::es).length+([]:List abE).length+(if ([]:List abE).isEmpty then 0 else 1)<30))=true:=by rfl)(r_:(cR.endLine==pos.line)=true:=by rfl)(hs:Wm (e::es) X.env=(false,YX e X.env)::Wm es X.env:=by rfl)(zV:(Yp pos (Wm es X.env)).any (·.1)=false:=by rfl) :
  DE X G (.Call (.Attribute (.Name y p2) name cR) (e::es) [] pos) true .S (gM T i p ga):=⟨(DL pa slot NO hm (eJ hN hv hd iF) ha.un r9 NP r_ hs zV).to λ_ _ _=>Eh hp c⟩
theorem HQ {id:String}{y:Str}{cR:Pos}{r:V->List V->Hp->VK->Prop}{p:U->List U->R (U×U)}(pa:PlainAttrs T)(slot:Slot T name id)(NO:typeOf (.builtin id)=pure (.type "method_descriptor"))(hm:C_ X id r)(hp:wO X.K T r p)(hN:X.N[i]? = some y:=by rfl)(hv:yx X.env.scope y:=by first|exact Or.inl rfl|exact Or.inr (Or.inl rfl)|exact Or.inr (Or.inr rfl))(c:G.is i=true:=by rfl)(hd:(y==("__debug__":Str))=false:=by decide)(iF:(y==("__classdict__":Str))=false:=by decide)(r9:Zy (.Name y p2) name X.env (YX (.Name y p2) X.env)=YX (.Name y p2) X.env:=by rfl)(r_:(cR.endLine==pos.line)=true:=by rfl) :
  DE X G (.Call (.Attribute (.Name y p2) name cR) [] [] pos) true .S (gM T i p aq):=⟨(LV pa slot NO hm (eJ hN hv hd iF) r9 r_).to λ_ _ _=>B8 hp c⟩
def Ei (K:Wc)(r:V->Option Int->Option Int->Hp->VK->Prop)(m:Md)(p:U->Option Int->Option Int->R U):Prop:=∀A H x u lo hi z Q,Pk K H A u x->(∀a,A a->Mu (H a))->p u lo hi=.ok z->(∀v H',aG H H'->B6 K m A H H' z v->Q v H')->r x lo hi H Q
def R5 (K:Wc)(G:Gm)(Z:Pkg)(A:Ww->Prop)(b:Bool)(ρ:Ev)(σ:St)(H:Hp):R (Option Int×Ev)->(Option Int->Hp->Prop)->Prop
 | .ok (c,ρ'),Q=>∀H',cb K G Z A ρ' σ H'->dI A H H'->(b=false->ρ'=ρ/\aG H H')->Q c H'
 |_,_=>False
def UA (K:Wc)(G:Gm)(b:Bool)(g:Ev->R (Option Int×Ev)):TO:=λσ H Q=>∃Z A ρ,cb K G Z A ρ σ H/\R5 K G Z A b ρ σ H (g ρ) Q
structure DO (X:Cx)(G:Gm)(e:Option X4)(b:Bool)(g:Ev->R (Option Int×Ev)):Prop where
 un:PO X e (UA X.K G b g)
noncomputable def bN:Ev->R (Option Int×Ev):=λρ=>.ok (none,ρ)
noncomputable def bE (g:Ev->R (U×Ev)):Ev->R (Option Int×Ev):=λρ=>(g ρ).bind λx=>match x.1 with
 | .int i=>.ok (some i,x.2)
 |_=>.stk
theorem PO.to {e:Option X4}{t t':TO}(h:PO X e t)(i:∀σ H Q,t' σ H Q->t σ H Q):PO X e t':=λpins s σ H Q I q=>h pins s σ H Q I (i _ _ _ q)
theorem d8:DO X G none false bN:=⟨Hn.to λσ H Q ⟨Z,A,ρ,q,f⟩=>f H q dI.refl λ_=>⟨rfl,aG.refl _⟩⟩
theorem dj (h:DE X G e b1 m1 g1):DO X G (some e) b1 (bE g1):=⟨(Ho h.un).to λσ H Q h00=>by
 obtain⟨Z,A,ρ,q,f⟩:=h00;refine⟨Z,A,ρ,q,?_⟩;unfold bE at f;cases e1:g1 ρ with
 |stk=>rw[e1] at f;exact f.elim
 |exc=>rw[e1] at f;exact f.elim
 |ok x=>
  obtain⟨u,ρ1⟩:=x;rw[e1] at f;intro v H1 q1 x1 s1 vm;cases u with
  |int c=>exact⟨c,vm.pk.int,f H1 q1 x1 s1⟩
  |_=>exact f.elim⟩
noncomputable def j7 (p:U->Option Int->Option Int->R U)(g:Ev->R (U×Ev))(lo hi:Ev->R (Option Int×Ev)):Ev->R (U×Ev):=λρ=>(g ρ).bind λx=>(lo x.2).bind λl=>(hi l.2).bind λh=>(p x.1 l.1 h.1).bind λz=>.ok (z,h.2)
theorem cN {r:V->Option Int->Option Int->Hp->VK->Prop}{p:U->Option Int->Option Int->R U}{lo hi:Option X4}{gl gh:Ev->R (Option Int×Ev)}(hr:DF X r)(hp:Ei X.K r mr p)(he:DE X G e b1 m1 g1)(hl:DO X G lo b2 gl)(hu:DO X G hi b3 gh)(hm:m1=.P->(b2||b3)=false:=by first|exact λ_=>rfl|exact λh=>nomatch h):DE X G (.Subscript e (.Slice lo hi none p2) pos) (b1||(b2||b3)) mr (j7 p g1 gl gh):=⟨(DH hr he.un hl.un hu.un).to λσ H Q h=>by
 obtain⟨Z,A,ρ,q,f⟩:=h;obtain⟨⟨u,ρ1⟩,e1,f⟩:=f.bind;obtain⟨⟨l,ρ2⟩,e2,f⟩:=f.bind;obtain⟨⟨h,ρ3⟩,e3,f⟩:=f.bind;obtain⟨z,e4,f⟩:=f.bind;dsimp only at e2 e3 e4 f;refine⟨Z,A,ρ,q,?_⟩;rw[e1];intro v1 H1 q1 x1 s1 sH;refine⟨Z,A,ρ1,q1,?_⟩;rw[e2];intro H2 q2 x2 s2;refine⟨Z,A,ρ2,q2,?_⟩;rw[e3];intro H3 q3 x3 s3;exact hp A H3 v1 u l h z Q (sH.later q1 (x2.trans x3) (two s2 s3) hm) q3.mu e4 λv H' sm vm=>f v H' (q3.same sm) ((x1.trans (x2.trans x3)).trans (dI.same sm)) (oU (two s1 (two s2 s3)) sm) (vm.e q3 sm)⟩
end
end L2
namespace L2
def R6 (K:Wc)(G:Gm)(sg:U->Ev->R Ev):TG:=λv σ H Q=>∃Z A ρ u,cb K G Z A ρ σ H/\Rp K H A u v/\match sg u ρ with
 | .ok ρ'=>∀σ',cb K G Z A ρ' σ' H->(∀i,G.is i=true->σ'[i]? = σ[i]?)->Q σ' H
 |_=>False
structure DG (X:Cx)(G:Gm)(tg:X4)(sg:U->Ev->R Ev):Prop where
 un:PG X tg (R6 X.K G sg)
def R7 (K:Wc)(G:Gm)(sg:List U->Ev->R Ev):Hd:=λvs σ H Q=>∃Z A ρ us,cb K G Z A ρ σ H/\aA K H A us vs/\match sg us ρ with
 | .ok ρ'=>∀σ',cb K G Z A ρ' σ' H->(∀i,G.is i=true->σ'[i]? = σ[i]?)->Q σ' H
 |_=>False
structure QX (X:Cx)(G:Gm)(tgs:List X4)(sg:List U->Ev->R Ev):Prop where
 un:JJ X tgs (R7 X.K G sg)
noncomputable def cE (i:Nat):U->Ev->R Ev:=λu ρ=>.ok (ρ.set i (some u))
noncomputable def wQ:List U->Ev->R Ev:=λus ρ=>match us with
 | []=>.ok ρ
 |_=>.stk
noncomputable def jr (s:U->Ev->R Ev)(t:List U->Ev->R Ev):List U->Ev->R Ev:=λus ρ=>match us with
 |u::r=>(s u ρ).bind λρ1=>t r ρ1
 |_=>.stk
noncomputable def wR (n:Nat)(t:List U->Ev->R Ev):U->Ev->R Ev:=λu ρ=>match u with
 | .tup us=>if us.length=n then t us ρ else .stk
 |_=>.stk
theorem JJ.to {es:List X4}{t t':Hd}(h:JJ X es t)(i:∀v σ H Q,t' v σ H Q->t v σ H Q):JJ X es t':=λpins s σ H v u Q I r q=>h pins s σ H v u Q I r (i _ _ _ _ q)
theorem aT (hN:X.N.Nodup)(hi:X.N[i]? = some x:=by rfl)(hx:GY X.env.scope x:=by first|exact Or.inl rfl|exact Or.inr rfl)(c:G.is i=false:=by rfl)(hf:X.fn x=true\/X.env.scope.names.lookup x=some .local:=by first|exact .inl rfl|exact .inr rfl|assumption):DG X G (.Name x pos) (cE i):=⟨(He hN hi hx hf).to λv σ H Q ⟨Z,A,ρ,u,q,r,f⟩=>f _ (q.set c r) λj cj=>by
  have:i≠j:=λz=>by subst z;rw[c] at cj;cases cj
  rw[WQ this]⟩
theorem HU:QX X G [] wQ:=⟨Hf.to λvs σ H Q h00=>by
 obtain⟨Z,A,ρ,us,q,r,f⟩:=h00;unfold wQ at f;cases us with
 |nil=>unfold aA at r;exact⟨r,f σ q λ_ _=>rfl⟩
 |cons=>exact f.elim⟩
theorem wU {e:X4}{es:List X4}{s:U->Ev->R Ev}{t:List U->Ev->R Ev}(h1:DG X G e s)(h2:QX X G es t)
  (hs:(Y9 (e::es) X.env).map (·.2)=assign e X.env::(Y9 es X.env).map (·.2):=by rfl):QX X G (e::es) (jr s t):=⟨(Ds h1.un h2.un hs).to λvs σ H Q h00=>by
 obtain⟨Z,A,ρ,us,q,r,f⟩:=h00;unfold jr at f;cases us with
 |nil=>exact f.elim
 |cons u us=>
  unfold aA at r;obtain⟨v,vr,rfl,r1,r2⟩:=r;dsimp only at f;refine⟨v,vr,rfl,Z,A,ρ,u,q,r1,?_⟩;cases e1:s u ρ with
  |ok ρ1=>
   rw[e1] at f;simp only[R.bind] at f;intro σ1 q1 o1;refine⟨Z,A,ρ1,us,q1,r2,?_⟩;cases e2:t us ρ1 with
   |ok ρ2=>rw[e2] at f;exact λσ2 q2 o2=>f σ2 q2 λi c=>(o2 i c).trans (o1 i c)
   |exc=>rw[e2] at f;exact f.elim
   |stk=>rw[e2] at f;exact f.elim
  |exc=>rw[e1] at f;exact f.elim
  |stk=>rw[e1] at f;exact f.elim⟩
theorem Me {es:List X4}{t:List U->Ev->R Ev}(hc:X.calm=true)(h:QX X G es t)(hn:(Y9 es X.env).length=n:=by rfl)(fU:(Y9 es X.env).findIdx? (·.1)=none:=by rfl):DG X G (.Tuple es k pos) (wR n t):=⟨(Lz hc h.un hn fU).to λv σ H Q h00=>by
 obtain⟨Z,A,ρ,u,q,r,f⟩:=h00;unfold wR at f;cases u with
 |tup us=>
  unfold Rp at r;obtain⟨a,xs,rfl,sq,l,rs⟩:=r;dsimp only at f;by_cases hl:us.length=n
  ·rw[hZ hl] at f;exact⟨a,xs,rfl,eZ.of sq,by rw[←rs.length];exact hl,Z,A,ρ,us,q,rs,f⟩
  ·rw[hV hl] at f;exact f.elim
 |_=>exact f.elim⟩
def UB (K:Wc)(Z:Pkg)(m:Md)(H:Hp)(u:U)(v:V):Prop:=match m with
 | .S=>Rp K H Z.A0 u v
 | .O=>∃a,v=.ref a/\Z.B a=none/\¬Z.A0 a/\jq K H (λb=>Z.A0 b\/b=a) u a
 | .P=>False
def qo (K:Wc)(G:Gm)(Z:Pkg)(m:Md):SR->km->Prop
 | .nx ρ',D=>∀A' σ' H',cb K G Z A' ρ' σ' H'->D.nx σ' H'
 | .bk ρ',D=>∀A' σ' H',cb K G Z A' ρ' σ' H'->D.bk σ' H'
 | .ct ρ',D=>∀A' σ' H',cb K G Z A' ρ' σ' H'->D.ct σ' H'
 | .rt u ρ',D=>∀A' σ' H' v,cb K G Z A' ρ' σ' H'->UB K Z m H' u v->D.rt v H'
 | .exc _ _,_=>∀H',(∀a o,Z.B a=some o->H' a=some o)->G.W H'
 | .stk,_=>False
def Oh (K:Wc)(G:Gm)(m:Md)(g:Ev->SR):TS:=λD σ H=>∃Z A ρ,cb K G Z A ρ σ H/\qo K G Z m (g ρ) D
structure DS (X:Cx)(G:Gm)(m:Md)(st:aaX)(g:Ev->SR):Prop where
 un:PS X st (Oh X.K G m g)
structure tQ (X:Cx)(G:Gm)(m:Md)(st:List aaX)(g:Ev->SR):Prop where
 un:pR X st (Oh X.K G m g)
noncomputable def bF:Ev->SR:=.nx
noncomputable def aD (g1 g2:Ev->SR):Ev->SR:=λρ=>match g1 ρ with
 | .nx ρ'=>g2 ρ'
 |r=>r
noncomputable def SR.of {α:Type}:R α->(α->SR)->SR
 | .ok a,f=>f a
 |_,_=>.stk
section
variable {m:Md}{α:Type}
theorem qo.of {x:R α}{k:α->SR}{D:km}(f:qo K G Z m (SR.of x k) D):∃a,x=.ok a/\qo K G Z m (k a) D:=by
 cases x with
 |ok a=>exact⟨a,rfl,f⟩
 |exc=>exact f.elim
 |stk=>exact f.elim
end
section
variable {e a b:X4}{JF rest:List aaX}{es:List X4}{p1:Pos}{b1 b2 b3:Bool}{m m1 m2 m3 mr:Md}{g1 g2 g3:Ev->R (U×Ev)}{h1 h2:Ev->R (Bool×Ev)}{ga:Ev->R (List U×Ev)}{s1 s2:Ev->SR}
theorem bb:tQ X G m [] bF:=⟨uL.to λD σ H ⟨Z,A,ρ,q,f⟩=>f A σ H q⟩
theorem ar (h:DS X G m st s1):tQ X G m [st] s1:=⟨jM h.un⟩
theorem ah (ha:DS X G m st s1)(hb:tQ X G m rest s2):tQ X G m (st::rest) (aD s1 s2):=⟨(jj ha.un hb.un).to λD σ H h00=>by
 obtain⟨Z,A,ρ,q,f⟩:=h00;refine⟨Z,A,ρ,q,?_⟩;unfold aD at f;cases e:s1 ρ with
 |nx ρ1=>rw[e] at f;exact λA1 σ1 H1 q1=>⟨Z,A1,ρ1,q1,f⟩
 |rt=>rw[e] at f;exact f
 |bk=>rw[e] at f;exact f
 |ct=>rw[e] at f;exact f
 |exc=>rw[e] at f;exact f
 |stk=>rw[e] at f;exact f⟩
noncomputable def Mf:Ev->SR:=.bk
noncomputable def Ph:Ev->SR:=.ct
noncomputable def ke (g:Ev->R (U×Ev)):Ev->SR:=λρ=>SR.of (g ρ) λx=>.nx x.2
theorem lb (h:DE X G e b1 m1 g1)(hs:Z4 e none pos.line X.env=pure false:=by rfl):DS X G m (.Expr e pos) (ke g1):=⟨(Hb h.un hs).to λD σ H h00=>by
 obtain⟨Z,A,ρ,q,f⟩:=h00;obtain⟨⟨u,ρ1⟩,e1,f⟩:=f.of;refine⟨Z,A,ρ,q,?_⟩;rw[e1];exact λv H1 q1 _ _ _=>f A σ H1 q1⟩
noncomputable def bA (g:Ev->R (U×Ev)):Ev->SR:=λρ=>SR.of (g ρ) λx=>.rt x.1 x.2
theorem bj (h:DE X G e b1 m1 g1)(hn:m1≠.P:=by decide):DS X G .S (.Return (some e) pos) (bA g1):=⟨(kn h.un).to λD σ H h00=>by
 obtain⟨Z,A,ρ,q,f⟩:=h00;obtain⟨⟨u,ρ1⟩,e1,f⟩:=f.of;refine⟨Z,A,ρ,q,?_⟩;rw[e1];exact λv H1 q1 _ _ vm=>f A σ H1 v q1 ((vm.rp hn).mono q1.sup)⟩
theorem jR (h:DE X G e b1 .O g1):DS X G .O (.Return (some e) pos) (bA g1):=⟨(kn h.un).to λD σ H h00=>by
 obtain⟨Z,A,ρ,q,f⟩:=h00;obtain⟨⟨u,ρ1⟩,e1,f⟩:=f.of;refine⟨Z,A,ρ,q,?_⟩;rw[e1];intro v H1 q1 _ _ vm;obtain⟨a,rfl,na,nb,_,t⟩:=vm;exact f A σ H1 _ q1 ⟨a,rfl,nb,λz=>na (q1.sup a z),t.mono λb z=>z.imp (q1.sup b) id⟩⟩
theorem HV (hm:m≠.P:=by decide)(hi:G.io=true->i≠0)(hN:X.N[i]? = some x:=by rfl)(hv:yx X.env.scope x:=by first|exact Or.inl rfl|exact Or.inr (Or.inl rfl)|exact Or.inr (Or.inr rfl))(hd:(x==("__debug__":Str))=false:=by decide)(iF:(x==("__classdict__":Str))=false:=by decide)(c:G.is i=true:=by rfl):DS X G m (.Return (some (.Name x p1)) pos) (bA (aa i)):=⟨(kn (eJ hN hv hd iF)).to λD σ H h00=>by
 obtain⟨Z,A,ρ,q,f⟩:=h00;obtain⟨⟨u,ρ1⟩,e1,f⟩:=f.of;unfold aa at e1;split at e1
 ·rename_i u' hu;cases e1;obtain⟨a,h1,h2,h3,h4,h5⟩:=q.own c hu;have na:¬Z.A0 a:=by
   rcases h4 with h4|⟨h4,h6⟩
   ·exact h4
   ·exact absurd h6 (hi h4)
  refine⟨.ref a,h1,f A σ H _ q ?_⟩;cases m with
  |S=>exact h5.rp q.sup na
  |O=>exact⟨a,rfl,h3,na,h5.mono λb z=>by
    rcases z with z|z
    ·exact q.sup b z
    ·subst z;exact h2⟩
  |P=>exact absurd rfl hm
 ·cases e1⟩
noncomputable def aX (i:Nat)(g:Ev->R (U×Ev)):Ev->SR:=λρ=>SR.of (g ρ) λx=>.nx (x.2.set i (some x.1))
theorem wV (c:G.is i=false)(hn:m1≠.P)(hi:∀σ H Q,tD X.K G b1 m1 g1 σ H Q->te σ H Q){D:km}(h:Oh X.K G m (aX i g1) D σ H):Dt te (wz i) D σ H:=by
 obtain⟨Z,A,ρ,q,f⟩:=h;obtain⟨⟨u,ρ1⟩,e1,f⟩:=f.of;refine hi _ _ _ ⟨Z,A,ρ,q,?_⟩;rw[e1];exact λv H1 q1 _ _ vm=>f A _ H1 (q1.set c (vm.rp hn))
theorem B9 (c:G.is i=true)(h0:G.io=true->i≠0)(hi:∀σ H Q,tD X.K G b1 .O g1 σ H Q->te σ H Q){D:km}(h:Oh X.K G m (aX i g1) D σ H):Dt te (wz i) D σ H:=by
 obtain⟨Z,A,ρ,q,f⟩:=h;obtain⟨⟨u,ρ1⟩,e1,f⟩:=f.of;refine hi _ _ _ ⟨Z,A,ρ,q,?_⟩;rw[e1];intro v H1 q1 _ _ vm;obtain⟨a,rfl,na,nb,r,t⟩:=vm;exact f _ _ H1 (q1.setO c h0 na nb r t)
theorem bo (hN:X.N.Nodup)(h:DE X G e b1 m1 g1)(hi:X.N[i]? = some x:=by rfl)(hx:GY X.env.scope x:=by first|exact Or.inl rfl|exact Or.inr rfl)(c:G.is i=false:=by rfl)(hn:m1≠.P:=by decide)(hs:Z4 e (some (.Name x p1)) pos.line X.env=pure false:=by rfl)(hf:X.fn x=true\/X.env.scope.names.lookup x=some .local:=by first|exact .inl rfl|exact .inr rfl|assumption):DS X G m (.Assign [.Name x p1] e pos) (aX i g1):=⟨(pT hN hi hx h.un hs hf).to λ_ _ _=>wV c hn λ_ _ _ h=>h⟩
theorem dk (hN:X.N.Nodup)(h:DE X G e b1 .O g1)(h0:G.io=true->i≠0:=by decide)(hi:X.N[i]? = some x:=by rfl)(hx:GY X.env.scope x:=by first|exact Or.inl rfl|exact Or.inr rfl)(c:G.is i=true:=by rfl)(hs:Z4 e (some (.Name x p1)) pos.line X.env=pure false:=by rfl)(hf:X.fn x=true\/X.env.scope.names.lookup x=some .local:=by first|exact .inl rfl|exact .inr rfl|assumption):DS X G m (.Assign [.Name x p1] e pos) (aX i g1):=⟨(pT hN hi hx h.un hs hf).to λ_ _ _=>B9 c h0 λ_ _ _ h=>h⟩
noncomputable def lh (i j:Nat):Ev->SR:=λρ=>match ρ[j]? with
 |some (some u)=>.nx ((ρ.set j none).set i (some u))
 |_=>.stk
theorem pD {y:Str}(hN:X.N.Nodup)(h0:G.io=true->j≠0:=by decide)(hj:X.N[j]? = some y:=by rfl)(hv:yx X.env.scope y:=by first|exact Or.inl rfl|exact Or.inr (Or.inl rfl)|exact Or.inr (Or.inr rfl))(hd:(y==("__debug__":Str))=false:=by decide)(iF:(y==("__classdict__":Str))=false:=by decide)(cj:G.is j=true:=by rfl)(hi:X.N[i]? = some x:=by rfl)(hx:GY X.env.scope x:=by first|exact Or.inl rfl|exact Or.inr rfl)(c:G.is i=false:=by rfl)(hs:Z4 (.Name y p2) (some (.Name x p1)) pos.line X.env=pure false:=by rfl)(hf:X.fn x=true\/X.env.scope.names.lookup x=some .local:=by first|exact .inl rfl|exact .inr rfl|assumption):DS X G m (.Assign [.Name x p1] (.Name y p2) pos) (lh i j):=⟨(pT hN hi hx (eJ hj hv hd iF) hs hf).to λD σ H h00=>by
 obtain⟨Z,A,ρ,q,f⟩:=h00;unfold lh at f;split at f
 ·rename_i u hu;obtain⟨a,A',h1,r,p⟩:=q.free cj h0 hu;exact⟨.ref a,h1,f A' _ H (r.set c p)⟩
 ·exact f.elim⟩
noncomputable def R8 (sg:U->Ev->R Ev)(g:Ev->R (U×Ev)):Ev->SR:=λρ=>SR.of (g ρ) λx=>SR.of (sg x.1 x.2) .nx
noncomputable def HW (i j:Nat)(ga:Ev->R (List U×Ev)):Ev->SR:=λρ=>SR.of (ga ρ) λx=>match x.1 with
 | [u,w]=>.nx ((x.2.set i (some u)).set j (some w))
 |_=>.stk
theorem Mg {y:Str}{a b:X4}{px py pt:Pos}{kt k2 pt2}(hc:X.calm=true)(hN:X.N.Nodup)(ha:DA X G [a,b] b1 false ga)(hi:X.N[i]? = some x:=by rfl)(hj:X.N[j]? = some y:=by rfl)(tf:i≠j:=by decide)(hx:X.env.scope.names.lookup x=some .local:=by rfl)(hy:X.env.scope.names.lookup y=some .local:=by rfl)(ci:G.is i=false:=by rfl)(cj:G.is j=false:=by rfl)(hw:swappedStores [.Tuple [.Name x px,.Name y py] kt pt] (.Tuple [a,b] k2 pt2) X.env=pure (some [x,y]):=by rfl)(hs:swapsWithSole [.Tuple [.Name x px,.Name y py] kt pt] (.Tuple [a,b] k2 pt2) pos.line X.env=pure false:=by rfl) :
  DS X G m (.Assign [.Tuple [.Name x px,.Name y py] kt pt] (.Tuple [a,b] k2 pt2) pos) (HW i j ga):=⟨(LC hc hN hi hj tf hx hy ha.un hw hs).to λD σ H h00=>by
 obtain⟨Z,A,ρ,q,f⟩:=h00;obtain⟨⟨us,ρ1⟩,e1,f⟩:=f.of;refine⟨Z,A,ρ,q,?_⟩;rw[e1];intro vs H1 q1 _ _ vm;dsimp only at f;split at f
 ·rename_i u w;have r:=vm.rps;unfold aA at r;obtain⟨v,vr,rfl,r1,r2⟩:=r;unfold aA at r2;obtain⟨v2,vr2,rfl,r3,r4⟩:=r2;unfold aA at r4;subst r4;exact⟨v,v2,rfl,f A _ H1 ((q1.set ci r1).set cj r3)⟩
 ·exact f.elim⟩
noncomputable def jt (h:Ev->R (Bool×Ev))(s1 s2:Ev->SR):Ev->SR:=λρ=>SR.of (h ρ) λx=>if x.1=true then s1 x.2 else s2 x.2
theorem cG {a b:List aaX}(hc:DT X G c b1 h1)(ha:tQ X G m a s1)(hb:tQ X G m b s2):DS X G m (.If c a b pos) (jt h1 s1 s2):=⟨(Dr hc.un ha.un hb.un).to λD σ H h00=>by
 obtain⟨Z,A,ρ,q,f⟩:=h00;obtain⟨⟨k,ρ1⟩,e1,f⟩:=f.of;refine⟨Z,A,ρ,q,?_⟩;rw[e1];intro H1 q1 _ _;cases k with
 |true=>rw[hZ rfl] at f ⊢;exact⟨Z,A,ρ1,q1,f⟩
 |false=>rw[hV V5] at f ⊢;exact⟨Z,A,ρ1,q1,f⟩⟩
noncomputable def bG (h:Ev->R (Bool×Ev))(s:Ev->SR):Nat->Ev->SR
 |0,_=>.stk
 |n+1,ρ=>SR.of (h ρ) λx=>if x.1=true then match s x.2 with
   | .nx ρ2=>bG h s n ρ2
   | .ct ρ2=>bG h s n ρ2
   | .bk ρ2=>.nx ρ2
   |r=>r
  else .nx x.2
theorem lj (hp:ab0 (WI X.prog X.w) X.A X.env X.xe)(hc:DT X G c b1 h1)(hb:tQ X G m body s1):DS X G m (.While c body [] pos) (bG h1 s1 n):=⟨(Du hp hc.un hb.un).to λD σ H h00=>by
 obtain⟨Z,A,ρ,q,f⟩:=h00;refine⟨λk σ H=>∃A ρ,cb X.K G Z A ρ σ H/\qo X.K G Z m (bG h1 s1 k ρ) D,⟨n,A,ρ,q,f⟩,?_⟩;rintro k σ H ⟨A,ρ,q,f⟩;cases k with
 |zero=>exact f.elim
 |succ k=>
  unfold bG at f;obtain⟨⟨t,ρ1⟩,e1,f⟩:=f.of;refine⟨Z,A,ρ,q,?_⟩;rw[e1];intro H1 q1 _ _;cases t with
  |false=>rw[hV V5] at f ⊢;exact f A σ H1 q1
  |true=>
   rw[hZ rfl] at f ⊢;refine⟨λσ H=>∃A ρ,cb X.K G Z A ρ σ H/\qo X.K G Z m (bG h1 s1 k ρ) D,λσ' H' z=>⟨k,Nat.lt_succ_self k,z⟩,Z,A,ρ1,q1,?_⟩;dsimp only at f;cases e2:s1 ρ1 with
   |nx ρ2=>rw[e2] at f;exact λA2 σ2 H2 q2=>⟨A2,ρ2,q2,f⟩
   |ct ρ2=>rw[e2] at f;exact λA2 σ2 H2 q2=>⟨A2,ρ2,q2,f⟩
   |bk ρ2=>rw[e2] at f;exact f
   |rt=>rw[e2] at f;exact f
   |exc=>rw[e2] at f;exact f
   |stk=>rw[e2] at f;exact f⟩
end
end L2
namespace L2
def Wk (K:Wc)(p:Bool)(A:Ww->Prop)(us:List U)(J:It)(H1:Hp):Prop:=us.length<=Wa/\
 ∀H A',(if p=true then aG H1 H else dI A H1 H)->(∀b,A' b->A b\/H1 b=none)->(∀(i:Nat) (u:U),us[i]? = some u->J.go i H/\∀x H',J.yld i H x H'->aG H H'/\Rp K H' A' u x)/\J.stop us.length H
def QY (K:Wc)(G:Gm)(b p:Bool)(gi:Ev->R (List U×Ev)):TI:=λσ H R=>∃Z A ρ,cb K G Z A ρ σ H/\match gi ρ with
 | .ok (us,ρ')=>∀J H1,cb K G Z A ρ' σ H1->dI A H H1->(b=false->ρ'=ρ/\aG H H1)->Wk K p A us J H1->R J H1
 |_=>False
structure DI (X:Cx)(G:Gm)(tg iter:X4)(b p:Bool)(gi:Ev->R (List U×Ev)):Prop where
 un:PI X tg iter (QY X.K G b p gi)
section
variable {e a b:X4}{es:List X4}{p1:Pos}{b1 b2 b3:Bool}{m m1 m2 m3 mr:Md}{g1 g2 g3:Ev->R (U×Ev)}{h1 h2:Ev->R (Bool×Ev)}{ga:Ev->R (List U×Ev)}{s1 s2:Ev->SR}
theorem PI.to {t t':TI}(h:PI X tg e t)(i:∀σ H Q,t' σ H Q->t σ H Q):PI X tg e t':=λpins s σ H Q I q=>h pins s σ H Q I (i _ _ _ q)
theorem PI.or {t t':TI}(h:PI X tg e t)(h':PI X tg e t'):PI X tg e (λσ H R=>t σ H R\/t' σ H R):=λpins s σ H Q I q=>by
 rcases q with q|q
 ·exact h pins s σ H Q I q
 ·exact h' pins s σ H Q I q
noncomputable def Pj:Md->Bool
 | .P=>true
 |_=>false
noncomputable def gQ (g:Ev->R (U×Ev)):Ev->R (List U×Ev):=λρ=>(g ρ).bind λx=>match x.1 with
 | .lst us=>.ok (us,x.2)
 | .tup us=>.ok (us,x.2)
 | .scr us=>.ok (us,x.2)
 |_=>.stk
theorem HX (q:cb K G Z A ρ σ H1)(h:wt K G Z m1 A ρ σ H1 (.lst us) v):∃a,v=.ref a/\(∃xs,eF K H1 a xs)/\Wk K (Pj m1) A us (QS K a) H1:=by
 have hp:=h.pk;unfold Pk at hp;obtain⟨a,xs,rfl,rd,l,rs⟩:=hp;refine⟨a,rfl,⟨xs,eF.of rd⟩,l,λH A' hs ha=>?_⟩;have st:H a=some (.lst xs)/\∀(i:Nat) (u:U),us[i]? = some u->∃x,xs[i]? = some x/\Rp K H A' u x:=by
  cases hm:Pj m1 with
  |true=>
   rw[hm,hZ rfl] at hs;refine⟨hs a _ rd,λi u hu=>?_⟩;obtain⟨x,h1,h2⟩:=rs.get hu;exact⟨x,h1,h2.re q.mu (dI.same hs) ha⟩
  |false=>
   rw[hm,hV V5] at hs;have hn:m1≠.P:=λz=>by subst z;cases hm
   have hr:=h.rp hn;unfold Rp at hr;obtain⟨a',xs',e,na,rd',_,rs'⟩:=hr;cases e;refine⟨hs a _ na rd,λi u hu=>?_⟩;obtain⟨x,h1,h2⟩:=rs.get hu;exact⟨x,h1,h2.re q.mu hs ha⟩
 obtain⟨rd2,get⟩:=st;refine⟨λi u hu=>?_,⟨xs,eF.of rd2,by rw[←rs.length];exact Wf _⟩⟩;obtain⟨x,h1,h2⟩:=get i u hu;refine⟨⟨xs,x,eF.of rd2,h1⟩,λy H' yl=>?_⟩;obtain⟨e,yl⟩:=yl;have e2:=yl xs (eF.of rd2);rw[h1] at e2;cases e2;subst e;exact⟨aG.refl _,h2⟩
theorem Mh {p:Bool}(q:cb K G Z A ρ σ H1)(h:Pk K H1 A (.tup us) v):∃a,v=.ref a/\(∃xs,eZ K H1 a xs)/\Wk K p A us (RH K a) H1:=by
 unfold Pk at h;obtain⟨a,xs,rfl,sq,l,rs⟩:=h;refine⟨a,rfl,⟨xs,eZ.of sq⟩,l,λH A' hs ha=>?_⟩;have ex:dI A H1 H:=by
  cases p with
  |true=>rw[hZ rfl] at hs;exact dI.same hs
  |false=>rw[hV V5] at hs;exact hs
 have N0:eZ K H a xs:=eZ.of (ex a _ (λz=>by have:=q.mu a z;rw[sq] at this;exact this) sq);refine⟨λi u hu=>?_,⟨xs,N0,by rw[←rs.length];exact Wf _⟩⟩;obtain⟨x,h1,h2⟩:=rs.get hu;refine⟨⟨xs,x,N0,h1⟩,λy H' yl=>?_⟩;obtain⟨e,yl⟩:=yl;have e2:=yl xs N0;rw[h1] at e2;cases e2;subst e;exact⟨aG.refl _,h2.re q.mu ex ha⟩
theorem Mi {p:Bool}(q:cb K G Z A ρ σ H1)(h:Pk K H1 A (.scr us) v):∃a,v=.ref a/\(∃xs,eF K H1 a xs)/\Wk K p A us (QS K a) H1:=by
 unfold Pk at h;obtain⟨a,xs,rfl,sq,l,rs⟩:=h;refine⟨a,rfl,⟨xs,sq.sq⟩,l,λH A' hs ha=>?_⟩;have ex:dI A H1 H:=by
  cases p with
  |true=>rw[hZ rfl] at hs;exact dI.same hs
  |false=>rw[hV V5] at hs;exact hs
 have N0:eF K H a xs:=(sq.to λo y w=>ex a _ (λz=>by have:=q.mu a z;rw[w] at this;exact this) w).sq;refine⟨λi u hu=>?_,⟨xs,N0,by rw[←rs.length];exact Wf _⟩⟩;obtain⟨x,h1,h2⟩:=rs.get hu;refine⟨⟨xs,x,N0,h1⟩,λy H' yl=>?_⟩;obtain⟨e,yl⟩:=yl;have e2:=yl xs N0;rw[h1] at e2;cases e2;subst e;exact⟨aG.refl _,h2.re q.mu ex ha⟩
theorem dM (h:DE X G e b1 m1 g1):DI X G tg e b1 (Pj m1) (gQ g1):=⟨((Hg h.un).or (LF h.un)).to λσ H RR h00=>by
 obtain⟨Z,A,ρ,q,f⟩:=h00;unfold gQ at f;cases e1:g1 ρ with
 |stk=>rw[e1] at f;exact f.elim
 |exc=>rw[e1] at f;exact f.elim
 |ok y=>
  obtain⟨u,ρ1⟩:=y;rw[e1] at f;cases u with
  |lst us=>
   refine .inl ⟨Z,A,ρ,q,?_⟩;rw[e1];intro v H1 q1 x1 s1 vm;obtain⟨a,e,l,wk⟩:=HX q1 vm;exact⟨a,e,l,f _ H1 q1 x1 s1 wk⟩
  |tup us=>
   refine .inr ⟨Z,A,ρ,q,?_⟩;rw[e1];intro v H1 q1 x1 s1 vm;obtain⟨a,e,l,wk⟩:=Mh (p:=Pj m1) q1 vm.pk;exact⟨a,e,l,f _ H1 q1 x1 s1 wk⟩
  |scr us=>
   refine .inl ⟨Z,A,ρ,q,?_⟩;rw[e1];intro v H1 q1 x1 s1 vm;obtain⟨a,e,l,wk⟩:=Mi (p:=Pj m1) q1 vm.pk;exact⟨a,e,l,f _ H1 q1 x1 s1 wk⟩
  |_=>exact f.elim⟩
noncomputable def aE (lo:Int)(n:Nat):List U:=(Xf n).map λi=>.int (lo+(i:Nat))
theorem Ej {lo:Int}{p:Bool}(h:n<=Wa):Wk K p A (aE lo n) (QT lo n) H1:=by
 have hl:(aE lo n).length=n:=by unfold aE;rw[V6,Xy]
 refine⟨by rw[hl];exact h,λH A' _ _=>⟨λi u hu=>?_,by rw[hl];exact Wf _⟩⟩;unfold aE at hu;rw[Wu] at hu;cases e:(Xf n)[i]? with
 |none=>rw[e] at hu;cases hu
 |some j=>
  rw[e] at hu;obtain⟨l1,l2⟩:=We.mp e;rw[Xy] at l1;rw[List.getElem_range] at l2;subst l2;cases hu;refine⟨l1,λx H' y=>?_⟩;obtain⟨rfl,rfl⟩:=y;exact⟨aG.refl _,dJ⟩
noncomputable def fh (ga:Ev->R (List U×Ev)):Ev->R (List U×Ev):=λρ=>(ga ρ).bind λx=>match x.1 with
 | [.int j]=>if -1000000<=j/\j<=1000000 then .ok (aE 0 j.toNat,x.2) else .stk
 |_=>.stk
theorem dR {a:X4}(ha:DA X G [a] b1 false ga)(hm:X.mg "range"=none)(hg:Gl X "range":=by rfl)(hs:Wm [a] X.env=[(false,YX a X.env)]:=by rfl):DI X G tg (.Call (.Name "range" p1) [a] [] pos) b1 false (fh ga):=⟨(BO hg hm ha.un hs).to λσ H RR h00=>by
 obtain⟨Z,A,ρ,q,f⟩:=h00;unfold fh at f;cases e1:ga ρ with
 |stk=>rw[e1] at f;exact f.elim
 |exc=>rw[e1] at f;exact f.elim
 |ok y=>
  obtain⟨us,ρ1⟩:=y;rw[e1] at f;dsimp only[L2.R.bind] at f;refine⟨Z,A,ρ,q,?_⟩;rw[e1];intro vs H1 q1 x1 s1 vm;split at f
  ·rename_i Lg ρ' e2;split at e2
   ·rename_i j;split at e2
    ·rename_i hl;cases e2;have r:=vm.rps;unfold aA at r;obtain⟨v,vr,rfl,r1,r2⟩:=r;unfold aA at r2;subst r2;unfold Rp at r1;subst r1;exact⟨j,rfl,(by lia),(by lia),f _ H1 q1 x1 s1 (Ej (by have:Wa=16777216:=rfl;lia))⟩
    ·cases e2
   ·cases e2
  ·exact f.elim⟩
noncomputable def cV (sg:U->Ev->R Ev)(s:Ev->SR):List U->Ev->SR
 | [],ρ=>.nx ρ
 |u::us,ρ=>SR.of (sg u ρ) λρ1=>match s ρ1 with
   | .nx ρ2=>cV sg s us ρ2
   | .ct ρ2=>cV sg s us ρ2
   | .bk ρ2=>.nx ρ2
   |r=>r
noncomputable def fD (gi:Ev->R (List U×Ev))(sg:U->Ev->R Ev)(s:Ev->SR):Ev->SR:=λρ=>SR.of (gi ρ) λx=>cV sg s x.1 x.2
open Classical in
noncomputable def Pkg.lp (Z:Pkg)(A:Ww->Prop)(H:Hp):Pkg:={Z with B:=λb=>if A b/\Z.B b=none then none else H b}
theorem uY {b:Ww}(h1:A b)(h2:Z.B b=none):(Z.lp A H).B b=none:=by
 unfold Pkg.lp;dsimp only;exact hZ ⟨h1,h2⟩
theorem lr {b:Ww}(h:¬(A b/\Z.B b=none)):(Z.lp A H).B b=H b:=by
 unfold Pkg.lp;dsimp only;exact hV h
theorem yR {b:Ww}(h:(Z.lp A H).B b=none):(A b/\Z.B b=none)\/H b=none:=by
 by_cases c:A b/\Z.B b=none
 ·exact .inl c
 ·rw[lr c] at h;exact .inr h
theorem cb.lp (q:cb K G Z A ρ σ H):cb K G (Z.lp A H) A ρ σ H where
 slot:=λi u h=>by
  obtain⟨v,h1,h2⟩:=q.slot i u h;refine⟨v,h1,?_⟩;by_cases c:G.is i=true
  ·rw[hZ c] at h2 ⊢;obtain⟨a,e1,e2,e3,e4,e5⟩:=h2;exact⟨a,e1,e2,uY e2 e3,e4,e5⟩
  ·rw[hV c] at h2 ⊢;exact h2
 dis:=q.dis
 mu:=q.mu
 sup:=q.sup
 out:=λa h=>(q.out a h).imp id λz=>uY h z
 bas:=λa o h=>by
  by_cases c:A a/\Z.B a=none
  ·rw[uY c.1 c.2] at h;cases h
  ·rw[lr c] at h;exact h
 io0:=q.io0
 len:=q.len
theorem cb.unlp {A':Ww->Prop}{ρ':Ev}{σ':St}(q:cb K G Z A ρ σ H)(q':cb K G (Z.lp A H) A' ρ' σ' H'):cb K G Z A' ρ' σ' H':=by
 have sub:∀a,(Z.lp A H).B a=none->Z.B a=none:=λa h=>by
  rcases yR h with z|h
  ·exact z.2
  ·cases e:Z.B a with
   |none=>rfl
   |some o=>rw[q.bas a o e] at h;cases h
 exact {
  slot:=λi u h=>by
   obtain⟨v,h1,h2⟩:=q'.slot i u h;refine⟨v,h1,?_⟩;by_cases c:G.is i=true
   ·rw[hZ c] at h2 ⊢;obtain⟨a,e1,e2,e3,e4,e5⟩:=h2;exact⟨a,e1,e2,sub a e3,e4,e5⟩
   ·rw[hV c] at h2 ⊢;exact h2
  dis:=q'.dis
  mu:=q'.mu
  sup:=q'.sup
  out:=λa h=>(q'.out a h).imp id (sub a)
  bas:=λa o h=>q'.bas a o (by
   rw[lr (λz=>by rw[h] at z;exact nomatch z.2)];exact q.bas a o h)
  io0:=q'.io0
  len:=q'.len}
theorem qo.lp {r:SR}{D:km}(q:cb K G Z A ρ σ H)(f:qo K G Z m r D):qo K G (Z.lp A H) m r D:=by
 cases r with
 |nx=>exact λA' σ' H' q'=>f A' σ' H' (q.unlp q')
 |bk=>exact λA' σ' H' q'=>f A' σ' H' (q.unlp q')
 |ct=>exact λA' σ' H' q'=>f A' σ' H' (q.unlp q')
 |rt u ρ'=>
  intro A' σ' H' v q' vm;refine f A' σ' H' v (q.unlp q') ?_;cases m with
  |S=>exact vm
  |P=>exact vm
  |O=>
   obtain⟨a,e,nb,na,t⟩:=vm;refine⟨a,e,?_,na,t⟩;rcases yR nb with z|h
   ·exact z.2
   ·cases e:Z.B a with
    |none=>rfl
    |some o=>rw[q.bas a o e] at h;cases h
 |exc=>exact λH' hb=>f H' λa o h=>hb a o (by
   rw[lr (λz=>by rw[h] at z;exact nomatch z.2)];exact q.bas a o h)
 |stk=>exact f.elim
theorem cZ {gi:Ev->R (List U×Ev)}(hp:ab0 (WI X.prog X.w) X.A X.env X.xe)(hc:X.calm=true)(hi:DI X G tg iter b1 false gi)(hg:DG X G tg sg)(hb:tQ X G m body s1)(hs:∀x,Yf iter X.env x=pure x:=by intro _;rfl):DS X G m (.For tg iter body [] pos) (fD gi sg s1):=⟨(Hy hp hc hi.un hg.un hb.un hs).to λD σ H h00=>by
 obtain⟨Z,A,ρ,q,f⟩:=h00;obtain⟨⟨us,ρ1⟩,e1,f⟩:=f.of;refine⟨Z,A,ρ,q,?_⟩;rw[e1];intro J H1 q1 x1 zZ wk;dsimp only at f;obtain⟨hz,wk⟩:=wk;refine⟨λi k σ H=>i+k=us.length/\∃A' ρ',cb X.K G (Z.lp A H1) A' ρ' σ H/\qo X.K G (Z.lp A H1) m (cV sg s1 (us.drop i) ρ') D,⟨us.length,(by lia),A,ρ1,q1.lp,by rw[aaz];exact f.lp q1⟩,?_⟩;rintro i k σ H ⟨hk,A',ρ',q',f'⟩;have ex:dI A H1 H:=λb o nb z=>q'.bas b o (by
  rw[lr (λy=>nb y.1)];exact z)
 have nw:∀b,A' b->A b\/H1 b=none:=λb z=>by
  rcases q'.out b z with y|y
  ·exact .inl (q1.sup b y)
  ·rcases yR y with w|h
   ·exact .inl w.1
   ·exact .inr h
 obtain⟨w1,w2⟩:=wk H A' (by rw[hV V5];exact ex) nw;by_cases yo:i<us.length
 ·have eu:us[i]? = some us[i]:=V4 yo;obtain⟨go,yl⟩:=w1 i _ eu;rw[Yl yo] at f';unfold cV at f';obtain⟨ρ2,e2,f2⟩:=f'.of;refine .inr ⟨go,λσ H=>∃A' ρ',cb X.K G (Z.lp A H1) A' ρ' σ H/\qo X.K G (Z.lp A H1) m (cV sg s1 (us.drop (i+1)) ρ') D,λσ' H' z=>⟨k-1,(by lia),(by lia),z⟩,λx H' y=>?_⟩;obtain⟨sm,rp⟩:=yl x H' y;refine⟨Z.lp A H1,A',ρ',us[i],q'.same sm,rp,?_⟩;rw[e2];intro σ2 q2 _;refine⟨Z.lp A H1,A',ρ2,q2,?_⟩;cases e3:s1 ρ2 with
  |nx ρ3=>rw[e3] at f2;exact λA3 σ3 H3 q3=>⟨A3,ρ3,q3,f2⟩
  |ct ρ3=>rw[e3] at f2;exact λA3 σ3 H3 q3=>⟨A3,ρ3,q3,f2⟩
  |bk ρ3=>rw[e3] at f2;exact f2
  |rt=>rw[e3] at f2;exact f2
  |exc=>rw[e3] at f2;exact f2
  |stk=>rw[e3] at f2;exact f2
 ·have e:i=us.length:=(by lia)
  subst e;rw[ZQ] at f';exact .inl ⟨w2,f' A' σ H q'⟩⟩
end
end L2
namespace L2
noncomputable def iK (js:List (Option Nat))(ρ:Ev):Ev:=js.map λo=>match o with
 |none=>none
 |some j=>match ρ[j]? with
  |some v=>v
  |none=>none
noncomputable def sE (G:Gm)(js:List (Option Nat)):Gm:=⟨js.map λo=>match o with
 |none=>false
 |some j=>G.is j,false,λ_=>False⟩
noncomputable def mY:List (Option Nat)->Bool
 | []=>true
 |none::r=>mY r
 |some j::r=> !(r.contains (some j))&&mY r
theorem qp:∀{js:List (Option Nat)} {i k j:Nat},mY js=true->js[i]? = some (some j)->js[k]? = some (some j)->i=k
 | [],_,_,_,_,h,_=>by simp at h
 |none::r,i,k,j,ok,h1,h2=>by
  unfold mY at ok;cases i with
  |zero=>simp at h1
  |succ i=>
   cases k with
   |zero=>simp at h2
   |succ k=>exact congrArg (·+1) (qp (j:=j) ok (by simpa using h1) (by simpa using h2))
 |some j'::r,i,k,j,ok,h1,h2=>by
  unfold mY at ok;rw[Wt] at ok;have nm:∀n:Nat,r[n]? ≠ some (some j'):=λn h=>by
   have:=Xq h;simp at ok;exact ok.1 this
  cases i with
  |zero=>
   cases k with
   |zero=>rfl
   |succ k=>simp at h1 h2;subst h1;exact absurd h2 (nm k)
  |succ i=>
   cases k with
   |zero=>simp at h1 h2;subst h2;exact absurd h1 (nm i)
   |succ k=>exact congrArg (·+1) (qp (j:=j) ok.2 (by simpa using h1) (by simpa using h2))
theorem lu (h:(iK js ρ)[i]? = some (some u)):∃j,js[i]? = some (some j)/\ρ[j]? = some (some u):=by
 unfold iK at h;rw[Wu] at h;cases e:js[i]? with
 |none=>rw[e] at h;cases h
 |some o=>
  rw[e] at h;cases o with
  |none=>cases h
  |some j=>
   refine⟨j,rfl,?_⟩;have h:=WS h;dsimp only at h;split at h
   ·rename_i v hv;rw[hv,h]
   ·cases h
theorem lx (h:js[i]? = some (some j))(hv:σ[j]? = some (some v)):(tM js σ)[i]? = some (some v):=by
 unfold tM;rw[Wu,h];dsimp only[Option.map];rw[hv]
theorem qr (h:js[i]? = some (some j)):(sE G js).is i=G.is j:=by
 unfold sE Gm.is;dsimp only;rw[List.getD,Wu,h];rfl
theorem Ak (js:List (Option Nat))(ρ:Ev)(σ:St):(iK js ρ).length=(tM js σ).length:=by
 unfold iK tM;rw[V6,V6]
section
variable {ρi:Ev}
theorem Al (q:cb K G Z A ρ σ H)(ok:mY js=true):cb K (sE G js) ⟨λ_=>False,λ_=>none,0⟩ A (iK js ρ) (tM js σ) H where
 slot:=λi u h=>by
  obtain⟨j,h1,h2⟩:=lu h;obtain⟨v,h3,h4⟩:=q.slot j u h2;refine⟨v,lx h1 h3,?_⟩;rw[qr h1];by_cases c:G.is j=true
  ·rw[hZ c] at h4 ⊢;obtain⟨a,e1,e2,_,_,e5⟩:=h4;exact⟨a,e1,e2,rfl,.inl id,e5⟩
  ·rw[hV c] at h4 ⊢;exact h4
 dis:=λi k u w a ci ck ne hi hk si sk=>by
  obtain⟨j,h1,h2⟩:=lu hi;obtain⟨j',QJ,Lf⟩:=lu hk;rw[qr h1] at ci;rw[qr QJ] at ck;obtain⟨b,e1,_⟩:=q.own ci h2;obtain⟨b',e1',_⟩:=q.own ck Lf;rw[lx h1 e1] at si;rw[lx QJ e1'] at sk;cases si;cases sk;exact q.dis j j' u w a ci ck (λz=>ne (by subst z;exact qp ok h1 QJ)) h2 Lf e1 e1'
 mu:=q.mu
 sup:=λ_ h=>h.elim
 out:=λ_ _=>.inr rfl
 bas:=λ_ _ h=>by cases h
 io0:=λh=>by cases h
 len:=Ak js ρ σ
def HY (G:Gm)(js:List (Option Nat))(ρ:Ev)(σ:St)(a:Ww):Prop:=∃(i j:Nat) (u:U),js[i]? = some (some j)/\G.is j=true/\ρ[j]? = some (some u)/\σ[j]? = some (some (.ref a))
open Classical in
noncomputable def Mj (G:Gm)(js:List (Option Nat))(A:Ww->Prop)(ρ:Ev)(σ:St)(H:Hp):Pkg:=⟨λa=>A a/\¬HY G js ρ σ a,λa=>if HY G js ρ σ a then none else H a,0⟩
theorem qt (h:HY G js ρ σ a):(Mj G js A ρ σ H).B a=none:=by
 unfold Mj;dsimp only;exact hZ h
theorem lA (h:¬HY G js ρ σ a):(Mj G js A ρ σ H).B a=H a:=by
 unfold Mj;dsimp only;exact hV h
theorem Ml (q:cb K G Z A ρ σ H)(ok:mY js=true):cb K (sE G js) (Mj G js A ρ σ H) A (iK js ρ) (tM js σ) H where
 slot:=λi u h=>by
  obtain⟨j,h1,h2⟩:=lu h;obtain⟨v,h3,h4⟩:=q.slot j u h2;refine⟨v,lx h1 h3,?_⟩;rw[qr h1];by_cases c:G.is j=true
  ·rw[hZ c] at h4 ⊢;obtain⟨a,e1,e2,_,_,e5⟩:=h4;subst e1;have cp:HY G js ρ σ a:=⟨i,j,u,h1,c,h2,h3⟩;exact⟨a,rfl,e2,qt cp,.inl λz=>z.2 cp,e5⟩
  ·rw[hV c] at h4 ⊢;exact h4
 dis:=(Al q ok).dis
 mu:=q.mu
 sup:=λ_ h=>h.1
 out:=λa h=>by
  by_cases c:HY G js ρ σ a
  ·exact .inr (qt c)
  ·exact .inl ⟨h,c⟩
 bas:=λa o h=>by
  by_cases c:HY G js ρ σ a
  ·rw[qt c] at h;cases h
  ·rw[lA c] at h;exact h
 io0:=λh=>by cases h
 len:=Ak js ρ σ
noncomputable def ju:List (Option Nat)->Nat->Option Nat
 | [],_=>none
 |o::r,j=>if o=some j then some 0 else (ju r j).map (·+1)
theorem tR:∀{js:List (Option Nat)} {i j:Nat},ju js j=some i->js[i]? = some (some j)
 | [],_,_,h=>by cases h
 |o::r,i,j,h=>by
  unfold ju at h;split at h
  ·rename_i e;cases h;rw[e];rfl
  ·cases e:ju r j with
   |none=>rw[e] at h;cases h
   |some k=>
    rw[e] at h;cases h;rw[X8];exact tR e
theorem qu:∀{js:List (Option Nat)} {i j:Nat},ju js j=none->js[i]? ≠ some (some j)
 | [],_,_,_=>by simp
 |o::r,i,j,h=>by
  unfold ju at h;split at h
  ·cases h
  ·rename_i ne;cases e:ju r j with
   |some k=>rw[e] at h;cases h
   |none=>
    cases i with
    |zero=>intro z;exact ne (WS z)
    |succ i=>rw[X8];exact qu e
noncomputable def wb (G:Gm)(js:List (Option Nat))(ρi ρ:Ev):Ev:=ρ.mapIdx λj x=>if (G.is j&&x.isSome)=true then (match ju js j with
 |some i=>(ρi[i]?).getD none
 |none=>x) else x
theorem yS (h:(wb G js ρi ρ)[j]? = some (some u)):∃u0,ρ[j]? = some (some u0)/\((G.is j=true/\∃i,ju js j=some i/\ρi[i]? = some (some u))\/(u0=u/\(G.is j=false\/ju js j=none))):=by
 unfold wb at h;rw[List.getElem?_mapIdx] at h;cases e:ρ[j]? with
 |none=>rw[e] at h;cases h
 |some x=>
  rw[e] at h;have h:=WS h;cases x with
  |none=>simp at h
  |some u0=>
   refine⟨u0,rfl,?_⟩;dsimp only at h;by_cases c:G.is j=true
   ·rw[hZ (by rw[c];rfl)] at h;split at h
    ·rename_i i hi;refine .inl ⟨c,i,hi,?_⟩;cases e2:ρi[i]? with
     |none=>rw[e2] at h;cases h
     |some y=>rw[e2] at h;simp at h;rw[h]
    ·rename_i hi;exact .inr ⟨WS h,.inr hi⟩
   ·have c:G.is j=false:=Zz.mpr c;rw[hV (by rw[c];exact V5)] at h;exact .inr ⟨WS h,.inl c⟩
theorem cb.wb {σ4:St}(q:cb K G Z A ρ σ H)(ok:mY js=true)(q':cb K (sE G js) (Mj G js A ρ σ H) A ρi σ4 H')(ho:∀i,(sE G js).is i=true->σ4[i]? = (tM js σ)[i]?):cb K G Z A (L2.wb G js ρi ρ) σ H'/\dI A H H':=by
 have QK:∀a,HY G js ρ σ a->A a/\Z.B a=none:=λa h00=>by
  obtain⟨i,j,u,h1,h2,h3,h4⟩:=h00;obtain⟨b,e1,e2,e3,_⟩:=q.own h2 h3;rw[h4] at e1;cases e1;exact⟨e2,e3⟩
 have ex:dI A H H':=λb o nb z=>q'.bas b o (by rw[lA λc=>nb (QK b c).1];exact z);refine⟨{
  slot:=λj u h=>?_
  dis:=λi k u w a ci ck ne hi hk si sk=>by
   obtain⟨u1,h1,_⟩:=yS hi;obtain⟨u2,h2,_⟩:=yS hk;exact q.dis i k u1 u2 a ci ck ne h1 h2 si sk
  mu:=q'.mu
  sup:=q.sup
  out:=q.out
  bas:=λa o h=>q'.bas a o (by
   rw[lA λc=>by rw[(QK a c).2] at h;cases h];exact q.bas a o h)
  io0:=q.io0
  len:=by unfold L2.wb;rw[List.length_mapIdx];exact q.len},ex⟩
 obtain⟨u0,h0,hh⟩:=yS h;rcases hh with⟨c,i,hi,hu⟩|⟨rfl,hc⟩
 ·have hj:=tR hi;obtain⟨a,e1,e2,e3,e4,_⟩:=q.own c h0;have ci:(sE G js).is i=true:=by rw[qr hj];exact c
  obtain⟨a',k1,k2,_,_,k5⟩:=q'.own ci hu;rw[ho i ci,lx hj e1] at k1;cases k1;refine⟨.ref a,e1,?_⟩;rw[hZ c];exact⟨a,rfl,e2,e3,e4,k5⟩
 ·obtain⟨v,h1,h2⟩:=q.slot j u0 h0;refine⟨v,h1,?_⟩;by_cases c:G.is j=true
  ·rw[hZ c] at h2 ⊢;obtain⟨a,rfl,e2,e3,e4,e5⟩:=h2;have hc:ju js j=none:=by
    rcases hc with hc|hc
    ·rw[c] at hc;cases hc
    ·exact hc
   have nc:¬HY G js ρ σ a:=λh00=>by
    obtain⟨i,j',u,z1,z2,z3,z4⟩:=h00;have ne:j≠j':=λz=>by subst z;exact qu hc z1
    exact q.dis j j' u0 u a c z2 ne h0 z3 h1 z4
   exact⟨a,rfl,e2,e3,e4,e5.re q.mu ex (λb z=>.inl z) λo z=>q'.bas a o (by rw[lA nc];exact z)⟩
  ·rw[hV c] at h2 ⊢;exact h2.re q.mu ex λb z=>.inl z
end
noncomputable def wu (f:U->R (Option U)):List U->R (List U)
 | []=>.ok []
 |u::us=>(f u).bind λo=>(wu f us).bind λr=>.ok (match o with
  |some y=>y::r
  |none=>r)
noncomputable def yT (js:List (Option Nat))(sg:U->Ev->R Ev)(gt:Ev->R (Bool×Ev))(ge:Ev->R (U×Ev))(ρ:Ev)(u:U):R (Option U):=
 (sg u (iK js ρ)).bind λρi=>(gt ρi).bind λc=>if c.1=true then (ge ρi).bind λy=>.ok (some y.1) else .ok none
noncomputable def j8 (gi:Ev->R (List U×Ev))(js:List (Option Nat))(sg:U->Ev->R Ev)(gt:Ev->R (Bool×Ev))(ge:Ev->R (U×Ev)):Ev->R (U×Ev):=λρ=>
 (gi ρ).bind λx=>(wu (yT js sg gt ge x.2) x.1).bind λys=>.ok (.lst ys,x.2)
noncomputable def mZ (G:Gm)(js:List (Option Nat))(sg:U->Ev->R Ev)(gt:Ev->R (Bool×Ev))(ge:Ev->R (U×Ev)):List U->Ev->R (List U×Ev)
 | [],ρ=>.ok ([],ρ)
 |u::us,ρ=>(sg u (iK js ρ)).bind λρi=>(gt ρi).bind λc=>if c.1=true then (ge c.2).bind λy=>(mZ G js sg gt ge us (wb G js y.2 ρ)).bind λr=>.ok (y.1::r.1,r.2) else mZ G js sg gt ge us (wb G js c.2 ρ)
noncomputable def uZ (G:Gm)(gi:Ev->R (List U×Ev))(js:List (Option Nat))(sg:U->Ev->R Ev)(gt:Ev->R (Bool×Ev))(ge:Ev->R (U×Ev)):Ev->R (U×Ev):=λρ=>
 (gi ρ).bind λx=>(mZ G js sg gt ge x.1 x.2).bind λy=>.ok (.lst y.1,y.2)
theorem R.bind_ok {α β:Type}{x:R α}{k:α->R β}{b:β}(h:x.bind k=.ok b):∃a,x=.ok a/\k a=.ok b:=by
 cases x with
 |ok a=>exact⟨a,rfl,h⟩
 |exc=>cases h
 |stk=>cases h
section
variable {e:X4}{b1 b2 b3 p:Bool}{m me:Md}{gi:Ev->R (List U×Ev)}{gt:Ev->R (Bool×Ev)}{ge:Ev->R (U×Ev)}
theorem Ek (ok:mY js=true)(hn:me≠.P){Q:VK}(h:tD X.K G b1 .O (j8 gi js sg gt ge) σ H Q) :
  QW (QY X.K G b1 p gi) js (λ_=>R6 X.K (sE G js) sg) (λ_=>De X.K (sE G js) false gt) (λ_=>tD X.K (sE G js) false me ge) σ H Q:=by
 obtain⟨Z,A,ρ,q,f⟩:=h;obtain⟨⟨us,ρ1⟩,e1,f⟩:=f.bind;obtain⟨all,e2,f⟩:=f.bind;refine⟨Z,A,ρ,q,?_⟩;rw[e1];intro J H1 q1 x1 s1 ⟨hz,wk⟩ Y;dsimp only at e2 f;refine⟨λi k ys H2=>i+k=us.length/\aG H1 H2/\∃done rest,wu (yT js sg gt ge ρ1) (us.drop i)=.ok rest/\done++rest=all/\aA X.K H2 A done ys/\done.length<=i,
  ⟨us.length,(by lia),aG.refl _,[],all,by rw[aaz];exact e2,rfl,aA.nil,Wf _⟩,?_⟩
 rintro i k ys H2 ⟨hk,sm,done,rest,e3,e4,rs,hd⟩;have q2:=q1.same sm;obtain⟨w1,w2⟩:=wk H2 A (by split;exact sm;exact dI.same sm) λb z=>.inl z;by_cases yo:i<us.length
 ·have eu:us[i]? = some us[i]:=V4 yo;obtain⟨go,yl⟩:=w1 i _ eu;rw[Yl yo] at e3;unfold wu at e3;obtain⟨o,e5,e3⟩:=R.bind_ok e3;obtain⟨r,e6,e3⟩:=R.bind_ok e3;unfold yT at e5;obtain⟨ρi,e7,e5⟩:=R.bind_ok e5;obtain⟨⟨c,ρc⟩,e8,e5⟩:=R.bind_ok e5;refine .inr ⟨go,by rw[←rs.length];lia,λLh H'=>aG H1 H'/\∃done,done++r=all/\aA X.K H' A done Lh/\done.length<=i+1,λLh H' ⟨z1,dn,z2,z3,z4⟩=>⟨k-1,(by lia),(by lia),z1,dn,r,e6,z2,z3,z4⟩,λx H3 y=>?_⟩;obtain⟨sm3,rp⟩:=yl x H3 y;refine⟨_,A,iK js ρ1,us[i],(Al (q2.same sm3) ok),rp,?_⟩;rw[e7];intro σ4 q4 _;refine⟨_,A,ρi,q4,?_⟩;rw[e8];intro H5 q5 x5 s5;obtain⟨rfl,sm5⟩:=s5 rfl;cases c with
  |false=>
   rw[hV V5] at e5 ⊢;cases e5;cases e3;exact⟨(sm.trans sm3).trans sm5,done,e4,(rs.same sm3).same sm5,(by lia)⟩
  |true=>
   rw[hZ rfl] at e5 ⊢;obtain⟨⟨y1,ρy⟩,e9,e5⟩:=R.bind_ok e5;cases e5;cases e3;refine⟨_,A,ρc,q5,?_⟩;rw[e9];intro v H6 q6 x6 s6 vm;obtain⟨rfl,sm6⟩:=s6 rfl;have Ud:=sm3.trans (sm5.trans sm6);exact⟨sm.trans Ud,done++[y1],by rw[Wz];exact e4,(rs.same Ud).append (aA.cons (vm.rp hn) aA.nil),by rw[V9];simp;lia⟩
 ·have e:i=us.length:=(by lia)
  subst e;rw[ZQ] at e3;cases e3;rw[WN] at e4;subst e4;refine .inl ⟨w2,λa na=>?_⟩;have sn:=bD na (.lst ys);exact f _ _ (q2.same sn) ((x1.trans (dI.same sm)).trans (dI.same sn)) (oU (oU s1 sm) sn) (B6.e q2 sn ⟨a,rfl,na,bI q2.mu rs na (by lia)⟩)
theorem wW (ok:mY js=true)(hn:me≠.P){Q:VK}(h:tD X.K G true .O (uZ G gi js sg gt ge) σ H Q) :
  QW (QY X.K G b1 false gi) js (λ_=>R6 X.K (sE G js) sg) (λ_=>De X.K (sE G js) b2 gt) (λ_=>tD X.K (sE G js) b3 me ge) σ H Q:=by
 obtain⟨Z,A,ρ,q,f⟩:=h;obtain⟨⟨us,ρ1⟩,e1,f⟩:=f.bind;obtain⟨⟨all,ρe⟩,e2,f⟩:=f.bind;refine⟨Z,A,ρ,q,?_⟩;rw[e1];intro J H1 q1 x1 s1 ⟨hz,wk⟩ Y;dsimp only at e2 f;refine⟨λi k ys H2=>i+k=us.length/\dI A H1 H2/\∃ρ2 done rest,cb X.K G Z A ρ2 σ H2/\mZ G js sg gt ge (us.drop i) ρ2=.ok (rest,ρe)/\done++rest=all/\aA X.K H2 A done ys/\done.length<=i,
  ⟨us.length,(by lia),dI.refl,ρ1,[],all,q1,by rw[aaz];exact e2,rfl,aA.nil,Wf _⟩,?_⟩
 rintro i k ys H2 ⟨hk,ex,ρ2,done,rest,q2,e3,e4,rs,hd⟩;obtain⟨w1,w2⟩:=wk H2 A (by rw[hV V5];exact ex) λb z=>.inl z;by_cases yo:i<us.length
 ·have eu:us[i]? = some us[i]:=V4 yo;obtain⟨go,yl⟩:=w1 i _ eu;rw[Yl yo] at e3;unfold mZ at e3;obtain⟨ρi,e7,e3⟩:=R.bind_ok e3;obtain⟨⟨c,ρc⟩,e8,e3⟩:=R.bind_ok e3;refine .inr ⟨go,by rw[←rs.length];lia,λLh H'=>dI A H1 H'/\∃ρ2 done rest,cb X.K G Z A ρ2 σ H'/\mZ G js sg gt ge (us.drop (i+1)) ρ2=.ok (rest,ρe)/\done++rest=all/\aA X.K H' A done Lh/\done.length<=i+1,λLh H' z=>⟨k-1,(by lia),(by lia),z⟩,λx H3 y=>?_⟩;obtain⟨sm3,rp⟩:=yl x H3 y;have q3:=q2.same sm3;refine⟨Mj G js A ρ2 σ H3,A,iK js ρ2,us[i],Ml q3 ok,rp,?_⟩;rw[e7];intro σ4 q4 o4;refine⟨_,A,ρi,q4,?_⟩;rw[e8];intro H5 q5 x5 s5;dsimp only at e3;cases c with
  |false=>
   rw[hV V5] at e3 ⊢;obtain⟨q6,x6⟩:=q3.wb ok q5 o4;exact⟨ex.trans ((dI.same sm3).trans x6),_,done,rest,q6,e3,e4,(rs.same sm3).re q3.mu x6 (λb z=>.inl z),(by lia)⟩
  |true=>
   rw[hZ rfl] at e3 ⊢;obtain⟨⟨y1,ρy⟩,e9,e3⟩:=R.bind_ok e3;obtain⟨⟨r,ρr⟩,e10,e3⟩:=R.bind_ok e3;cases e3;refine⟨_,A,ρc,q5,?_⟩;rw[e9];intro v H6 q6 x6 s6 vm;obtain⟨q7,x7⟩:=q3.wb ok q6 o4;exact⟨ex.trans ((dI.same sm3).trans x7),_,done++[y1],r,q7,e10,by rw[Wz];exact e4,((rs.same sm3).re q3.mu x7 (λb z=>.inl z)).append (aA.cons (vm.rp hn) aA.nil),by rw[V9];simp;lia⟩
 ·have e:i=us.length:=(by lia)
  subst e;rw[ZQ] at e3;cases e3;rw[WN] at e4;subst e4;refine .inl ⟨w2,λa na=>?_⟩;have sn:=bD na (.lst ys);exact f _ _ (q2.same sn) ((x1.trans ex).trans (dI.same sn)) (λz=>nomatch z) (B6.e q2 sn ⟨a,rfl,na,bI q2.mu rs na (by lia)⟩)
structure El (X:Cx)(G:Gm)(sd:List X4)(b:Bool)(h:Ev->R (Bool×Ev)):Prop where
 un:B1 X sd (De X.K G b h)
noncomputable def d9:Ev->R (Bool×Ev):=λρ=>.ok (true,ρ)
theorem c9:El X G [] false d9:=⟨λpins s σ H Q I ⟨Z,A,ρ,q,f⟩=>DZ pins s σ H Q I (f H q dI.refl λ_=>⟨rfl,aG.refl _⟩)⟩
theorem Em {h:Ev->R (Bool×Ev)}(hc:DT X G e b1 h):El X G [e] b1 h:=⟨D0 hc.un⟩
theorem iL (j0:abz)(NX N:List Str)(js:List (Option Nat))(hc:X.calm=true)(hi:DI X G tg iter b1 p gi)(v_:∀Y:pA,DG (dz X scope N Y) (sE G js) tg sg/\El (dz X scope N Y) (sE G js) sd false gt/\DE (dz X scope N Y) (sE G js) elt false me ge)(hn:me≠.P:=by decide)(ok:mY js=true:=by rfl)(ka:X.env.scope=j0:=by rfl)(JE:X.N=NX:=by rfl)(hS:sJ j0 NX scope N js=true:=by decide+kernel)(hs:∀x,Yf iter X.env x=pure x:=by intro _;rfl):DE X G (.ListComp elt [⟨tg,iter,sd,0⟩] scope pos) b1 .O (j8 gi js sg gt ge):=⟨(JO j0 NX N js hc hi.un (λY=>⟨(v_ Y).1.un,(v_ Y).2.1.un,(v_ Y).2.2.un⟩) ka JE hS hs).to λ_ _ _=>Ek ok hn⟩
theorem En (j0:abz)(NX N:List Str)(js:List (Option Nat))(hc:X.calm=true)(hi:DI X G tg iter b1 false gi)(v_:∀Y:pA,DG (dz X scope N Y) (sE G js) tg sg/\El (dz X scope N Y) (sE G js) sd b2 gt/\DE (dz X scope N Y) (sE G js) elt b3 me ge)(hn:me≠.P:=by decide)(ok:mY js=true:=by rfl)(ka:X.env.scope=j0:=by rfl)(JE:X.N=NX:=by rfl)(hS:sJ j0 NX scope N js=true:=by decide+kernel)(hs:∀x,Yf iter X.env x=pure x:=by intro _;rfl):DE X G (.ListComp elt [⟨tg,iter,sd,0⟩] scope pos) true .O (uZ G gi js sg gt ge):=⟨(JO j0 NX N js hc hi.un (λY=>⟨(v_ Y).1.un,(v_ Y).2.1.un,(v_ Y).2.2.un⟩) ka JE hS hs).to λ_ _ _=>wW ok hn⟩
variable {je zW:Pos}
theorem B_ (j0:abz)(NX N:List Str)(js:List (Option Nat))(hN:X.N.Nodup)(hc:X.calm=true)(hi:DI X G tg iter b1 false gi)(v_:∀Y:pA,DG (dz X scope N Y) (sE G js) tg sg/\El (dz X scope N Y) (sE G js) sd b2 gt/\DE (dz X scope N Y) (sE G js) elt b3 me ge)(hx:X.N[i]? = some x:=by rfl)(hl:GY X.env.scope x:=by first|exact Or.inl rfl|exact Or.inr rfl)(c:G.is i=false:=by rfl)(hn:me≠.P:=by decide)(ok:mY js=true:=by rfl)(ka:X.env.scope=j0:=by rfl)(JE:X.N=NX:=by rfl)(hS:sJ j0 NX scope N js=true:=by decide+kernel)(hw:Z4 (.ListComp elt [⟨tg,iter,sd,0⟩] scope zW) (some (.Name x je)) pos.line X.env=pure true:=by rfl)(hf:X.fn x=true\/X.env.scope.names.lookup x=some .local:=by first|exact .inl rfl|exact .inr rfl|assumption)(hs:∀x,Yf iter X.env x=pure x:=by intro _;rfl):DS X G m (.Assign [.Name x je] (.ListComp elt [⟨tg,iter,sd,0⟩] scope zW) pos) (aX i (uZ G gi js sg gt ge)):=⟨(D1 j0 NX N js hN hx hl hc hi.un (λY=>⟨(v_ Y).1.un,(v_ Y).2.1.un,(v_ Y).2.2.un⟩) ka JE hS hw hf hs).to λ_ _ _=>wV (b1:=true) c (by decide) λ_ _ _=>wW (b1:=b1) (b2:=b2) (b3:=b3) ok hn⟩
end
end L2
namespace L2
noncomputable def bJ (n:Nat)(us:List U):Ev:=us.map some++WO (n-us.length) none
noncomputable def fi (m:Md)(n:Nat)(s:Ev->SR):List U->R U:=λus=>match s (bJ n us) with
 | .rt u _=>.ok u
 | .nx _=>if m=.S then .ok .non else .stk
 | .exc c u=>.exc c u
 |_=>.stk
noncomputable def yU (n:Nat)(s:Ev->SR):List U->R (U×U):=λus=>match s (bJ n us) with
 | .rt u ρ=>match ρ[0]? with
  |some (some w)=>.ok (u,w)
  |_=>.stk
 | .nx ρ=>match ρ[0]? with
  |some (some w)=>.ok (.non,w)
  |_=>.stk
 | .exc c u=>.exc c u
 |_=>.stk
theorem iM (h:(bJ n us)[i]? = some (some u)):us[i]? = some u:=by
 unfold bJ at h;by_cases c:i<(us.map some).length
 ·rw[XS c,Wu] at h;cases e:us[i]? with
  |none=>rw[e] at h;cases h
  |some w=>rw[e] at h;simp at h;rw[h]
 ·rw[Xw (by lia),Z6] at h;split at h
  ·cases h
  ·cases h
theorem iq (h:vs[i]? = some v):(aa0 N vs)[i]? = some (some v):=by
 unfold aa0;have c:i<(vs.map some).length:=by rw[V6];exact (We.mp h).1
 rw[XS c,Wu,h];rfl
theorem u3 (h:us.length=vs.length):(bJ N.length us).length=(aa0 N vs).length:=by
 unfold bJ aa0;rw[V9,V9,V6,V6,Zj,Zj,h]
section
variable {w:Xt}
theorem u4 (G:Gm)(m:Md)(s:Ev->SR)(BH:G.io=false)(jG:∀i,i<ps.length->G.is i=false)(eB:∀(f:Ww) (bC:Wd) (A:W2) (outer:List Env) (s0:Wr) (H:Hp) (E:XK),dw k (A.deeper (Yq x (aj st) s0.heap.objs.size f bC))->
   tQ (gP uQ P w K mg base N x (aj st) f bC A outer s0 H E).nox G m (bH st) s) :
  (∀vs H Q E,jP K ps.length (fi m N.length s) m vs H Q E->vs.length=ps.length)/\∀(f:Ww) (bC:Wd) (A:W2) (outer:List Env) (s0:Wr) (H:Hp) (vs:List V) (Q:VK) (E:XK),dw k (A.deeper (Yq x (aj st) s0.heap.objs.size f bC))->jP K ps.length (fi m N.length s) m vs H Q E->
   ∃t,pR (gP uQ P w K mg base N x (aj st) f bC A outer s0 H E).nox (bH st) t/\t {nx:=λ_ H'=>Q .non H',rt:=Q} (aa0 N vs) H:=by
 have hl:∀(us:List U) (A:Ww->Prop) (H:Hp) (Q:VK),HP K m A H (wN ps.length (fi m N.length s) us) Q->us.length=ps.length:=λus A H Q h=>by
  unfold wN at h;split at h
  ·assumption
  ·exact h.elim
 refine⟨λvs H Q E ⟨us,A,r,_,h⟩=>by rw[←r.length];exact hl us A H Q h,λf bC A outer s0 H vs Q E hr ⟨us,A0,r,mu,h⟩=>⟨_,(eB f bC A outer s0 H E hr).un,?_⟩⟩;have l:=hl us A0 H Q h;unfold wN at h;rw[hZ l] at h;refine⟨⟨A0,H,0⟩,A0,bJ N.length us,?_,?_⟩
 ·exact {
   slot:=λi u hu=>by
    have hu:=iM hu;obtain⟨v,h1,h2⟩:=r.get hu;refine⟨v,iq h1,?_⟩;rw[hV (by rw[jG i (by rw[←l];exact (We.mp hu).1)];exact V5)];exact h2
   dis:=λi j u w a ci cj ne hi hj si sj=>by
    rw[jG i (by rw[←l];exact (We.mp (iM hi)).1)] at ci;cases ci
   mu:=mu
   sup:=λa h=>h
   out:=λa h=>.inl h
   bas:=λa o h=>h
   io0:=λh=>by rw[BH] at h;cases h
   len:=u3 r.length}
 ·unfold fi at h;cases e:s (bJ N.length us) with
  |nx ρ'=>
   rw[e] at h;dsimp only at h;intro A' σ' H' q;split at h
   ·rename_i hm;subst hm;exact h _ H' q.bas (show Rp K H' A0 .non .non from mW)
   ·exact h.elim
  |rt u ρ'=>
   rw[e] at h;intro A' σ' H' v q vm;refine h v H' q.bas ?_;cases m with
   |S=>exact vm
   |P=>exact vm.elim
   |O=>
    obtain⟨a,e1,e2,e3,e4⟩:=vm;exact⟨a,e1,e2,e4⟩
  |bk=>rw[e] at h;exact h.elim
  |ct=>rw[e] at h;exact h.elim
  |exc=>rw[e] at h;exact h.elim
  |stk=>rw[e] at h;exact h.elim
theorem Df.fnD (G:Gm)(m:Md)(s:Ev->SR)(d:Df K mg x st)(S:aR N ps (aj st))(hb:∀(kV jF pm:Wd) (an:Option Ww) (bC ct:Wd) (us:List Wd),us.length=ps.length->bindArgs (XH x x (dE st) (bH st) (aj st) .none kV jF pm an bC ct) ⟨us,[]⟩=pure (ps.zip us))(BH:G.io=false)(jG:∀i,i<ps.length->G.is i=false)(eB:∀(f:Ww) (bC:Wd) (A:W2) (outer:List Env) (s0:Wr) (H:Hp) (E:XK),dw k (A.deeper (Yq x (aj st) s0.heap.objs.size f bC))->
   tQ (gP uQ P w K mg base N x (aj st) f bC A outer s0 H E).nox G m (bH st) s):Fn P w K mg base x (k+1) ps (jP K ps.length (fi m N.length s) m):=
 d.fn S hb (u4 G m s BH jG eB).1 (u4 G m s BH jG eB).2
theorem G0.okD (G:Gm)(m:Md)(s:Ev->SR)(F:G0 K x x st f fd)(S:aR N ps (aj st))(BH:G.io=false)(jG:∀i,i<ps.length->G.is i=false)(eB:∀(f:Ww) (bC:Wd) (A:W2) (outer:List Env) (s0:Wr) (H:Hp) (E:XK),dw k (A.deeper (Yq x (aj st) s0.heap.objs.size f bC))->
   tQ (gP uQ P w K mg base N x (aj st) f bC A outer s0 H E).nox G m (bH st) s):iI P w K mg base uQ (k+1) f fd ps (jP K ps.length (fi m N.length s) m):=
 F.ok S (u4 G m s BH jG eB).1 ((u4 G m s BH jG eB).2 f)
def wX (K:Wc):Sp:=λvs H Q _=>∃(a:Ww) (ns:List Int),vs=[.ref a]/\HD K H a (ns.map V.int)/\ns.length<=63/\∀H',Q (.bl true) H'
theorem Mm (hO:Hu H)(h:eF K H a xs):HD K H a xs:=by
 rcases h with (h|h)|h
 ·rcases hO a with z|⟨o,ys,z⟩
  ·rw[h] at z;cases z
  ·rw[h] at z;cases z
 ·exact .inl h
 ·exact .inr h
theorem wY {H:Hp}{A:Ww->Prop}:∀(ns:List Int),aA K H A (ns.map .int) (ns.map V.int)
 | []=>aA.nil
 |n::ns=>aA.cons dJ (wY ns)
theorem Mn {f:List U->R U}{fa:Ww}(F:iI P w K mg base uQ k fa fd ["script"] (jP K 1 f .S))(h:∀ns:List Int,ns.length<=63->f [.scr (ns.map .int)]=.ok (.bl true)):iI P w K mg base uQ k fa fd ["script"] (wX K):=by
 refine F.imp λvs H Q E ⟨a,ns,e,sc,l,q⟩=>?_;subst e;have hl:(ns.map U.int).length<=Wa:=by rw[V6];have:Wa=16777216:=rfl;lia
 refine⟨[.scr (ns.map .int)],λ_=>False,aA.cons ?_ aA.nil,λ_ h=>h.elim,?_⟩
 ·unfold Rp;exact⟨a,_,rfl,sc,hl,wY ns⟩
 ·have e:wN 1 f [.scr (ns.map .int)]=.ok (.bl true):=(hZ rfl).trans (h ns l);rw[e];intro v H' sm vm;have vm:Rp K H' (λ_=>False) (.bl true) v:=vm;unfold Rp at vm;subst vm;exact q H'
theorem Df.fnI (G:Gm)(s:Ev->SR)(d:Df K mg x st)(S:aR N ps (aj st))(hb:∀(kV jF pm:Wd) (an:Option Ww) (bC ct:Wd) (us:List Wd),us.length=ps.length->bindArgs (XH x x (dE st) (bH st) (aj st) .none kV jF pm an bC ct) ⟨us,[]⟩=pure (ps.zip us))(BH:G.io=true)(h0:G.is 0=true)(jG:∀i,i<ps.length->i≠0->G.is i=false)(eB:∀(f:Ww) (bC:Wd) (A:W2) (outer:List Env) (s0:Wr) (H:Hp) (E:XK),dw k (A.deeper (Yq x (aj st) s0.heap.objs.size f bC))->
   tQ (gP uQ P w K mg base N x (aj st) f bC A outer s0 H E).nox G .S (bH st) s):Fn P w K mg base x (k+1) ps (Dg K ps.length (yU N.length s)):=by
 refine d.fn S hb ?_ ?_
 ·rintro vs H Q E ⟨u0,us,a0,vs',A,rfl,_,_,r,_,h⟩;unfold wN at h;split at h
  ·rename_i e;split at e
   ·rename_i l;rw[Wl,←r.length,←l];rfl
   ·cases e
  ·exact h.elim
 ·rintro f bC A outer s0 H vs Q E hr ⟨u0,us,a0,vs',A0,rfl,ha,t0,r,mu,h⟩;refine⟨_,(eB f bC A outer s0 H E hr).un,?_⟩;have l:(u0::us).length=ps.length:=by
   unfold wN at h;by_cases c:(u0::us).length=ps.length
   ·exact c
   ·rw[hV c] at h;exact h.elim
  unfold wN at h;rw[hZ l] at h
  let Z:Pkg:=⟨A0,λb=>if b=a0 then none else H b,a0⟩
  have zb:∀b o,b≠a0->H b=some o->Z.B b=some o:=λb o nb z=>by
   show (if b=a0 then none else H b)=some o;rw[hV nb];exact z
  have rel:cb K G Z A0 (bJ N.length (u0::us)) (aa0 N (.ref a0::vs')) H:={
   slot:=λi u hu=>by
    have hu:=iM hu;cases i with
    |zero=>
     simp at hu;subst hu;refine⟨.ref a0,iq (by simp),?_⟩;rw[hZ h0];exact⟨a0,rfl,ha,by show (if a0=a0 then none else H a0)=none;rw[hZ rfl],.inr ⟨BH,rfl⟩,t0⟩
    |succ i=>
     have hl:=(We.mp hu).1;rw[X8] at hu;obtain⟨v,h1,h2⟩:=r.get hu;refine⟨v,iq (by rw[X8];exact h1),?_⟩;rw[hV (by rw[jG (i+1) (by rw[←l];exact hl) (by lia)];exact V5)];exact h2
   dis:=λi j u w a ci cj ne hi hj si sj=>by
    have hi:=(We.mp (iM hi)).1;have hj:=(We.mp (iM hj)).1;by_cases e:i=0
    ·rw[jG j (by rw[←l];exact hj) (by lia)] at cj;cases cj
    ·rw[jG i (by rw[←l];exact hi) e] at ci;cases ci
   mu:=mu
   sup:=λa h=>h
   out:=λa h=>.inl h
   bas:=λa o h=>by
    by_cases c:a=a0
    ·have h:(if a=a0 then none else H a)=some o:=h;rw[hZ c] at h;cases h
    ·have h:(if a=a0 then none else H a)=some o:=h;rw[hV c] at h;exact h
   io0:=λ_=>⟨iq (vs:=.ref a0::vs') (i:=0) (v:=.ref a0) rfl,h0⟩
   len:=u3 (by rw[Wl,Wl,r.length])}
  have fin:∀(A':Ww->Prop) (ρ':Ev) (σ':St) (H':Hp) (w:U),cb K G Z A' ρ' σ' H'->ρ'[0]? = some (some w)->(∀b o,b≠a0->H b=some o->H' b=some o)/\jq K H' A0 w a0:=λA' ρ' σ' H' w q hw=>by
   obtain⟨a,e1,e2,e3,e4,e5⟩:=q.own h0 hw;rw[(q.io0 BH).1] at e1;cases e1;exact⟨λb o nb z=>q.bas b o (zb b o nb z),e5.mono q.sup⟩
  refine⟨Z,A0,_,rel,?_⟩;unfold yU at h;cases e:s (bJ N.length (u0::us)) with
  |nx ρ'=>
   rw[e] at h;dsimp only at h;intro A' σ' H' q;split at h
   ·rename_i hm;split at hm
    ·rename_i w hw;cases hm;obtain⟨z1,z2⟩:=fin A' ρ' σ' H' _ q hw;exact h _ H' z1 z2 mW
    ·cases hm
   ·exact h.elim
  |rt u ρ'=>
   rw[e] at h;dsimp only at h;intro A' σ' H' v q vm;split at h
   ·rename_i hm;split at hm
    ·rename_i w hw;cases hm;obtain⟨z1,z2⟩:=fin A' ρ' σ' H' _ q hw;exact h _ H' z1 z2 vm
    ·cases hm
   ·exact h.elim
  |bk=>rw[e] at h;exact h.elim
  |ct=>rw[e] at h;exact h.elim
  |exc=>rw[e] at h;exact h.elim
  |stk=>rw[e] at h;exact h.elim
end
section
variable {e e2:X4}{p1:Pos}{y:Str}{b1 b2:Bool}{m m1 m2:Md}{g1 g2:Ev->R (U×Ev)}
noncomputable def tU (i:Nat)(gv gk:Ev->R (U×Ev)):Ev->SR:=λρ=>SR.of (gv ρ) λx=>if Ef x.2 i=true then SR.of (gk x.2) λy=>match y.1 with
 | .int k=>match y.2[i]? with
  |some (some (.lst us))=>match yG us.length k with
   |some j=>.nx (y.2.set i (some (.lst (us.set j x.1))))
   |none=>.stk
  |_=>.stk
 |_=>.stk
 else .stk
theorem u5 (he:DE X G e b1 m1 g1)(hk:DE X G e2 b2 m2 g2)(hn:m1≠.P:=by decide)(hN:X.N[i]? = some y:=by rfl)(hv:yx X.env.scope y:=by first|exact Or.inl rfl|exact Or.inr (Or.inl rfl)|exact Or.inr (Or.inr rfl))(c:G.is i=true:=by rfl)(hd:(y==("__debug__":Str))=false:=by decide)(iF:(y==("__classdict__":Str))=false:=by decide)(ha:∀v,assign (.Subscript (.Name y p1) e2 p2) X.env v=(do
   let ov ←holding [v] (YX (.Name y p1) X.env)
   let iv ←holding [v,ov] (YX e2 X.env)
   standAt p2
   holding [v,ov,iv] (setItem ov iv v)
   release [v,ov,iv] []):=by intro _;rfl)(hs:swapsWithSole [.Subscript (.Name y p1) e2 p2] e pos.line X.env=pure false:=by rfl)(hw:swappedStores [.Subscript (.Name y p1) e2 p2] e X.env=pure none:=by rfl)(h1:(Y9 [.Subscript (.Name y p1) e2 p2] X.env).map (·.2)=[assign (.Subscript (.Name y p1) e2 p2) X.env]:=by rfl):DS X G m (.Assign [.Subscript (.Name y p1) e2 p2] e pos) (tU i g1 g2):=⟨(LB he.un (LA (eJ hN hv hd iF) hk.un DJ ha) hs hw h1).to λD σ H h00=>by
 obtain⟨Z,A,ρ,q,f⟩:=h00;obtain⟨⟨u,ρ1⟩,e1,f⟩:=f.of;refine⟨Z,A,ρ,q,?_⟩;rw[e1];intro v H1 q1 x1 s1 vm;dsimp only at f;split at f
 ·rename_i hl;obtain⟨u00,hu0⟩:=uX hl;obtain⟨a0,h0,_⟩:=q1.own c hu0;obtain⟨⟨k,ρ2⟩,e2,f⟩:=f.of;refine⟨.ref a0,h0,Z,A,ρ1,q1,?_⟩;rw[e2];intro v2 H2 q2 x2 s2 zY;dsimp only at f;cases k with
  |int kk=>
   dsimp only at f;split at f
   ·rename_i us hu;split at f
    ·rename_i j hj;obtain⟨a0',k1,k2,_,_,k5⟩:=q2.own c hu;rw[h0] at k1;cases k1;obtain⟨xs,t1,t2,t3⟩:=k5;refine⟨a0,xs,kk,j,rfl,zY.pk.int,t1,by rw[←t3.length];exact hj,?_⟩;have em:∀b o,b≠a0->H2 b=some o->bL H2 a0 (.lst (xs.set j v)) b=some o:=λb o nb z=>by rw[aF nb];exact z
     have ex:dI A H2 (bL H2 a0 (.lst (xs.set j v))):=λb o nb z=>em b o (λy=>nb (y▸k2)) z;refine f A σ _ (q2.put c hu h0 em ⟨xs.set j v,aH,by rw[XI];exact t2,?_⟩);exact (t3.re q2.mu ex λb z=>.inl z).set j (((vm.rp hn).re q1.mu x2 λb z=>.inl z).re q2.mu ex λb z=>.inl z)
    ·exact f.elim
   ·exact f.elim
  |_=>exact f.elim
 ·exact f.elim⟩
noncomputable def R9 (i:Nat)(p:U->U->R U)(g:Ev->R (U×Ev)):Ev->SR:=λρ=>match ρ[i]? with
 |some (some u)=>SR.of (g ρ) λy=>SR.of (p u y.1) λz=>.nx (y.2.set i (some z))
 |_=>.stk
end
end L2
namespace L2
def Eo:R2:=λx y H Q=>∃l b xs zs,x=.ref l/\y=.ref b/\H l=some (.lst xs)/\H b=some (.lst zs)/\xs.length+zs.length<=Wa/\∀p,H p=none->Q (.ref p) (bL H p (.lst (xs++zs)))
theorem HZ:i9 X (Zf .Add) Eo:=by
 intro pins s σ H x y v u Q I rx ry h;obtain⟨l,b,xs,zs,rfl,rfl,hH,hB,hz,q⟩:=h;cases rx;cases ry;obtain⟨z,ao,n,r,hl,e⟩:=I.lstM hH;obtain⟨z2,its2,n2,r2,GO,e2⟩:=I.lstM hB;refine PySem.P.add_list e e2 ?_ (by rw[Wb,Wb];lia);have ea:ao.toArray++its2.toArray=(ao++its2).toArray:=by simp
 rw[ea];exact⟨.ref _,_,I.lnew (t':=s.toks) (r.append r2) (by rw[V9];lia),rfl,q _ I.fresh⟩
noncomputable def bV:U->U->R U:=λu w=>match u,w with
 | .int i,.int j=>.ok (.int (i+j))
 | .tup a,.tup b=>if a.length+b.length<=Wa then .ok (.tup (a++b)) else .stk
 | .lst a,.lst b=>if a.length+b.length<=Wa then .ok (.lst (a++b)) else .stk
 |_,_=>.stk
noncomputable def Mo:U->U->R U:=λu w=>match u,w with
 | .lst a,.lst b=>if a.length+b.length<=Wa then .ok (.lst (a++b)) else .stk
 |_,_=>.stk
def JQ:R2:=λx y H Q=>(yB λi j=>.int (i+j)) x y H Q\/D9 x y H Q\/Eo x y H Q
theorem bT:i9 X (Zf .Add) JQ:=LJ.or (D_.or HZ)
theorem H9:fg K Eo .O Mo:=λA H x y u w z Q hx hy mu e q=>by
 unfold Mo at e;split at e
 ·split at e
  ·rename_i hl;cases e;unfold Pk at hx hy;obtain⟨a,xs,rfl,h1,l1,r1⟩:=hx;obtain⟨b,ys,rfl,h2,l2,r2⟩:=hy;exact⟨a,b,xs,ys,rfl,rfl,h1,h2,by rw[←r1.length,←r2.length];exact hl,λp hp=>q _ _ (bD hp _) ⟨p,rfl,hp,bI mu (r1.append r2) hp (by rw[V9];exact hl)⟩⟩
  ·cases e
 ·cases e
theorem bU:fg K JQ .S bV:=λA H x y u w z Q hx hy mu e q=>by
 unfold bV at e;split at e
 ·cases e;exact .inl ⟨_,_,hx.int,hy.int,q _ H (aG.refl _) (show Rp K H A _ _ from dJ)⟩
 ·split at e
  ·rename_i hl;cases e;unfold Pk at hx hy;obtain⟨a,xs,rfl,h1,l1,r1⟩:=hx;obtain⟨b,ys,rfl,h2,l2,r2⟩:=hy;refine .inr (.inl ⟨a,b,xs,ys,rfl,rfl,h1,h2,by rw[←r1.length,←r2.length];exact hl,λr H' sm hr=>q _ H' sm (show Rp K H' A _ _ from ?_)⟩);unfold Rp;exact⟨r,_,rfl,hr,by rw[V9];exact hl,(r1.append r2).same sm⟩
  ·cases e
 ·refine .inr (.inr (H9 A H x y _ _ z Q hx hy mu (show Mo (.lst _) (.lst _)=_ from e) λv H' sm vm=>q v H' sm ?_));obtain⟨a,rfl,na,t⟩:=vm;exact t.rp (λb h=>.inl h) λh=>by have:=mu a h;rw[na] at this;exact this
 ·cases e
noncomputable def pI (c:Int->Int->Bool)(f:Int->Int->Int):U->U->R U:=λu w=>match u,w with
 | .int i,.int j=>if c i j=true then .ok (.int (f i j)) else .stk
 |_,_=>.stk
theorem Am {C:Int->Int->Prop}{c:Int->Int->Bool}{f:Int->Int->Int}(h:∀i j,c i j=true->C i j):fg K (rI C λi j=>.int (f i j)) .S (pI c f):=λA H x y u w z Q hx hy mu e q=>by
 unfold pI at e;split at e
 ·rename_i i j;split at e
  ·rename_i hc;cases e;exact⟨i,j,hx.int,hy.int,h i j hc,q _ H (aG.refl _) (show Rp K H A _ _ from dJ)⟩
  ·cases e
 ·cases e
noncomputable def H_:U->U->R U:=λu w=>match u,w with
 | .int i,.int j=>.ok (.int (i-j))
 |_,_=>.stk
theorem Ia:fg K (yB λi j=>.int (i-j)) .S H_:=λA H x y u w z Q hx hy mu e q=>by
 unfold H_ at e;split at e
 ·cases e;exact⟨_,_,hx.int,hy.int,q _ H (aG.refl _) (show Rp K H A _ _ from dJ)⟩
 ·cases e
noncomputable def m8 (i j:Int):Bool:=(decide (-(2 ^ 64)<i)&&decide (i<2 ^ 64))||(decide (-(2 ^ 64)<j)&&decide (j<2 ^ 64))
noncomputable def lC:U->U->R U:=pI m8 (·*·)
theorem iN:fg K (rI Hi λi j=>.int (i*j)) .S lC:=Am λi j h=>by
 unfold m8 at h;simp only[Zn,Wt,decide_eq_true_eq] at h;exact h
noncomputable def wZ (_ j:Int):Bool:=decide (0<j)&&decide (j<18446744073709551616)
noncomputable def nZ:U->U->R U:=pI wZ (· / ·)
theorem lD:fg K (rI D4 λi j=>.int (i / j)) .S nZ:=Am λi j h=>by
 unfold wZ at h;simp only[Wt,decide_eq_true_eq] at h;exact h
noncomputable def oV:U->U->R U:=pI (λ_ j=>decide (0<j)) (· % ·)
theorem gW:fg K (rI (λ_ j=>0<j) λi j=>.int (i % j)) .S oV:=Am λi j h=>of_decide_eq_true h
noncomputable def Ib (i j:Int):Bool:=decide (0<=j)&&decide (j<=1000000)&&decide (i.natAbs<2 ^ 64)
noncomputable def Ic:U->U->R U:=pI Ib λi j=>i ^ j.toNat
theorem An:fg K (rI OP λi j=>.int (i ^ j.toNat)) .S Ic:=Am λi j h=>by
 unfold Ib at h;simp only[Wt,decide_eq_true_eq] at h;exact⟨h.1.1,h.1.2,h.2⟩
noncomputable def R_:U->R U:=λu=>match u with
 | .int i=>.ok (.int (-i))
 |_=>.stk
noncomputable def pC (f:Int->Int->Bool):U->U->R U:=λu w=>match u,w with
 | .int i,.int j=>.ok (.bl (f i j))
 |_,_=>.stk
theorem Ao {f:Int->Int->Bool}:fg K (yB λi j=>.bl (f i j)) .S (pC f):=λA H x y u w z Q hx hy mu e q=>by
 unfold pC at e;split at e
 ·cases e;exact⟨_,_,hx.int,hy.int,q _ H (aG.refl _) (show Rp K H A _ _ from fK)⟩
 ·cases e
noncomputable def Sa:U->U->R U:=pC λi j=>decide (i<j)
noncomputable def QZ:U->U->R U:=pC λi j=>decide (i<=j)
noncomputable def G1:U->U->R U:=pC λi j=>decide (j<i)
noncomputable def Sb:U->U->R U:=pC λi j=>decide (j<=i)
mutual
noncomputable def ja:U->Option D
 | .non=>some .non
 | .bl b=>some (.bl b)
 | .int i=>some (.int i)
 | .str x=>some (.str x)
 | .tup us=>(fE us).map .tup
 | .lst us=>(fE us).map .lst
 | .dct _ _=>none
 | .scr _=>none
noncomputable def fE:List U->Option (List D)
 | []=>some []
 |u::us=>(ja u).bind λd=>(fE us).map λds=>d::ds
end
mutual
theorem yV {H:Hp}{A:Ww->Prop}:∀{u:U} {v:V} {d:D},Rp K H A u v->ja u=some d->aQ K H d v
 | .non,v,d,h,e=>by unfold ja at e;cases e;unfold Rp at h;unfold aQ;exact h
 | .bl b,v,d,h,e=>by unfold ja at e;cases e;unfold Rp at h;unfold aQ;exact h
 | .int b,v,d,h,e=>by unfold ja at e;cases e;unfold Rp at h;unfold aQ;exact h
 | .str b,v,d,h,e=>by unfold ja at e;cases e;unfold Rp at h;unfold aQ;exact h
 | .tup us,v,d,h,e=>by
  unfold ja at e;cases e2:fE us with
  |none=>rw[e2] at e;cases e
  |some ds=>
   rw[e2] at e;cases e;unfold Rp at h;unfold aQ;obtain⟨a,xs,r,q,l,z⟩:=h;exact⟨a,xs,r,eZ.of q,jS z e2⟩
 | .lst us,v,d,h,e=>by
  unfold ja at e;cases e2:fE us with
  |none=>rw[e2] at e;cases e
  |some ds=>
   rw[e2] at e;cases e;unfold Rp at h;unfold aQ;obtain⟨a,xs,r,_,q,l,z⟩:=h;exact⟨a,xs,r,eF.of q,jS z e2⟩
 | .dct _ _,v,d,h,e=>by unfold ja at e;cases e
 | .scr _,v,d,h,e=>by unfold ja at e;cases e
theorem jS {H:Hp}{A:Ww->Prop}:∀{us:List U} {vs:List V} {ds:List D},aA K H A us vs->fE us=some ds->eG K H ds vs
 | [],vs,ds,h,e=>by unfold fE at e;cases e;unfold aA at h;unfold eG;exact h
 |u::us,vs,ds,h,e=>by
  unfold fE at e;cases e1:ja u with
  |none=>rw[e1] at e;cases e
  |some d=>
   cases e2:fE us with
   |none=>rw[e1,e2] at e;cases e
   |some ds'=>
    rw[e1,e2] at e;cases e;unfold aA at h;unfold eG;obtain⟨x,r,q,p,z⟩:=h;exact⟨x,r,q,yV p e1,jS z e2⟩
end
theorem u6 {d:D}(h:Pk K H A u v)(e:ja u=some d):aQ K H d v:=by
 cases u with
 |lst us=>
  unfold ja at e;cases e2:fE us with
  |none=>rw[e2] at e;cases e
  |some ds=>
   rw[e2] at e;cases e;unfold Pk at h;unfold aQ;obtain⟨a,xs,r,q,l,z⟩:=h;exact⟨a,xs,r,eF.of q,jS z e2⟩
 |dct=>unfold ja at e;cases e
 |scr=>unfold ja at e;cases e
 |tup us=>exact yV (A:=A) (by unfold Pk at h;unfold Rp;exact h) e
 |_=>exact yV (A:=A) (by unfold Pk at h;unfold Rp;exact h) e
noncomputable def m9 (u w:U):R Bool:=match ja u,ja w with
 |some d,some d'=>if cF d<=30 then .ok (fV d d') else .stk
 |_,_=>.stk
noncomputable def yW (f:Bool->Bool):U->U->R U:=λu w=>(m9 u w).bind λb=>.ok (.bl (f b))
theorem m_ {f:Bool->Bool}:fg K (L6 K f) .S (yW f):=λA H x y u w z Q hx hy mu e q=>by
 unfold yW m9 at e;obtain⟨b,e1,e2⟩:=R.bind_ok e;split at e1
 ·rename_i d d' h1 h2;split at e1
  ·rename_i hd;cases e1;cases e2;exact⟨d,d',u6 hx h1,u6 hy h2,hd,q _ H (aG.refl _) (show Rp K H A _ _ from fK)⟩
  ·cases e1
 ·cases e1
noncomputable def JR:U->Bool
 | .non=>true
 |_=>false
noncomputable def Sd (f:Bool->Bool):U->U->R U:=λu w=>match w with
 | .non=>.ok (.bl (f (JR u)))
 |_=>.stk
noncomputable def Se (f:Bool->Bool):U->U->R U:=λu w=>match u,w with
 | .bl a,.bl b=>.ok (.bl (f (decide (a=b))))
 |_,_=>.stk
theorem yX {i:Int}{z:U}(r:aA K H A us xs)(e:ku us i=some z):∃v,ku xs i=some v/\Rp K H A z v:=by
 unfold ku at e ⊢;rw[←r.length];cases h:yG us.length i with
 |none=>rw[h] at e;cases e
 |some j=>
  rw[h] at e;obtain⟨v,h1,h2⟩:=r.get (show us[j]? = some z from e);exact⟨v,h1,h2⟩
noncomputable def n6:U->U->R U:=λu w=>match u,w with
 | .lst us,.int i=>match ku us i with
  |some z=>.ok z
  |none=>.stk
 | .tup us,.int i=>match ku us i with
  |some z=>.ok z
  |none=>.stk
 | .scr us,.int i=>match ku us i with
  |some z=>.ok z
  |none=>.stk
 | .str x,.int i=>match ku x.cps.toList i with
  |some c=>if x.length<=Wa then .ok (.str ⟨(List.toArray [c])⟩) else .stk
  |none=>.stk
 |_,_=>.stk
theorem d_:fg K (TB K) .S n6:=λA H x y u w z Q hx hy mu e q=>by
 unfold n6 at e;split at e
 ·split at e
  ·rename_i z' hz;cases e;unfold Pk at hx;obtain⟨a,xs,rfl,h1,l1,r1⟩:=hx;obtain⟨v,h2,h3⟩:=yX r1 hz;exact .inl ⟨a,xs,_,v,rfl,hy.int,eF.of h1,h2,q _ H (aG.refl _) h3⟩
  ·cases e
 ·split at e
  ·rename_i z' hz;cases e;unfold Pk at hx;obtain⟨a,xs,rfl,h1,l1,r1⟩:=hx;obtain⟨v,h2,h3⟩:=yX r1 hz;exact .inr (.inl ⟨a,xs,_,v,rfl,hy.int,eZ.of h1,h2,q _ H (aG.refl _) h3⟩)
  ·cases e
 ·split at e
  ·rename_i z' hz;cases e;unfold Pk at hx;obtain⟨a,xs,rfl,h1,l1,r1⟩:=hx;obtain⟨v,h2,h3⟩:=yX r1 hz;exact .inl ⟨a,xs,_,v,rfl,hy.int,h1.sq,h2,q _ H (aG.refl _) h3⟩
  ·cases e
 ·split at e
  ·rename_i z' hz;split at e
   ·rename_i hl;cases e;exact .inr (.inr ⟨_,_,z',hx.str,hy.int,hl,hz,q _ H (aG.refl _) (show Rp K H A _ _ from Ec)⟩)
   ·cases e
  ·cases e
 ·cases e
noncomputable def gR {α:Type}(xs:List α)(lo hi:Option Int):List α:=(xs.drop (HT.sIx xs.length 0 lo)).take (HT.sIx xs.length xs.length hi-HT.sIx xs.length 0 lo)
theorem jv {α:Type}(xs:List α)(lo hi:Option Int):(gR xs lo hi).length<=xs.length:=by
 unfold gR;rw[Wx,W9];lia
theorem u7 (r:aA K H A us xs)(lo hi:Option Int):aA K H A (gR us lo hi) (pY xs lo hi):=by
 unfold gR pY;rw[←r.length];exact (r.drop _).take _
theorem cO:DF X (λx lo hi H Q=>Hr X.K x lo hi H Q\/D8 X.K x lo hi H Q):=Hs.or HA
noncomputable def jg:U->Option Int->Option Int->R U:=λu lo hi=>match u with
 | .lst us=>.ok (.lst (gR us lo hi))
 | .scr us=>.ok (.lst (gR us lo hi))
 | .tup us=>.ok (.tup (gR us lo hi))
 |_=>.stk
noncomputable def Pl:U->Option Int->Option Int->R U:=λu lo hi=>match u with
 | .lst us=>.ok (.lst (gR us lo hi))
 | .scr us=>.ok (.lst (gR us lo hi))
 |_=>.stk
theorem Ap:Ei K (Hr K) .O Pl:=λA H x u lo hi z Q hx mu e q=>by
 unfold Pl at e;split at e
 ·cases e;unfold Pk at hx;obtain⟨a,xs,rfl,h1,l1,r1⟩:=hx;exact⟨a,xs,rfl,eF.of h1,λp hp=>q _ _ (bD hp _) ⟨p,rfl,hp,bI mu (u7 r1 lo hi) hp (WD (jv _ _ _) l1)⟩⟩
 ·cases e;unfold Pk at hx;obtain⟨a,xs,rfl,h1,l1,r1⟩:=hx;exact⟨a,xs,rfl,h1.sq,λp hp=>q _ _ (bD hp _) ⟨p,rfl,hp,bI mu (u7 r1 lo hi) hp (WD (jv _ _ _) l1)⟩⟩
 ·cases e
theorem JS (mu:∀a,A a->Mu (H a))(vm:B6 K .O A H H' u v):Rp K H' A u v:=by
 obtain⟨a,rfl,na,t⟩:=vm;exact t.rp (λb h=>.inl h) λh=>by have:=mu a h;rw[na] at this;exact this
theorem fF:Ei K (λx lo hi H Q=>Hr K x lo hi H Q\/D8 K x lo hi H Q) .S jg:=λA H x u lo hi z Q hx mu e q=>by
 unfold jg at e;split at e
 ·cases e;exact .inl (Ap A H x _ lo hi _ Q hx mu rfl λv H' sm vm=>q v H' sm (JS mu vm))
 ·cases e;exact .inl (Ap A H x _ lo hi _ Q hx mu rfl λv H' sm vm=>q v H' sm (JS mu vm))
 ·cases e;unfold Pk at hx;obtain⟨a,xs,rfl,h1,l1,r1⟩:=hx;refine .inr ⟨a,xs,rfl,h1,λr H' sm hr=>q _ H' sm (show Rp K H' A _ _ from ?_)⟩;unfold Rp;exact⟨r,_,rfl,hr,WD (jv _ _ _) l1,(u7 r1 lo hi).same sm⟩
 ·cases e
end L2
namespace L2
section
theorem yO.one (h:yO K H A [u] vs):∃v,vs=[v]/\Pk K H A u v:=by
 unfold yO at h;obtain⟨x,r,rfl,p,q⟩:=h;unfold yO at q;subst q;exact⟨x,rfl,p⟩
theorem yO.two {w:U}(h:yO K H A [u,w] vs):∃v v',vs=[v,v']/\Pk K H A u v/\Pk K H A w v':=by
 unfold yO at h;obtain⟨x,r,rfl,p,q⟩:=h;obtain⟨v,rfl,q'⟩:=yO.one q;exact⟨x,v,rfl,p,q'⟩
noncomputable def lE:List U->R U:=λus=>match us with
 | [.lst xs]=>.ok (.int xs.length)
 | [.tup xs]=>.ok (.int xs.length)
 | [.scr xs]=>.ok (.int xs.length)
 | [.str x]=>if x.length<=Wa then .ok (.int x.length) else .stk
 |_=>.stk
theorem iO:j6 K (λxs H Q=>∃x n,xs=[x]/\OV K x H n/\Q (.int n) H) .S lE:=λA H vs us z Q h mu e q=>by
 unfold lE at e;split at e
 ·rename_i xs;cases e;obtain⟨v,rfl,p⟩:=h.one;unfold Pk at p;obtain⟨a,ys,rfl,h1,l1,r1⟩:=p;exact⟨_,xs.length,rfl,.inl ⟨ys,eF.of h1,r1.length⟩,q _ H (aG.refl _) (show Rp K H A _ _ from dJ)⟩
 ·rename_i xs;cases e;obtain⟨v,rfl,p⟩:=h.one;unfold Pk at p;obtain⟨a,ys,rfl,h1,l1,r1⟩:=p;exact⟨_,xs.length,rfl,.inr ⟨ys,eZ.of h1,r1.length⟩,q _ H (aG.refl _) (show Rp K H A _ _ from dJ)⟩
 ·rename_i xs;cases e;obtain⟨v,rfl,p⟩:=h.one;unfold Pk at p;obtain⟨a,ys,rfl,h1,l1,r1⟩:=p;exact⟨_,xs.length,rfl,.inl ⟨ys,h1.sq,r1.length⟩,q _ H (aG.refl _) (show Rp K H A _ _ from dJ)⟩
 ·rename_i x;split at e
  ·rename_i hl;cases e;obtain⟨v,rfl,p⟩:=h.one;have:=p.str;subst this;exact⟨_,x.length,rfl,⟨hl,rfl⟩,q _ H (aG.refl _) (show Rp K H A _ _ from dJ)⟩
  ·cases e
 ·cases e
noncomputable def n9:List U->R U:=λus=>match us with
 | [.lst xs]=>.ok (.lst xs)
 | [.tup xs]=>.ok (.lst xs)
 |_=>.stk
theorem w6:j6 K (λxs H Q=>∃p ys,xs=[.ref p]/\(eF K H p ys\/eZ K H p ys)/\∀l,H l=none->Q (.ref l) (bL H l (.lst ys))) .O n9:=λA H vs us z Q h mu e q=>by
 unfold n9 at e;split at e
 ·rename_i xs;cases e;obtain⟨v,rfl,p⟩:=h.one;unfold Pk at p;obtain⟨a,ys,rfl,h1,l1,r1⟩:=p;exact⟨a,ys,rfl,.inl (eF.of h1),λl hl=>q _ _ (bD hl _) ⟨l,rfl,hl,bI mu r1 hl l1⟩⟩
 ·rename_i xs;cases e;obtain⟨v,rfl,p⟩:=h.one;unfold Pk at p;obtain⟨a,ys,rfl,h1,l1,r1⟩:=p;exact⟨a,ys,rfl,.inr (eZ.of h1),λl hl=>q _ _ (bD hl _) ⟨l,rfl,hl,bI mu r1 hl l1⟩⟩
 ·cases e
noncomputable def gf:List U->R U:=λus=>match us with
 | [.lst xs]=>.ok (.tup xs)
 | [.tup xs]=>.ok (.tup xs)
 |_=>.stk
theorem eM:j6 K (λxs H Q=>∃p ys,xs=[.ref p]/\((eF K H p ys/\∀l,H l=none->Q (.ref l) (bL H l (.tup ys)))\/(eZ K H p ys/\Q (.ref p) H))) .S gf:=λA H vs us z Q h mu e q=>by
 unfold gf at e;split at e
 ·rename_i xs;cases e;obtain⟨v,rfl,p⟩:=h.one;unfold Pk at p;obtain⟨a,ys,rfl,h1,l1,r1⟩:=p;exact⟨a,ys,rfl,.inl ⟨eF.of h1,λl hl=>q _ _ (bD hl _) (mX r1 hl l1)⟩⟩
 ·rename_i xs;cases e;obtain⟨v,rfl,p⟩:=h.one;have p':=p;unfold Pk at p;obtain⟨a,ys,rfl,h1,l1,r1⟩:=p;refine⟨a,ys,rfl,.inr ⟨eZ.of h1,q _ H (aG.refl _) (show Rp K H A _ _ from ?_)⟩⟩;unfold Rp;unfold Pk at p';exact p'
 ·cases e
noncomputable def Ca:List U->R U:=λus=>match us with
 | [.int i]=>.ok (.int (if i<0 then -i else i))
 |_=>.stk
theorem Aq:j6 K (λxs H Q=>∃i,xs=[.int i]/\Q (.int (if i<0 then -i else i)) H) .S Ca:=λA H vs us z Q h mu e q=>by
 unfold Ca at e;split at e
 ·cases e;obtain⟨v,rfl,p⟩:=h.one;exact⟨_,by rw[p.int],q _ H (aG.refl _) (show Rp K H A _ _ from dJ)⟩
 ·cases e
noncomputable def w9:List U->R U:=λus=>match us with
 | [.int i,.int j]=>.ok (.int (if j>i then j else i))
 |_=>.stk
theorem Ep:j6 K (λxs H Q=>∃i j,xs=[.int i,.int j]/\Q (.int (if j>i then j else i)) H) .S w9:=λA H vs us z Q h mu e q=>by
 unfold w9 at e;split at e
 ·cases e;obtain⟨v,w,rfl,p,p'⟩:=h.two;exact⟨_,_,by rw[p.int,p'.int],q _ H (aG.refl _) (show Rp K H A _ _ from dJ)⟩
 ·cases e
noncomputable def qv:List U->R U:=λus=>match us with
 | [.int i,.int j]=>.ok (.int (if j<i then j else i))
 |_=>.stk
theorem qw:j6 K (λxs H Q=>∃i j,xs=[.int i,.int j]/\Q (.int (if j<i then j else i)) H) .S qv:=λA H vs us z Q h mu e q=>by
 unfold qv at e;split at e
 ·cases e;obtain⟨v,w,rfl,p,p'⟩:=h.two;exact⟨_,_,by rw[p.int,p'.int],q _ H (aG.refl _) (show Rp K H A _ _ from dJ)⟩
 ·cases e
noncomputable def fL:List U->Option (List Int)
 | []=>some []
 | .int i::us=>(fL us).map (i::·)
 |_::_=>none
noncomputable def jw:List U->Option (List Bool)
 | []=>some []
 | .bl i::us=>(jw us).map (i::·)
 |_::_=>none
theorem lF:∀{us:List U} {ns:List Int},fL us=some ns->us=ns.map .int
 | [],ns,h=>by unfold fL at h;cases h;rfl
 |u::us,ns,h=>by
  cases u<;>unfold fL at h<;>try cases h
  rename_i i;cases e:fL us with
  |none=>rw[e] at h;cases h
  |some ms=>rw[e] at h;cases h;rw[lF e];rfl
theorem w_:∀{us:List U} {ns:List Bool},jw us=some ns->us=ns.map .bl
 | [],ns,h=>by unfold jw at h;cases h;rfl
 |u::us,ns,h=>by
  cases u<;>unfold jw at h<;>try cases h
  rename_i i;cases e:jw us with
  |none=>rw[e] at h;cases h
  |some ms=>rw[e] at h;cases h;rw[w_ e];rfl
theorem Cb (ns:List Bool):jw (ns.map .bl)=some ns:=by
 induction ns with
 |nil=>rfl
 |cons n ns ih=>rw[V_];unfold jw;rw[ih];rfl
theorem aA.toI {H:Hp}{A:Ww->Prop}:∀{ns:List Int} {vs:List V},aA K H A (ns.map .int) vs->vs=ns.map V.int
 | [],vs,h=>by rw[Ym] at h;unfold aA at h;exact h
 |n::ns,vs,h=>by
  rw[V_] at h;unfold aA at h;obtain⟨x,r,rfl,p,q⟩:=h;unfold Rp at p;rw[p,aA.toI q];rfl
theorem aA.toB {H:Hp}{A:Ww->Prop}:∀{ns:List Bool} {vs:List V},aA K H A (ns.map .bl) vs->vs=ns.map V.bl
 | [],vs,h=>by rw[Ym] at h;unfold aA at h;exact h
 |n::ns,vs,h=>by
  rw[V_] at h;unfold aA at h;obtain⟨x,r,rfl,p,q⟩:=h;unfold Rp at p;rw[p,aA.toB q];rfl
theorem lG {H:Hp}{A:Ww->Prop}:∀(ns:List Int),aA K H A (ns.map .int) (ns.map V.int)
 | []=>aA.nil
 |n::ns=>aA.cons dJ (lG ns)
noncomputable def u9:List U->R U:=λus=>match us with
 | [.lst xs]=>match jw xs with
  |some bs=>.ok (.bl (bs.all id))
  |none=>.stk
 |_=>.stk
theorem Ar:j6 K (λxs H Q=>∃(p:Ww) (bs:List Bool),xs=[.ref p]/\eF K H p (bs.map V.bl)/\Q (.bl (bs.all id)) H) .S u9:=λA H vs us z Q h mu e q=>by
 unfold u9 at e;split at e
 ·rename_i xs;split at e
  ·rename_i bs hb;cases e;obtain⟨v,rfl,p⟩:=h.one;unfold Pk at p;obtain⟨a,ys,rfl,h1,l1,r1⟩:=p;rw[w_ hb] at r1;rw[r1.toB] at h1;exact⟨a,bs,rfl,eF.of h1,q _ H (aG.refl _) (show Rp K H A _ _ from fK)⟩
  ·cases e
 ·cases e
noncomputable def Cc (x:Int):List Int->List Int
 | []=>[x]
 |y::r=>if y<x then y::Cc x r else x::y::r
noncomputable def tV (ns:List Int):List Int:=ns.foldr Cc []
theorem ng (x:Int):∀l,(Cc x l).Perm (x::l)
 | []=>.refl _
 |y::r=>by
  unfold Cc;split
  ·exact ((ng x r).cons y).trans (.swap x y r)
  ·exact .refl _
theorem kA:∀ns:List Int,(tV ns).Perm ns
 | []=>.refl _
 |x::l=>(ng x _).trans ((kA l).cons x)
theorem As (x:Int):∀{l:List Int},l.Pairwise (·<=·)->(Cc x l).Pairwise (·<=·)
 | [],_=>aab _ _
 |y::r,h=>by
  obtain⟨h1,h2⟩:=X9.mp h;unfold Cc;split
  ·refine X9.mpr ⟨λz hz=>?_,As x h2⟩;rcases Wn.mp ((ng x r).mem_iff.mp hz) with rfl|hz
   ·lia
   ·exact h1 z hz
  ·refine X9.mpr ⟨λz hz=>?_,h⟩;rcases Wn.mp hz with rfl|hz
   ·lia
   ·have:=h1 z hz;lia
theorem xa:∀ns:List Int,(tV ns).Pairwise (·<=·)
 | []=>List.Pairwise.nil
 |x::l=>As x (xa l)
noncomputable def yY:List U->R U:=λus=>match us with
 | [.lst xs]=>match fL xs with
  |some ns=>if ns.length<64 then .ok (.lst ((tV ns).map .int)) else .stk
  |none=>.stk
 | [.tup xs]=>match fL xs with
  |some ns=>if ns.length<64 then .ok (.lst ((tV ns).map .int)) else .stk
  |none=>.stk
 |_=>.stk
theorem Cd:j6 K (λxs H Q=>∃(p:Ww) (ns:List Int),xs=[.ref p]/\(eF K H p (ns.map V.int)\/eZ K H p (ns.map V.int))/\ns.length<64/\
  ∀(l:Ww) (uG:List Int),H l=none->uG.Perm ns->uG.Pairwise (·<=·)->Q (.ref l) (bL H l (.lst (uG.map V.int)))) .O yY:=λA H vs us z Q h mu e q=>by
 have fin:∀(ns:List Int),ns.length<64->z=.lst ((tV ns).map .int)->∀(l:Ww) (uG:List Int),H l=none->uG.Perm ns->uG.Pairwise (·<=·)->Q (.ref l) (bL H l (.lst (uG.map V.int))):=λns hl hz l uG hn hp hw=>by
  have e:uG=tV ns:=PySem.W.ksm_same (hp.trans (kA ns).symm) hw (xa ns);subst e hz;refine q _ _ (bD hn _) ⟨l,rfl,hn,bI mu (lG _) hn ?_⟩;have:Wa=16777216:=rfl;rw[V6,(kA ns).length_eq];lia
 unfold yY at e;split at e
 ·rename_i xs;split at e
  ·rename_i ns hb;split at e
   ·rename_i hl;cases e;obtain⟨v,rfl,p⟩:=h.one;unfold Pk at p;obtain⟨a,ys,rfl,h1,l1,r1⟩:=p;rw[lF hb] at r1;rw[r1.toI] at h1;exact⟨a,ns,rfl,.inl (eF.of h1),hl,fin ns hl rfl⟩
   ·cases e
  ·cases e
 ·rename_i xs;split at e
  ·rename_i ns hb;split at e
   ·rename_i hl;cases e;obtain⟨v,rfl,p⟩:=h.one;unfold Pk at p;obtain⟨a,ys,rfl,h1,l1,r1⟩:=p;rw[lF hb] at r1;rw[r1.toI] at h1;exact⟨a,ns,rfl,.inr (eZ.of h1),hl,fin ns hl rfl⟩
   ·cases e
  ·cases e
 ·cases e
noncomputable def Sf (ks:List U):String:=match ks with
 | .tup _::_=>"script"
 |_=>"dict"
noncomputable def Ce:U->String
 | .non=>"NoneType"
 | .bl _=>"bool"
 | .int _=>"int"
 | .str _=>"str"
 | .tup _=>"tuple"
 | .lst _=>"list"
 | .dct ks _=>Sf ks
 | .scr _=>"script"
theorem JT (h:Pk K H A u v)(hs:Ce u≠"script"):sL K H v (Ce u):=by
 cases u<;>unfold Pk at h
 case scr=>exact absurd rfl hs
 case non=>subst h;exact .non
 case bl=>subst h;exact .bl _
 case int=>subst h;exact .int _
 case str=>subst h;exact .str _
 case tup=>obtain⟨a,xs,rfl,h1,_⟩:=h;exact .tup h1
 case lst=>
  obtain⟨a,xs,rfl,h1,_⟩:=h;exact .lst h1
 case dct=>
  obtain⟨a,xs,rfl,h1,_⟩:=h;rcases h1 with⟨k,h1,e,_⟩|⟨k,n,h1,e,_⟩
  ·have:Sf (k.map λp=>kU p.1)="dict":=by
    cases k with
    |nil=>rfl
    |cons p k=>
     obtain⟨p1,p2⟩:=p;cases p1<;>rfl
   show sL K H _ (Sf _);rw[e,this];exact .dK h1
  ·refine absurd e λe=>?_;cases k with
   |nil=>exact n rfl
   |cons p k=>rw[e] at hs;exact hs rfl
variable {e:X4}{p1:Pos}{b1:Bool}{m1:Md}{g1:Ev->R (U×Ev)}
noncomputable def lH (T:String)(g:Ev->R (U×Ev)):Ev->R (U×Ev):=λρ=>(g ρ).bind λx=>if Ce x.1="script" then .stk else .ok (.bl (dF (Ce x.1) T),x.2)
theorem iP (hT:T∈["bool","int","str","list","tuple","dict"])(he:DE X G e b1 m1 g1)(zi:X.mg "isinstance"=none)(zt:X.mg x=none)(bt:W6 x=some (.type T))(hg:Gl X "isinstance":=by rfl)(ht:Gl X x:=by rfl)(hn:x≠"__name__":=by decide)(hd:(x==("__debug__":Str))=false:=by decide)(hs:Wm [e,.Name x p2] X.env=(false,YX e X.env)::Wm [.Name x p2] X.env:=by rfl)(bK:Wm [.Name x p2] X.env=(false,YX (.Name x p2) X.env)::Wm [] X.env:=by rfl)(j_:(Yp pos (Wm [.Name x p2] X.env)).any (·.1)=false:=by rfl) :
  DE X G (.Call (.Name "isinstance" p1) [e,.Name x p2] [] pos) b1 .S (lH T g1):=⟨(f7 (wH (m:=T) hT) hg zi eW (aO he.un (aO (ph (v:=.ty T) ht zt bt rfl hn hd) cT bK) hs) (by decide) (by decide) hs j_).to λσ H Q h=>by
 obtain⟨Z,A,ρ,q,f⟩:=h;obtain⟨⟨u,ρ1⟩,e1,f⟩:=f.bind;refine⟨Z,A,ρ,q,?_⟩;rw[e1];intro v H1 q1 x1 s1 vm;dsimp only at f;split at f
 ·exact f.elim
 ·rename_i hn;exact⟨v,_,rfl,JT vm.pk hn,f _ H1 q1 x1 s1 (wt.ofS fK)⟩⟩
noncomputable def xb (i j:Int):Bool:=decide (-1000000<=i)&&decide (i<=1000000)&&decide (-1000000<=j)&&decide (j<=1000000)
noncomputable def Au (g:Ev->R (List U×Ev)):Ev->R (U×Ev):=λρ=>(g ρ).bind λx=>match x.1 with
 | [.int j]=>if xb 0 j=true then .ok (.lst (aE 0 (j-0).toNat),x.2) else .stk
 |_=>.stk
noncomputable def qx (g:Ev->R (List U×Ev)):Ev->R (U×Ev):=λρ=>(g ρ).bind λx=>match x.1 with
 | [.int j]=>if xb 0 j=true then .ok (.tup (aE 0 (j-0).toNat),x.2) else .stk
 |_=>.stk
theorem tW (lo:Int)(n:Nat):aA K H A (aE lo n) ((Xf n).map λi=>V.int (lo+(i:Nat))):=by
 unfold aE;have e1:(Xf n).map (λi=>U.int (lo+(i:Nat)))=((Xf n).map λi=>lo+(i:Nat)).map U.int:=by rw[WG];rfl
 have e2:(Xf n).map (λi=>V.int (lo+(i:Nat)))=((Xf n).map λi=>lo+(i:Nat)).map V.int:=by rw[WG];rfl
 rw[e1,e2];exact lG _
theorem aY (lo:Int)(n:Nat):(aE lo n).length=n:=by unfold aE;rw[V6,Xy]
variable {ga:Ev->R (List U×Ev)}{a:X4}{p3 p4:Pos}
theorem Av (hc:X.calm=true)(ha:DA X G [a] b1 false ga)(zl:X.mg "list"=none)(zr:X.mg "range"=none)(hg:Gl X "list":=by rfl)(Te:Gl X "range":=by rfl)
  (hs:Wm [.Call (.Name "range" p3) [a] [] p4] X.env=(false,YX (.Call (.Name "range" p3) [a] [] p4) X.env)::Wm [] X.env:=by rfl) (bK:Wm [a] X.env=(false,YX a X.env)::Wm [] X.env:=by rfl)
  (j_:(Yp pos (Wm [] X.env)).any (·.1)=false:=by rfl) (z0:(Yp p4 (Wm [] X.env)).any (·.1)=false:=by rfl):DE X G (.Call (.Name "list" p1) [.Call (.Name "range" p3) [a] [] p4] [] pos) b1 .O (Au ga):=⟨(ij (sM hc) hg zl iJ (aO (ij nX Te zr wI ha.un (by decide) (by decide) bK z0) cT hs) (by decide) (by decide) hs j_).to λσ H Q h=>by
 obtain⟨Z,A,ρ,q,f⟩:=h;obtain⟨⟨us,ρ1⟩,e1,f⟩:=f.bind;refine⟨Z,A,ρ,q,?_⟩;rw[e1];intro vs H1 q1 x1 s1 vm;dsimp only at f;split at f
 ·rename_i j;split at f
  ·rename_i hj;have r:=vm.rps;unfold aA at r;obtain⟨v,vr,rfl,r1,r2⟩:=r;unfold aA at r2;subst r2;unfold Rp at r1;subst r1;unfold xb at hj;simp only[Wt,decide_eq_true_eq] at hj;refine⟨j,rfl,λp hp=>⟨p,0,j,rfl,aH,(by lia),(by lia),λl hl=>?_⟩⟩;have sp:=bD hp (.rng 0 j);have sl:=bD hl (.lst ((Xf (j-0).toNat).map λi=>V.int (0+(i:Nat))));exact f _ _ ((q1.same sp).same sl) (x1.trans (dI.same (sp.trans sl))) (oU s1 (sp.trans sl)) (B6.e (q1.same sp) sl ⟨l,rfl,hl,bI (q1.same sp).mu (tW 0 _) hl (by rw[aY];have:Wa=16777216:=rfl;lia)⟩)
  ·exact f.elim
 ·exact f.elim⟩
theorem pE (hc:X.calm=true)(ha:DA X G [a] b1 false ga)(zl:X.mg "tuple"=none)(zr:X.mg "range"=none)(hg:Gl X "tuple":=by rfl)(Te:Gl X "range":=by rfl)
  (hs:Wm [.Call (.Name "range" p3) [a] [] p4] X.env=(false,YX (.Call (.Name "range" p3) [a] [] p4) X.env)::Wm [] X.env:=by rfl) (bK:Wm [a] X.env=(false,YX a X.env)::Wm [] X.env:=by rfl)
  (j_:(Yp pos (Wm [] X.env)).any (·.1)=false:=by rfl) (z0:(Yp p4 (Wm [] X.env)).any (·.1)=false:=by rfl):DE X G (.Call (.Name "tuple" p1) [.Call (.Name "range" p3) [a] [] p4] [] pos) b1 .S (qx ga):=⟨(ij (qd hc) hg zl cY (aO (ij nX Te zr wI ha.un (by decide) (by decide) bK z0) cT hs) (by decide) (by decide) hs j_).to λσ H Q h=>by
 obtain⟨Z,A,ρ,q,f⟩:=h;obtain⟨⟨us,ρ1⟩,e1,f⟩:=f.bind;refine⟨Z,A,ρ,q,?_⟩;rw[e1];intro vs H1 q1 x1 s1 vm;dsimp only at f;split at f
 ·rename_i j;split at f
  ·rename_i hj;have r:=vm.rps;unfold aA at r;obtain⟨v,vr,rfl,r1,r2⟩:=r;unfold aA at r2;subst r2;unfold Rp at r1;subst r1;unfold xb at hj;simp only[Wt,decide_eq_true_eq] at hj;refine⟨j,rfl,λp hp=>⟨p,0,j,rfl,aH,(by lia),(by lia),λl hl=>?_⟩⟩;have sp:=bD hp (.rng 0 j);have sl:=bD hl (.tup ((Xf (j-0).toNat).map λi=>V.int (0+(i:Nat))));exact f _ _ ((q1.same sp).same sl) (x1.trans (dI.same (sp.trans sl))) (oU s1 (sp.trans sl)) (wt.ofS (mX (tW 0 _) hl (by rw[aY];have:Wa=16777216:=rfl;lia)))
  ·exact f.elim
 ·exact f.elim⟩
noncomputable def lJ:U->List U->R (U×U):=λu us=>match u,us with
 | .lst xs,[y]=>if xs.length<Wa then .ok (.non,.lst (xs++[y])) else .stk
 |_,_=>.stk
theorem g6 {a:Ww}(o:HO):∀b u,b≠a->H b=some u->bL H a o b=some u:=λb u nb z=>by rw[aF nb];exact z
theorem lK {a:Ww}(mu:∀a,A a->Mu (H a))(ha:A a)(r:aA K H A us xs)(l:us.length<=Wa):jq K (bL H a (.lst xs)) A (.lst us) a:=
 ⟨xs,aH,l,r.re mu (λb o nb z=>g6 _ b o (λy=>nb (y▸ha)) z) λb z=>.inl z⟩
theorem kC:wO K "list" Ah lJ:=λA H a u vs us z w Q t ha r mu e q=>by
 unfold lJ at e;split at e
 ·rename_i xs y;split at e
  ·rename_i hl;cases e;obtain⟨ys,h1,l1,r1⟩:=t;unfold aA at r;obtain⟨v,vr,rfl,p,r2⟩:=r;unfold aA at r2;subst r2;exact⟨a,ys,v,rfl,rfl,h1,by rw[←r1.length];exact hl,q _ _ (g6 _) (lK mu ha (r1.append (aA.cons p aA.nil)) (by rw[V9];exact hl)) mW⟩
  ·cases e
 ·cases e
def xc:V->List V->Hp->VK->Prop:=λx vs H Q=>∃l b xs zs,x=.ref l/\vs=[.ref b]/\H l=some (.lst xs)/\H b=some (.lst zs)/\xs.length+zs.length<=Wa/\Q .non (bL H l (.lst (xs++zs)))
theorem yZ:C_ X "list.extend" xc:=by
 intro pins s σ H x vs v us Q I rx rv h;obtain⟨l,b,xs,zs,rfl,rfl,hH,hB,hz,q⟩:=h;cases rx;obtain⟨u,rfl,ru⟩:=rv.one;cases ru;obtain⟨z,ao,n,r,hl,e⟩:=I.lstM hH;obtain⟨z2,its2,n2,r2,GO,e2⟩:=I.lstM hB;have hsz:ao.toArray.size+its2.toArray.size<=Wa:=by rw[Wb,Wb];lia
 have yn:¬(!ao.toArray.isEmpty&&Yr (ao.toArray.size+its2.toArray.size))=true:=by
  rw[p0 hsz,aay];exact V5
 refine Y_ abr ⟨_,e,rfl⟩ aa3 (aaP _ _)
  (PySem.AutoSeq1.list_extend_list_list_0 l ao.toArray n b its2.toArray n2 yn (by rw[Wb];lia) (by lia)) ⟨e,e2,?_⟩
 refine⟨.non,_,I.lset (its':=ao++its2) hH e (by simp) (r.append r2) ?_,rfl,q⟩;rw[V9];lia
def JU:V->List V->Hp->VK->Prop:=λx vs H Q=>xc x vs H Q\/wJ x vs H Q
theorem Ie:C_ X "list.extend" JU:=yZ.or yM
noncomputable def iQ:U->List U->R (U×U):=λu us=>match u,us with
 | .lst xs,[.lst ys]=>if xs.length+ys.length<=Wa then .ok (.non,.lst (xs++ys)) else .stk
 | .lst xs,[.tup ys]=>if xs.length+ys.length<=Wa then .ok (.non,.lst (xs++ys)) else .stk
 |_,_=>.stk
theorem y3:wO K "list" JU iQ:=λA H a u vs us z w Q t ha r mu e q=>by
 unfold iQ at e;split at e
 ·rename_i xs ys;split at e
  ·rename_i hl;cases e;obtain⟨zs,h1,l1,r1⟩:=t;unfold aA at r;obtain⟨v,vr,rfl,p,r2⟩:=r;unfold aA at r2;subst r2;unfold Rp at p;obtain⟨b,ws,rfl,nb,h2,l2,r3⟩:=p;exact .inl ⟨a,b,zs,ws,rfl,rfl,h1,h2,by rw[←r1.length,←r3.length];exact hl,q _ _ (g6 _) (lK mu ha (r1.append r3) (by rw[V9];exact hl)) mW⟩
  ·cases e
 ·rename_i xs ys;split at e
  ·rename_i hl;cases e;obtain⟨zs,h1,l1,r1⟩:=t;unfold aA at r;obtain⟨v,vr,rfl,p,r2⟩:=r;unfold aA at r2;subst r2;unfold Rp at p;obtain⟨b,ws,rfl,h2,l2,r3⟩:=p;exact .inr ⟨a,b,zs,ws,rfl,rfl,h1,h2,by rw[←r1.length,←r3.length];exact hl,q _ _ (g6 _) (lK mu ha (r1.append r3) (by rw[V9];exact hl)) mW⟩
  ·cases e
 ·cases e
noncomputable def nh:U->List U->R (U×U):=λu us=>match u,us with
 | .lst xs,[.int i]=>if -9223372036854775808<=i/\i<9223372036854775808 then (match abN i xs.length with
  |some k=>match xs[k]? with
   |some y=>.ok (y,.lst (xs.eraseIdx k))
   |none=>.stk
  |none=>.stk) else .stk
 |_,_=>.stk
theorem aA.erase {H:Hp}{A:Ww->Prop}:∀{us:List U} {vs:List V} (n:Nat),aA K H A us vs->aA K H A (us.eraseIdx n) (vs.eraseIdx n)
 | [],vs,n,h=>by unfold aA at h;subst h;exact aA.nil
 |u::us,vs,0,h=>by
  unfold aA at h;obtain⟨x,r,rfl,p,q⟩:=h;exact q
 |u::us,vs,n+1,h=>by
  unfold aA at h;obtain⟨x,r,rfl,p,q⟩:=h;exact aA.cons p (aA.erase n q)
theorem Cf:wO K "list" DM nh:=λA H a u vs us z w Q t ha r mu e q=>by
 unfold nh at e;split at e
 ·rename_i xs i;split at e
  ·rename_i hi;split at e
   ·rename_i k hk;split at e
    ·rename_i y hy;cases e;obtain⟨zs,h1,l1,r1⟩:=t;unfold aA at r;obtain⟨v,vr,rfl,p,r2⟩:=r;unfold aA at r2;subst r2;unfold Rp at p;subst p;obtain⟨v,h2,h3⟩:=r1.get hy;exact⟨a,zs,i,k,v,rfl,rfl,h1,by have:=hi.1;lia,by have:=hi.2;lia,by rw[←r1.length];exact hk,h2,q _ _ (g6 _) (lK mu ha (r1.erase k) (WD (List.length_eraseIdx_le _ _) l1)) (h3.re mu (λb o nb z=>g6 _ b o (λy=>nb (y▸ha)) z) λb z=>.inl z)⟩
    ·cases e
   ·cases e
  ·cases e
 ·cases e
noncomputable def UC:U->List U->R (U×U):=λu us=>match u,us with
 | .lst xs,[]=>match xs[xs.length-1]? with
  |some y=>.ok (y,.lst xs.dropLast)
  |none=>.stk
 |_,_=>.stk
noncomputable def qy:U->List U->R (U×U):=λu us=>match u,us with
 | .lst _,[]=>.ok (.non,.lst [])
 |_,_=>.stk
theorem Cg:wO K "list" DQ qy:=λA H a u vs us z w Q t ha r mu e q=>by
 unfold qy at e;split at e
 ·rename_i xs;cases e;obtain⟨zs,h1,l1,r1⟩:=t;unfold aA at r;subst r;exact⟨a,zs,rfl,rfl,h1,q _ _ (g6 _) (lK mu ha aA.nil (Yi _)) mW⟩
 ·cases e
end
end L2
namespace L2
section
variable {m:Md}
theorem Mp:fg K (yB λi j=>.bl (decide (i<j))) .S Sa:=Ao
theorem Mq:fg K (yB λi j=>.bl (decide (i<=j))) .S QZ:=Ao
theorem nj:fg K (yB λi j=>.bl (decide (j<i))) .S G1:=Ao
theorem Mr:fg K (yB λi j=>.bl (decide (j<=i))) .S Sb:=Ao
theorem Aw {JF:List aaX}:tQ X G m JF (λ_=>.stk):=⟨λpins s σ H D I h=>by
 obtain⟨Z,A,ρ,q,f⟩:=h;exact f.elim⟩
noncomputable def Q0:Ev->R (U×Ev):=λρ=>.ok (.dct [] [],ρ)
theorem xf:DE X G (.Dict [] [] pos) false .O Q0:=⟨DY.to λσ H Q h=>by
 obtain⟨Z,A,ρ,q,f⟩:=h;intro a na;have sn:=bD na (.dK []);exact f _ _ (q.same sn) (dI.same sn) (λ_=>⟨rfl,sn⟩) (B6.e q sn ⟨a,rfl,na,[],.inl ⟨[],aH,rfl,rfl⟩,Yi _,aA.nil⟩)⟩
end
end L2
namespace L2
def G2 (H:Hp)(a:Ww)(y:V)(o:Option V):Prop:=BY H a y o\/∃es k b,gc H a es/\y=.ref b/\oS H k b/\o=ky es k
def Q1 (H:Hp)(a:Ww)(y v:V)(C:Hp->Prop):Prop:=(∃H',O8 H a y v H'/\C H')\/∃es k b,gc H a es/\y=.ref b/\oS H k b/\es.length<=Wa/\∀ep,C (bL H a (DN a ep (gd es k b v)))
def Ms (H:Hp)(a:Ww):Prop:=TF H a\/∃es,gc H a es
section
variable {d:V}{u r:Wd}{o:Option V}{A:W2}
theorem Er (I:av X pins σ H s)(g:G2 H a y o):s.TypeIs (.ref a) "dict":=by
 rcases g with g|⟨es,k,b,g,_⟩
 ·exact wC I g
 ·exact g.typeIs I
theorem Pm (I:av X pins σ H s)(d:Ms H a):s.TypeIs (.ref a) "dict"/\(∀b,Value.ref a=.ref b->∃ob,s.heap.get? b=some ob/\ob.dict=none):=by
 rcases d with d|⟨es,d⟩
 ·obtain⟨x,y,_⟩:=L3 I d;exact⟨x,y⟩
 ·exact⟨d.typeIs I,d.noDict I⟩
theorem Ci (hu:A.units+64<XG)(I:av X pins σ H s)(g:G2 H a y (some v))(ry:aM y u)(h:∀w' s',av X pins σ H s'->aM v w'->Q w' s') :
  Wv (WI X.prog X.w) A (aa1 (.ref a) u) Q E s:=by
 rcases g with g|⟨es,k,b,g,rfl,kb,e⟩
 ·exact BZ (by lia) I g ry h
 ·cases ry;exact B4 hu I g kb e.symm h
theorem Sg (hu:A.units+64<XG)(I:av X pins σ H s)(g:G2 H a y o)(ry:aM y u)(h:∀s',av X pins σ H s'->Q (.bool o.isSome) s') :
  Wv (WI X.prog X.w) A (XN .In u (.ref a)) Q E s:=by
 rcases g with g|⟨es,k,b,g,rfl,kb,e⟩
 ·exact RX (by lia) I g ry h
 ·cases ry;subst e;exact R1 hu I g kb h
theorem Ig (hu:A.units+64<XG)(I:av X pins σ H s)(g:G2 H a y o)(ry:aM y u)(h:∀s',av X pins σ H s'->Q (.bool (!o.isSome)) s') :
  Wv (WI X.prog X.w) A (XN .NotIn u (.ref a)) Q E s:=by
 rcases g with g|⟨es,k,b,g,rfl,kb,e⟩
 ·exact Hw (by lia) I g ry h
 ·cases ry;subst e;exact HC hu I g kb h
theorem Mt (hu:A.units+64<XG)(I:av X pins σ H s)(g:G2 H a y o)(ry:aM y u)(rd:aM d r)(h:∀w' s',av X pins σ H s'->aM (o.getD d) w'->Q w' s') :
  Wv (WI X.prog X.w) A (call (.builtin "dict.get") [.ref a,u,r]) Q E s:=by
 rcases g with g|⟨es,k,b,g,rfl,kb,e⟩
 ·exact L4 (by lia) I g ry rd h
 ·cases ry;subst e;exact L8 hu I g kb rd h
theorem Cj {C:Hp->Prop}{Q:Unit->Wr->Prop}(hu:A.units+64<XG)(I:av X pins σ H s)(g:Q1 H a y v C)(ry:aM y u)(rv:aM v r)(h:∀H' s',C H'->av X pins σ H' s'->Q () s') :
  Wv (WI X.prog X.w) A (setItem (.ref a) u r) Q E s:=by
 rcases g with⟨H',g,c⟩|⟨es,k,b,g,rfl,kb,hz,e⟩
 ·exact B0 (by lia) I g ry rv λs'=>h H' s' c
 ·cases ry;exact B5 hu I g kb hz rv λep s'=>h _ s' (e ep)
end
def Pn (td ty:TE):TE:=λσ H Q=>td σ H λx H1=>ty σ H1 λy H2=>∃a v,x=.ref a/\G2 H2 a y (some v)/\Q v H2
def Mv (f:Bool->Bool):R2:=λy x H Q=>∃a o,x=.ref a/\G2 H a y o/\Q (.bl (f o.isSome)) H
def Mw (td ty tx:TE):TE:=λσ H Q=>td σ H λx H1=>∃a,x=.ref a/\Ms H1 a/\ty σ H1 λy H2=>tx σ H2 λz H3=>∃o,G2 H3 a y o/\Q (o.getD z) H3
def Po (td ty tv:TE):TS:=λD σ H=>tv σ H λv H1=>td σ H1 λx H2=>ty σ H2 λy H3=>∃a,x=.ref a/\Q1 H3 a y v λH4=>D.nx σ H4
section
variable {o i e f value:X4}{je cR cpos:Pos}{td ty tv tx:TE}
theorem Ih (hu:X.A.units+64<XG)(ho:PE X o td)(hi:PE X i ty)(hs:LY i):PE X (.Subscript o i pos) (Pn td ty):=by
 intro pins s σ H Q I h;refine Hx PySem.F.slot_dict_getitem.lookup hs (cS (ho pins s σ H _ I h) λu s1 ⟨x,H1,I1,rx,q1⟩=>cS (hi pins s1 σ H1 _ I1 q1) λiv s2 ⟨y,H2,I2,ry,a,v,ex,g,q2⟩=>?_);subst ex;obtain rfl:u=Value.ref a:=rx;exact⟨Er I2 g,Ci hu I2 g ry λw' s3 I3 yp=>⟨v,H2,I3,yp,q2⟩⟩
theorem Mx (hu:X.A.units+64<XG):i9 X (XN .In) (Mv id):=by
 intro pins s σ H y x v u Q I ry rx h;obtain⟨a,o,rfl,g,q⟩:=h;cases rx;exact Sg hu I g ry λs' I'=>⟨.bl o.isSome,H,I',rfl,q⟩
theorem nk (hu:X.A.units+64<XG):i9 X (XN .NotIn) (Mv not):=by
 intro pins s σ H y x v u Q I ry rx h;obtain⟨a,o,rfl,g,q⟩:=h;cases rx;exact Ig hu I g ry λs' I'=>⟨.bl (!o.isSome),H,I',rfl,q⟩
theorem Es (hu:X.A.units+64<XG)(ho:PE X o td)(he:PE X e ty)(hf:PE X f tx)(m:M2 X o "get" cR e f cpos):PE X (.Call (.Attribute o "get" cR) [e,f] [] cpos) (Mw td ty tx):=by
 intro pins s σ H Q I h;refine wpAny_Call_method m.base m.few m.line PySem.F.plainAttrs_dict Zl PySem.F.type_dict_get (cS (ho pins s σ H _ I h) λu s1 ⟨x,H1,I1,rx,a,ex,d,q1⟩=>?_);subst ex;obtain rfl:u=Value.ref a:=rx;obtain⟨t1,t2⟩:=Pm I1 d;refine⟨t1,t2,?_⟩;rw[m.trees];refine Zb rfl (aaO (abo (cS (he pins s1 σ H1 _ I1 q1) λiv s2 ⟨y,H2,I2,ry,q2⟩=>
  abo (cS (hf pins s2 σ H2 _ I2 q2) λfv s3 ⟨z,H3,I3,rz,ov,g,q3⟩=>Calls.spliced_nil ?_))))
 exact Mt hu I3 g ry rz λw' s4 I4 yp=>⟨_,H3,I4,yp,q3⟩
theorem Ii (hu:X.A.units+64<XG)(ho:PE X o td)(hi:PE X i ty)(hv:PE X value tv)(hs:Z4 value (some (.Subscript o i je)) pos.line X.env=pure false) :
  PS X (.Assign [.Subscript o i je] value pos) (Po td ty tv):=by
 intro pins s σ H D I h;refine wpAny_Assign_Subscript (cS (hv pins s σ H _ I h) λr s1 ⟨v,H1,I1,rv,q1⟩=>cS (ho pins s1 σ H1 _ I1 q1) λu s2 ⟨x,H2,I2,rx,q2⟩=>cS (hi pins s2 σ H2 _ I2 q2) λiv s3 ⟨y,H3,I3,ry,a,ex,g⟩=>?_) hs;subst ex;obtain rfl:u=Value.ref a:=rx;exact Cj hu I3 g ry rv λH4 s4 q3 I4=>⟨σ,H4,I4,q3⟩
end
noncomputable def Et:U->Bool
 | .int _=>true
 | .str _=>true
 |_=>false
mutual
noncomputable def u_:U->Bool
 | .int _=>true
 | .tup us=>xg us
 |_=>false
noncomputable def xg:List U->Bool
 | []=>true
 |u::us=>u_ u&&xg us
end
noncomputable def xh:U->Bool
 | .tup us=>xg us&&decide (sN us<=6)
 |_=>false
noncomputable def Ij:U->Bool
 | .tup _=>true
 |_=>false
noncomputable def jb (ks:List U)(k:U):Bool:=(Et k&&ks.all Et)||(xh k&&ks.all Ij)
noncomputable def eN:List U->List U->U->Option U
 |k'::ks,u::us,k=>if k'=k then some u else eN ks us k
 |_,_,_=>none
noncomputable def ed (ks us:List U)(k v:U):List U:=if k∈ks then Zo (λk' u=>if k'=k then v else u) ks us else us++[v]
noncomputable def fM (ks:List U)(k:U):List U:=if k∈ks then ks else ks++[k]
mutual
theorem Pp:∀{u:U} {v:V},u_ u=true->Rp K H A u v->KH H u v
 | .int i,v,_,h=>by unfold Rp at h;unfold KH;exact h
 | .tup us,v,k,h=>by
  unfold u_ at k;unfold Rp at h;unfold KH;obtain⟨a,xs,r,q,l,z⟩:=h;exact⟨a,xs,r,q,l,y4 k z⟩
 | .non,v,k,h=>by unfold u_ at k;cases k
 | .bl _,v,k,h=>by unfold u_ at k;cases k
 | .str _,v,k,h=>by unfold u_ at k;cases k
 | .lst _,v,k,h=>by unfold u_ at k;cases k
 | .dct _ _,v,k,h=>by unfold u_ at k;cases k
 | .scr _,v,k,h=>by unfold u_ at k;cases k
theorem y4:∀{us:List U} {vs:List V},xg us=true->aA K H A us vs->qf H us vs
 | [],vs,_,h=>by unfold aA at h;unfold qf;exact h
 |u::us,vs,k,h=>by
  unfold xg at k;rw[Wt] at k;unfold aA at h;unfold qf;obtain⟨x,r,q,p,z⟩:=h;exact⟨x,r,q,Pp k.1 p,y4 k.2 z⟩
end
theorem tX (k:xh (.tup us)=true)(h:Rp K H A (.tup us) v):∃b,v=.ref b/\oS H us b:=by
 unfold xh at k;rw[Wt] at k;unfold Rp at h;obtain⟨a,xs,r,q,l,z⟩:=h;exact⟨a,r,of_decide_eq_true k.2,xs,q,l,y4 k.1 z⟩
theorem JV (k:Et u=true)(h:Rp K H A u v):∃q:Key,u=kU q/\v=kV q:=by
 cases u<;>first|(cases k;done)|skip
 ·unfold Rp at h;exact⟨.inl _,rfl,h⟩
 ·unfold Rp at h;exact⟨.inr _,rfl,h⟩
theorem y6 {a b:Key}(h:kU a=kU b):a=b:=by
 cases a<;>cases b<;>unfold kU at h<;>first|(cases h;rfl)|cases h
theorem y7 {k:Key}:∀{aN:List (Key×V)} {us:List U},aA K H A us (aN.map (·.2))->(∀u,eN (aN.map λp=>kU p.1) us (kU k)=some u->∃v,oR aN k=some v/\Rp K H A u v)/\(eN (aN.map λp=>kU p.1) us (kU k)=none->oR aN k=none)
 | [],us,r=>⟨(λu h=>by unfold eN at h;cases h),λ_=>rfl⟩
 |p::aN,us,r=>by
  cases us with
  |nil=>unfold aA at r;cases r
  |cons u us=>
   unfold aA at r;obtain⟨x,rr,e,h1,h2⟩:=r;cases e;rw[V_];unfold eN;by_cases c:p.1=k
   ·rw[hZ (by rw[c]),kW c];exact⟨λw h=>by cases h;exact⟨_,rfl,h1⟩,λh=>by cases h⟩
   ·rw[hV (λz=>c (y6 z)),kX c];exact y7 h2
theorem y8 {k:List U}:∀{es:List (List U×Ww×V)} {us:List U},aA K H A us (es.map (·.2.2))->(∀u,eN (es.map λp=>.tup p.1) us (.tup k)=some u->∃v,ky es k=some v/\Rp K H A u v)/\(eN (es.map λp=>.tup p.1) us (.tup k)=none->ky es k=none)
 | [],us,r=>⟨(λu h=>by unfold eN at h;cases h),λ_=>rfl⟩
 |p::es,us,r=>by
  cases us with
  |nil=>unfold aA at r;cases r
  |cons u us=>
   unfold aA at r;obtain⟨x,rr,e,h1,h2⟩:=r;cases e;rw[V_];unfold eN ky;rw[XU];by_cases c:p.1=k
   ·rw[hZ (by rw[c]),hG c];exact⟨λw h=>by cases h;exact⟨_,rfl,h1⟩,λh=>by cases h⟩
   ·rw[hV (λz=>c (k9.mp z)),hJ c];exact y8 h2
theorem y9 {k:U}(d:wq H a ks xs)(r:aA K H A us xs)(f:jb ks k=true)(hk:Rp K H A k y) :
  ∃o,G2 H a y o/\(∀u,eN ks us k=some u->∃v,o=some v/\Rp K H A u v)/\(eN ks us k=none->o=none):=by
 unfold jb at f;rw[Zn,Wt,Wt] at f;rcases d with⟨aN,h,e1,e2⟩|⟨es,n,h,e1,e2⟩
 ·rcases f with⟨f1,f2⟩|⟨f1,f2⟩
  ·obtain⟨q,rfl,rfl⟩:=JV f1 hk;subst e1 e2;exact⟨_,.inl (.inl ⟨aN,q,.inl h,rfl,rfl⟩),(y7 r).1,(y7 r).2⟩
  ·cases aN with
   |nil=>
    subst e1 e2;cases k<;>first|(cases f1;done)|skip
    rename_i kk;obtain⟨b,rfl,kt⟩:=tX f1 hk;exact⟨none,.inr ⟨[],kk,b,⟨.inr ⟨rfl,h⟩,YV,(λe he=>by cases he)⟩,rfl,kt,rfl⟩,(λu z=>by unfold eN at z;cases z),λ_=>rfl⟩
   |cons p aN=>
    exfalso;subst e1;rw[V_,Yj,Wt] at f2;obtain⟨p1,p2⟩:=p;cases p1<;>cases f2.1
 ·rcases f with⟨f1,f2⟩|⟨f1,f2⟩
  ·exfalso;subst e1;cases es with
   |nil=>exact n rfl
   |cons p es=>rw[V_,Yj,Wt] at f2;cases f2.1
  ·subst e1 e2;cases k<;>first|(cases f1;done)|skip
   rename_i kk;obtain⟨b,rfl,kt⟩:=tX f1 hk;exact⟨_,.inr ⟨es,kk,b,h,rfl,kt,rfl⟩,(y8 r).1,(y8 r).2⟩
end L2
namespace L2
theorem aA.snoc (h:aA K H A us vs)(p:Rp K H A u v):aA K H A (us++[u]) (vs++[v]):=h.append (aA.cons p aA.nil)
theorem Pq {k:Key}(aN:List (Key×V)):(aN.any λkv=>decide (kv.1=k))=decide (kU k∈aN.map λp=>kU p.1):=by
 rw[Xl,aaK,decide_eq_true_eq,WY];constructor
 ·rintro⟨p,h1,h2⟩;exact⟨p,h1,by rw[of_decide_eq_true h2]⟩
 ·rintro⟨p,h1,h2⟩;exact⟨p,h1,hG (y6 h2)⟩
theorem Ax {k:Key}(aN:List (Key×V))(v:V):kS aN k v=if (aN.any λkv=>decide (kv.1=k))=true then aN.map (λkv=>if kv.1=k then (kv.1,v) else kv) else aN++[(k,v)]:=by
 unfold kS;rfl
theorem Ck {k:Key}(aN:List (Key×V))(v:V):(kS aN k v).map (λp=>kU p.1)=fM (aN.map λp=>kU p.1) (kU k):=by
 rw[Ax,Pq];unfold fM;by_cases c:kU k∈aN.map λp=>kU p.1
 ·rw[hG c,hZ rfl,hZ c,WG];refine Xm λp _=>?_;show kU (if p.1=k then (p.1,v) else p).1=kU p.1;split<;>rfl
 ·rw[hJ c,hV V5,hV c,WH];rfl
theorem Cm {k:Key}(p:Rp K H A u v){aN:List (Key×V)}(r:aA K H A us (aN.map (·.2))):aA K H A (ed (aN.map λp=>kU p.1) us (kU k) u) ((kS aN k v).map (·.2)):=by
 rw[Ax,Pq];unfold ed;by_cases c:kU k∈aN.map λp=>kU p.1
 ·rw[hG c,hZ rfl,hZ c];clear c
  induction aN generalizing us with
  |nil=>
   rw[Ym] at r;unfold aA at r;cases us with
   |nil=>exact aA.nil
   |cons=>obtain⟨_,_,e,_⟩:=r;cases e
  |cons q aN ih=>
   cases us with
   |nil=>unfold aA at r;cases r
   |cons w us=>
    unfold aA at r;obtain⟨x,rr,e,h1,h2⟩:=r;cases e;rw[V_,V_,V_,Zc];refine aA.cons ?_ (ih h2);by_cases c:q.1=k
    ·rw[hZ (by rw[c]),hZ c];exact p
    ·rw[hV (λz=>c (y6 z)),hV c];exact h1
 ·rw[hJ c,hV V5,hV c,WH];exact r.snoc p
theorem lL {k:List U}:∀(es:List (List U×Ww×V)),(ky es k).isSome=decide (U.tup k∈es.map λp=>U.tup p.1)
 | []=>by simp[ky]
 |e::es=>by
  have ih:=lL (k:=k) es;unfold ky at ih ⊢;rw[XU,V_];by_cases c:e.1=k
  ·rw[hG c,hG (by rw[c];exact Wi)];rfl
  ·rw[hJ c];dsimp only;rw[ih,Xl,decide_eq_true_eq,decide_eq_true_eq,Wn];constructor
   ·exact .inr
   ·rintro (z|z)
    ·exact absurd (k9.mp z).symm c
    ·exact z
theorem tY {k:List U}(es:List (List U×Ww×V))(v:V):(gd es k b v).map (λp=>U.tup p.1)=fM (es.map λp=>.tup p.1) (.tup k):=by
 unfold gd fM;rw[lL];by_cases c:U.tup k∈es.map λp=>U.tup p.1
 ·rw[hG c,hZ rfl,hZ c,WG];refine Xm λp _=>?_;show U.tup (if p.1=k then (p.1,p.2.1,v) else p).1=.tup p.1;split<;>rfl
 ·rw[hJ c,hV V5,hV c,WH];rfl
theorem tZ {k:List U}(p:Rp K H A u v)(r:aA K H A us (es.map (·.2.2))):aA K H A (ed (es.map λp=>.tup p.1) us (.tup k) u) ((gd es k b v).map (·.2.2)):=by
 unfold gd ed;rw[lL];by_cases c:U.tup k∈es.map λp=>U.tup p.1
 ·rw[hG c,hZ rfl,hZ c];clear c
  induction es generalizing us with
  |nil=>
   rw[Ym] at r;unfold aA at r;cases us with
   |nil=>exact aA.nil
   |cons=>obtain⟨_,_,e,_⟩:=r;cases e
  |cons q es ih=>
   cases us with
   |nil=>unfold aA at r;cases r
   |cons w us=>
    unfold aA at r;obtain⟨x,rr,e,h1,h2⟩:=r;cases e;rw[V_,V_,V_,Zc];refine aA.cons ?_ (ih h2);by_cases c:q.1=k
    ·rw[hZ (by rw[c]),hZ c];exact p
    ·rw[hV (λz=>c (k9.mp z)),hV c];exact h1
 ·rw[hJ c,hV V5,hV c,WH];exact r.snoc p
theorem Ay {k:List U}(h:(es.map (·.1)).Nodup):((gd es k b v).map (·.1)).Nodup:=by
 unfold gd;split
 ·rw[WG];have:es.map ((λx=>x.1)∘λe=>if e.1=k then (e.1,e.2.1,v) else e)=es.map (·.1):=Xm λe _=>by
   show (if e.1=k then (e.1,e.2.1,v) else e).1=e.1;split<;>rfl
  rw[this];exact h
 ·rename_i c;rw[WH,V_,Ym];refine aas.mpr ⟨h,by simp,?_⟩;intro x hx y hy e;rw[WK.mp hy] at e;subst e;rw[lL] at c;apply c;rw[decide_eq_true_eq];obtain⟨e,he,rfl⟩:=WY.mp hx;exact WY.mpr ⟨e,he,rfl⟩
theorem xi {k:List U}(h:∀e∈es,oS H e.1 e.2.1)(kb:oS H k b):∀e∈gd es k b v,oS H e.1 e.2.1:=by
 unfold gd;split
 ·intro e he;obtain⟨e',h1,rfl⟩:=WY.mp he;split
  ·exact h e' h1
  ·exact h e' h1
 ·intro e he;rcases WE.mp he with z|z
  ·exact h e z
  ·rw[WK.mp z];exact kb
theorem Az {k:List U}:gd es k b v≠[]:=by
 unfold gd;split
 ·rename_i c;intro z;cases es with
  |nil=>cases c
  |cons e es=>cases z
 ·simp
theorem Eu {k v:U}(h:ks.length=us.length):(ed ks us k v).length<=us.length+1:=by
 unfold ed;split
 ·rw[Y7];lia
 ·rw[V9,Xu];exact Wf _
theorem wq.len (d:wq H a ks xs)(r:aA K H A us xs):ks.length=us.length:=by
 rcases d with⟨aN,_,rfl,rfl⟩|⟨es,_,_,rfl,rfl⟩
 ·rw[r.length,V6,V6]
 ·rw[r.length,V6,V6]
theorem My {k w:U}(mu:∀a,A a->Mu (H a))(ha:A a)(d:wq H a ks xs)(r:aA K H A us xs)(f:jb ks k=true)(hk:Rp K H A k y)(hw:Rp K H A w v)(hl:us.length<Wa){C:Hp->Prop}(hC:∀H',(∀b o,b≠a->H b=some o->H' b=some o)->jq K H' A (.dct (fM ks k) (ed ks us k w)) a->C H'):Q1 H a y v C:=by
 have ln:=d.len r;have l2:(ed ks us k w).length<=Wa:=WD (Eu ln) hl;have nt:∀b ys,H b=some (.tup ys)->b≠a:=λb ys h e=>by
  subst e;have:=mu b ha;rw[h] at this;exact this
 have fin:∀(o:HO) (zs:List V),wq (bL H a o) a (fM ks k) zs->aA K H A (ed ks us k w) zs->jq K (bL H a o) A (.dct (fM ks k) (ed ks us k w)) a:=λo zs d' r'=>
  ⟨zs,d',l2,r'.re mu (λb o' nb z=>g6 _ b o' (λy=>nb (y▸ha)) z) λb z=>.inl z⟩
 have QL:∀(es:List (List U×Ww×V)) (kk:List U) (b:Ww),gc H a es->oS H kk b->k=.tup kk->y=.ref b->ks=es.map (λp=>.tup p.1)->xs=es.map (·.2.2)->Q1 H a y v C:=by
  rintro es kk b h kt rfl rfl rfl rfl;have le:es.length=us.length:=by rw[r.length,V6]
  refine .inr ⟨es,kk,b,h,rfl,kt,(by lia),λep=>hC _ (g6 _) (fin _ _ (.inr ⟨gd es kk b v,Az,?_,(tY es v).symm,rfl⟩) (tZ hw r))⟩;have tp:∀c ys,H c=some (.tup ys)->bL H a (DN a ep (gd es kk b v)) c=some (.tup ys):=λc ys hc=>by rw[aF (nt c ys hc)];exact hc
  exact⟨.inl ⟨ep,aH⟩,Ay h.nd,λe he=>(xi h.key kt e he).to tp⟩
 unfold jb at f;rw[Zn,Wt,Wt] at f;rcases d with⟨aN,h,e1,e2⟩|⟨es,n,h,e1,e2⟩
 ·rcases f with⟨f1,f2⟩|⟨f1,f2⟩
  ·obtain⟨q,rfl,rfl⟩:=JV f1 hk;subst e1 e2;have lk:aN.length=us.length:=by rw[r.length,V6]
   exact .inl ⟨_,.inl ⟨aN,q,h,rfl,(by lia),rfl⟩,hC _ (g6 _) (fin _ _ (.inl ⟨_,aH,(Ck aN v).symm,rfl⟩) (Cm hw r))⟩
  ·cases aN with
   |nil=>
    subst e1 e2;cases k<;>first|(cases f1;done)|skip
    rename_i kk;obtain⟨b,rfl,kt⟩:=tX f1 hk;exact QL [] kk b ⟨.inr ⟨rfl,h⟩,YV,(λe he=>by cases he)⟩ kt rfl rfl rfl rfl
   |cons p aN=>
    exfalso;subst e1;rw[V_,Yj,Wt] at f2;obtain⟨p1,p2⟩:=p;cases p1<;>cases f2.1
 ·rcases f with⟨f1,f2⟩|⟨f1,f2⟩
  ·exfalso;subst e1;cases es with
   |nil=>exact n rfl
   |cons p es=>rw[V_,Yj,Wt] at f2;cases f2.1
  ·cases k<;>first|(cases f1;done)|skip
   rename_i kk;obtain⟨b,rfl,kt⟩:=tX f1 hk;exact QL es kk b h kt rfl rfl e1 e2
section
variable {o i e f value:X4}{je cR cpos p1:Pos}{b1 b2 b3:Bool}{m m1 m2 m3:Md}{g1 g2 g3:Ev->R (U×Ev)}{y:Str}
noncomputable def oW:U->U->R U:=λu w=>match u with
 | .dct ks us=>if jb ks w=true then (match eN ks us w with
  |some z=>.ok z
  |none=>.stk) else .stk
 |_=>.stk
theorem JW (h:Pk K H A u v)(c:Et u=true\/Ij u=true):Rp K H A u v:=by
 cases u<;>first|(exfalso;rcases c with c|c<;>cases c;done)|(unfold Pk at h;unfold Rp;exact h)
theorem AA {k:U}(f:jb ks k=true):Et k=true\/Ij k=true:=by
 unfold jb at f;rw[Zn,Wt,Wt] at f;rcases f with⟨f,_⟩|⟨f,_⟩
 ·exact .inl f
 ·cases k<;>first|(cases f;done)|exact .inr rfl
theorem y_ (hu:X.A.units+64<XG)(ha:DE X G o b1 m1 g1)(hb:DE X G i b2 m2 g2)(hs:LY i:=by intro _ _;rfl)(hm:m1=.P->b2=false:=by first|exact λ_=>rfl|exact λh=>nomatch h):DE X G (.Subscript o i pos) (b1||b2) .S (aW oW g1 g2):=⟨(Ih hu ha.un hb.un hs).to λσ H Q h=>by
 have hp:fg X.K (λx y H Q=>∃a v,x=.ref a/\G2 H a y (some v)/\Q v H) .S oW:=λA H x y u w z Q hx hy mu e q=>by
  unfold oW at e;split at e;rotate_left
  ·cases e
  split at e
  ·rename_i fk;split at e
   ·rename_i z' hz;cases e;unfold Pk at hx;obtain⟨a,xs,rfl,d,l,r⟩:=hx;obtain⟨ov,g,q1,_⟩:=y9 d r fk (JW hy (AA fk));obtain⟨v,rfl,rp⟩:=q1 _ hz;exact⟨a,v,rfl,g,q v H (aG.refl _) rp⟩
   ·cases e
  ·cases e
 exact k_ hp hm h⟩
noncomputable def xj (f:Bool->Bool):U->U->R U:=λk u=>match u with
 | .dct ks us=>if jb ks k=true then .ok (.bl (f (eN ks us k).isSome)) else .stk
 |_=>.stk
theorem pF {f:Bool->Bool}:fg K (Mv f) .S (xj f):=λA H y x k u z Q hy hx mu e q=>by
 unfold xj at e;split at e;rotate_left
 ·cases e
 rename_i ks us;split at e
 ·rename_i fk;cases e;unfold Pk at hx;obtain⟨a,xs,rfl,d,l,r⟩:=hx;obtain⟨ov,g,q1,q2⟩:=y9 d r fk (JW hy (AA fk));refine⟨a,ov,rfl,g,?_⟩;have:ov.isSome=(eN ks us k).isSome:=by
   cases hz:eN ks us k with
   |none=>rw[q2 hz];rfl
   |some w=>obtain⟨v,rfl,_⟩:=q1 _ hz;rfl
  rw[this];exact q _ H (aG.refl _) (show Rp K H A _ _ from fK)
 ·cases e
noncomputable def jx (i:Nat)(g2 g3:Ev->R (U×Ev)):Ev->R (U×Ev):=λρ=>match ρ[i]? with
 |some (some (.dct _ _))=>(g2 ρ).bind λk=>(g3 k.2).bind λx=>match x.2[i]? with
  |some (some (.dct ks us))=>if jb ks k.1=true then .ok ((eN ks us k.1).getD x.1,x.2) else .stk
  |_=>.stk
 |_=>.stk
theorem Ik {K:Wc}(d:wq H a ks xs):Ms H a:=by
 rcases d with⟨aN,h,_⟩|⟨es,_,h,_⟩
 ·exact .inl (.inl ⟨aN,.inl h⟩)
 ·exact .inr ⟨es,h⟩
theorem t6 (q:cb K G Z A ρ σ H)(h:ρ[j]? = some (some (.dct ks us))):∃a xs,σ[j]? = some (some (.ref a))/\wq H a ks xs/\us.length<=Wa/\aA K H A us xs:=by
 obtain⟨v,h1,h2⟩:=q.slot j _ h;by_cases c:G.is j=true
 ·rw[hZ c] at h2;obtain⟨a,rfl,_,_,_,t⟩:=h2;obtain⟨xs,d,l,r⟩:=t;exact⟨a,xs,h1,d,l,r⟩
 ·rw[hV c] at h2;unfold Rp at h2;obtain⟨a,xs,rfl,_,d,l,r⟩:=h2;exact⟨a,xs,h1,d,l,r⟩
theorem xk (hu:X.A.units+64<XG)(he:DE X G e b1 m1 g1)(hf:DE X G f b2 m2 g2)(n1:m1≠.P:=by decide)(n2:m2≠.P:=by decide)(hN:X.N[j]? = some y:=by rfl)(hv:yx X.env.scope y:=by first|exact Or.inl rfl|exact Or.inr (Or.inl rfl)|exact Or.inr (Or.inr rfl))(hd:(y==("__debug__":Str))=false:=by decide)(iF:(y==("__classdict__":Str))=false:=by decide)(M:M2 X (.Name y p1) "get" cR e f cpos:=by exact⟨rfl,rfl,rfl,rfl⟩):DE X G (.Call (.Attribute (.Name y p1) "get" cR) [e,f] [] cpos) (b1||b2) .S (jx j g1 g2):=⟨(Es hu (eJ hN hv hd iF) he.un hf.un M).to λσ H Q h=>by
 obtain⟨Z,A,ρ,q,f⟩:=h;unfold jx at f;split at f
 ·rename_i VZ V0 h0;obtain⟨a,xs0,s0,d0,_,_⟩:=t6 q h0;obtain⟨⟨k,ρ1⟩,e1,f⟩:=f.bind;obtain⟨⟨x,ρ2⟩,e2,f⟩:=f.bind;dsimp only at e2 f;split at f
  ·rename_i ks us h2;split at f
   ·rename_i fk;refine⟨.ref a,s0,a,rfl,Ik (K:=X.K) d0,Z,A,ρ,q,?_⟩;rw[e1];intro v1 H1 q1 x1 s1 sH;refine⟨Z,A,ρ1,q1,?_⟩;rw[e2];intro v2 H2 q2 x2 s2 zY;obtain⟨a',xs,s0',d,_,r⟩:=t6 q2 h2;rw[s0] at s0';cases s0';obtain⟨ov,g,z1,z2⟩:=y9 d r fk (sH.laterS q1 x2 n1);refine⟨ov,g,f _ H2 q2 (x1.trans x2) (two s1 s2) ?_⟩;cases hz:eN ks us k with
    |none=>rw[z2 hz];exact zY.rp n2
    |some w=>obtain⟨v,rfl,rp⟩:=z1 _ hz;exact rp
   ·exact f.elim
  ·exact f.elim
 ·exact f.elim⟩
noncomputable def iR (i:Nat)(gv gk:Ev->R (U×Ev)):Ev->SR:=λρ=>SR.of (gv ρ) λx=>if Ef x.2 i=true then SR.of (gk x.2) λy=>match y.2[i]? with
 |some (some (.dct ks us))=>if jb ks y.1=true/\us.length<Wa then .nx (y.2.set i (some (.dct (fM ks y.1) (ed ks us y.1 x.1)))) else .stk
 |_=>.stk
 else .stk
theorem lM (hu:X.A.units+64<XG)(hv:DE X G value b1 m1 g1)(hk:DE X G i b2 m2 g2)(n1:m1≠.P:=by decide)(n2:m2≠.P:=by decide)(hN:X.N[j]? = some y:=by rfl)(UX:yx X.env.scope y:=by first|exact Or.inl rfl|exact Or.inr (Or.inl rfl)|exact Or.inr (Or.inr rfl))(c:G.is j=true:=by rfl)(hd:(y==("__debug__":Str))=false:=by decide)(iF:(y==("__classdict__":Str))=false:=by decide)(hs:Z4 value (some (.Subscript (.Name y p1) i je)) pos.line X.env=pure false:=by rfl):DS X G m (.Assign [.Subscript (.Name y p1) i je] value pos) (iR j g1 g2):=⟨(Ii hu (eJ hN UX hd iF) hk.un hv.un hs).to λD σ H h00=>by
 obtain⟨Z,A,ρ,q,f⟩:=h00;obtain⟨⟨w,ρ1⟩,e1,f⟩:=f.of;refine⟨Z,A,ρ,q,?_⟩;rw[e1];intro v H1 q1 x1 s1 vm;dsimp only at f;split at f
 ·rename_i hl;obtain⟨u00,hu0⟩:=uX hl;obtain⟨a0,h0,_⟩:=q1.own c hu0;obtain⟨⟨k,ρ2⟩,e2,f⟩:=f.of;refine⟨.ref a0,h0,Z,A,ρ1,q1,?_⟩;rw[e2];intro v2 H2 q2 x2 s2 zY;dsimp only at f;split at f
  ·rename_i ks us Ou;split at f
   ·rename_i fk;obtain⟨a0',k1,k2,_,_,k5⟩:=q2.own c Ou;rw[h0] at k1;cases k1;obtain⟨xs,d,_,r⟩:=k5;exact⟨a0,rfl,My q2.mu k2 d r fk.1 (zY.rp n2) ((vm.rp n1).re q1.mu x2 λb z=>.inl z) fk.2 λH' em t=>f A σ H' (q2.put c Ou h0 em t)⟩
   ·exact f.elim
  ·exact f.elim
 ·exact f.elim⟩
end
end L2
namespace L2
noncomputable def Pr (ns:List Int):List Int:=ns.foldl step_dedup []
section
variable {e:X4}{zW p1:Pos}{b1:Bool}{ga:Ev->R (List U×Ev)}
noncomputable def Q2:List U->R U:=λus=>match us with
 | [.tup xs]=>match fL xs with
  |some ns=>if ns.length<64 then .ok (.int (Pr ns).length) else .stk
  |none=>.stk
 |_=>.stk
end
theorem nq:fillsNumberSlot (.type "tuple") "mul"=pure false:=
 PySem.fillsNumberSlot_seq (id:="tuple.__mul__") (r:=some (.builtin "tuple.__rmul__")) PySem.F.slot_tuple_mul.lookup (by decide+kernel) PySem.F.slot_tuple_rmul.lookup (by decide+kernel)
theorem va:seqRepeat? (.type "tuple")=pure (some (.builtin "tuple.__mul__")):=by
 unfold seqRepeat?;rw[PySem.seqSlot_of (T:="tuple") (name:="__mul__") (id:="tuple.__mul__") PySem.F.slot_tuple_mul.lookup (by decide+kernel),PySem.seqSlot_of (T:="tuple") (name:="__rmul__") (id:="tuple.__rmul__") PySem.F.slot_tuple_rmul.lookup (by decide+kernel)];rfl
theorem za (a:Int)(t:Tok)(l:Ww)(ao:Array Wd)(n:Nat) :
  Meets (Builtin.«int.__rmul__» ⟨[.int a t,.ref l],[]⟩) (λ_ R s=>s.heap.get? l=some {cls:=.type "tuple",data:=.seq ao n}/\R (.ok (.ret Value.notImplemented)) s):=
 .of_wp λprog w A R s h=>by
  obtain⟨hp,g,d,tk,os⟩:=s;obtain⟨hl,h⟩:=h;wp_walk;exact⟨_,rfl,h⟩
theorem Co (l:Ww)(ao:Array Wd)(n:Nat)(x:Int)(u:Tok)(h2:2<=x)(h3:x<2 ^ 63)(h0:ao.isEmpty=false)(hs:ao.size*x.toNat<=100000) :
  Meets (Builtin.«tuple.__mul__» ⟨[.ref l,.int x u],[]⟩) (λ_ R s=>s.heap.get? l=some {cls:=.type "tuple",data:=.seq ao n}/\R (.ok (.ret (Value.ref s.heap.objs.size))) {s with heap:=s.heap.push {cls:=Value.type "tuple",data:=Data.seq (List.foldl (λa b=>a++b) (List.toArray []) (WO x.toNat ao))},toks:=s.toks}):=
 .of_wp λprog w A R s h=>by
  obtain⟨hp,g,d,tk,os⟩:=s;obtain⟨hl,h⟩:=h;have c1:¬((decide (x < -(2 ^ 63))||decide (x≥2 ^ 63))=true):=by simp;lia
  have c2:¬((ao.isEmpty||x==1)=true):=by rw[h0];simp;lia
  have c3:¬((decide (x<=0)||ao.isEmpty)=true):=by rw[h0];simp;lia
  have e:(ao.size:Int)*x=((ao.size*x.toNat:Nat):Int):=by rw[Int.natCast_mul];congr 1;lia
  have c4:¬((ao.size:Int)*x>(2 ^ 63-1) / 8):=by rw[e];lia
  have c5:¬(abe ((ao.size:Int)*x)=true):=by unfold abe;rw[e];have:Wa=16777216:=rfl;rw[decide_eq_true_eq];lia
  have UY:(List.foldl (λa b=>a++b) (List.toArray []) (WO x.toNat ao)).size<=Wa:=by
   rw[listMul_foldl];have:Wa=16777216:=rfl;simp;rw[Nat.mul_comm];lia
  wp_walk;rw[hV c1];dsimp only;refine V3 (wpAny_tupleItemsOf hl rfl ?_);rw[hV c2,hV c3,hV c4,hV c5];unfold XC;exact V3 (WR (V8 ⟨_,rfl,h⟩) UY)
def JX:R2:=λx y H Q=>∃(p:Ww) (xs:List V) (n:Int),x=.ref p/\y=.int n/\H p=some (.tup xs)/\2<=n/\xs≠[]/\xs.length*n.toNat<=100000/\∀l,H l=none->Q (.ref l) (bL H l (.tup (WO n.toNat xs).flatten))
theorem xl {xs:List V}{us:List Wd}(r:aP xs us):∀n:Nat,aP (WO n xs).flatten (WO n us).flatten
 |0=>.nil
 |n+1=>by
  rw[YC,YC,W4,W4];exact r.append (xl r n)
theorem AB {α:Type}(xs:List α)(n:Nat):(WO n xs).flatten.length=xs.length*n:=by
 simp[Nat.mul_comm]
theorem Il:i9 X (Zf .Mult) JX:=by
 intro pins s σ H x y v u Q I rx ry h;obtain⟨p,xs,n,rfl,rfl,hp,h2,GP,hs,q⟩:=h;obtain rfl:v=Value.ref p:=rx;obtain⟨tk,rfl⟩:∃t,u=.int n t:=ry;obtain⟨hz,ao,rv,_,n0,ho⟩:xs.length<=Wa/\∃ao:List Wd,aP xs ao/\IsTup s.heap p ao.toArray/\∃n,s.heap.get? p=some {cls:=.type "tuple",data:=.seq ao.toArray n}:=I.hok p _ hp;have hl:xs.length=ao.length:=rv.length;have h1:1<=xs.length:=by cases xs with
  |nil=>exact absurd rfl GP
  |cons=>simp
 have hn:n.toNat<=100000:=WD (Nat.le_mul_of_pos_left _ h1) hs;have he:ao.toArray.isEmpty=false:=by cases ao with
  |nil=>rw[hl] at h1;simp at h1
  |cons=>simp
 refine wpAny_binaryOp_repeat_ref (T:="tuple") (U:="int") (by decide) ⟨_,ho,rfl⟩ (λs'=>typeIs_int s' n tk) nq PySem.F.fills_int_mul PySem.F.slot_int_rmul va PySem.F.slot_int_index.lookup
  (Y_ PySem.F.slot_int_rmul (typeIs_int s n tk) PySem.F.entry_int_rmul (PySem.F.args_int_rmul_2 _ _) (za n tk p ao.toArray n0)
   ⟨ho,rfl,⟨_,ho,rfl⟩,Y_ PySem.F.slot_tuple_mul ⟨_,ho,rfl⟩ PySem.F.entry_tuple_mul (PySem.F.args_tuple_mul_2 _ _)
    (Co p ao.toArray n0 n tk h2 (by lia) he (by rw[Wb,←hl];exact hs)) ⟨ho,?_⟩⟩)
 rw[listMul_foldl];have el:((List.toArray []):Array Wd).toList=[]:=rfl;simp only[el,X7];have z2:(WO n.toNat xs).flatten.length<=Wa:=by rw[AB];have:Wa=16777216:=rfl;lia
 exact⟨.ref s.heap.objs.size,_,I.laid (a:=s.heap.objs.size) (o:=.tup (WO n.toNat xs).flatten) (t':=s.toks) (λ_ _ e=>V7 _ e) (Wf _) ⟨z2,_,xl rv n.toNat,⟨_,Wj _ rfl,rfl,_,rfl⟩,_,Wj _ rfl⟩,rfl,q _ (I.hok.fresh (Wf _))⟩
noncomputable def qz:U->U->R U:=λu w=>match u,w with
 | .tup us,.int n=>if 2<=n/\us.length*n.toNat<=100000/\us≠[] then .ok (.tup (WO n.toNat us).flatten) else .stk
 |_,_=>.stk
theorem AD {H:Hp}{A:Ww->Prop}{us:List U}{xs:List V}(r:aA K H A us xs):∀n:Nat,aA K H A (WO n us).flatten (WO n xs).flatten
 |0=>aA.nil
 |n+1=>by
  rw[YC,YC,W4,W4];exact r.append (AD r n)
theorem Ew:fg K JX .S qz:=λA H x y u w z Q hx hy mu e q=>by
 unfold qz at e;split at e
 ·rename_i us n;split at e
  ·rename_i c;cases e;unfold Pk at hx hy;obtain⟨a,xs,rfl,h1,l1,r1⟩:=hx;subst hy;have hl:=r1.length;refine⟨a,xs,n,rfl,rfl,h1,c.1,λz=>c.2.2 (WM (by rw[hl,z];rfl)),by rw[←hl];exact c.2.1,λl hn=>?_⟩;refine q _ _ (bD hn _) (show Rp K _ A _ _ from ?_);unfold Rp;refine⟨l,_,rfl,aH,?_,(AD r1 _).same (bD hn _)⟩;rw[AB];have:Wa=16777216:=rfl;lia
  ·cases e
 ·cases e
@[irreducible] noncomputable def Mz (X:Cx)(G:Gm)(es:List X4)(b p:Bool)(g:Ev->R (List U×Ev)):Prop:=DA X G es b p g
section
variable {e:X4}{es:List X4}{b1 b2 p:Bool}{m1:Md}{g1:Ev->R (U×Ev)}{ga:Ev->R (List U×Ev)}
theorem VR (h:Mz X G es b1 p ga):DA X G es b1 p ga:=by unfold Mz at h;exact h
theorem Q3:Mz X G [] false p aq:=by unfold Mz;exact ai
theorem Pt (ha:DE X G e b1 m1 g1)(hr:Mz X G es b2 p ga)(hm:m1=.P->(p=true/\b2=false):=by first|exact λ_=>⟨rfl,rfl⟩|exact λh=>nomatch h)
  (hs:Wm (e::es) X.env=(false,YX e X.env)::Wm es X.env:=by rfl):Mz X G (e::es) (b1||b2) p (ae g1 ga):=by
 unfold Mz at hr ⊢;exact af ha hr hm hs
end
end L2
namespace Hc.Zp
def gS (l:Bool)(h:Y5)(a:Ww)(xs:Array Wd):Prop:=if l=true then h.IsList a xs else h.IsTuple a xs
def eO (l:Bool)(h:Y5)(it a:Ww)(i:Nat):Prop:=if l=true then h.IsListIter it a i else h.IsTupleIter it a i
noncomputable def Cp (l:Bool):String:=if l=true then "list_iterator" else "tuple_iterator"
theorem gS.at {l:Bool}{xs:Array Wd}(x:gS l h a xs)(e:∀o,h.get? a=some o->h'.get? a=some o):gS l h' a xs:=by
 cases l with
 |true=>exact Heap.IsList.at x e
 |false=>exact Heap.IsTuple.at x e
theorem eO.at {l:Bool}(x:eO l h it a i)(e:∀o,h.get? it=some o->h'.get? it=some o):eO l h' it a i:=by
 cases l with
 |true=>exact Heap.IsListIter.at x e
 |false=>exact Heap.IsTupleIter.at x e
theorem eO.obj {l:Bool}(x:eO l h it a i):∃o,h.get? it=some o/\o.data=.fields (List.toArray [.ref a,.int i 0])/\o.cls=.type (Cp l):=by
 cases l with
 |true=>obtain⟨o,e,c,d⟩:=x;exact⟨o,e,d,c⟩
 |false=>obtain⟨o,e,c,d⟩:=x;exact⟨o,e,d,c⟩
section
variable {w:Xt}{A:W2}
theorem zc {xs:Array Wd}{x:Wd}(hi:s.heap.IsTupleIter it a i)(ha:s.heap.IsTuple a xs)(hx:xs[i]? = some x)(q:∀h',h'.IsTupleIter it a (i+1)->ZV it s.heap h'->Q x {s with heap:=h'}):Wv (WI prog w) A (Xa (.ref it)) Q E s:=by
 obtain⟨o,ho,hc,hd⟩:=id hi;obtain⟨oa,hoa,_,na,hda⟩:=ha;unfold Xa;refine V3 (W_ (name:=XO "__next__") hi.typeIs YH (Xe YH hi.typeIs aa7 ?_ (aaT _)));show Wv _ _ (field (Value.ref it) 0 >>= _) _ _ s;refine V3 (X0 ho hd (x:=.ref a) rfl ?_);show Wv _ _ (if (Value.ref a==Value.none)=true then _ else _) _ _ s;rw[hV (show ¬((Value.ref a==Value.none)=true) from V5)];show Wv _ _ (field (Value.ref it) 1 >>= _) _ _ s;refine V3 (X0 ho hd (x:=.int i 0) rfl ?_);show Wv _ _ (seqItems? (Value.ref a) >>= _) _ _ s;refine V3 (Yk hoa hda ?_);simp only[Xs,hx];refine V3 (ZL ho hd (by simp) (V8 ⟨x,rfl,V8 (q _ ⟨_,Zk _ ho (aaD (YL hd _)),(abR ..).trans hc,?_⟩ (YD ..))⟩));rw[YL hd];simp[aag]
theorem Cq {xs:Array Wd}(hh:A.handled=none)(hi:s.heap.IsTupleIter it a i)(ha:s.heap.IsTuple a xs)(hx:xs[i]? = none)(q:∀h' e,Heap.ExtBut it s.heap h'->(∃o,h'.get? e=some o/\o.cls=.type "StopIteration")->E (.ref e) {s with heap:=h'}):Wv (WI prog w) A (Xa (.ref it)) Q E s:=by
 obtain⟨o,ho,hc,hd⟩:=id hi;obtain⟨oa,hoa,_,na,hda⟩:=ha;unfold Xa;refine V3 (W_ (name:=XO "__next__") hi.typeIs YH (Xe YH hi.typeIs aa7 ?_ (aaT _)));show Wv _ _ (field (Value.ref it) 0 >>= _) _ _ s;refine V3 (X0 ho hd (x:=.ref a) rfl ?_);show Wv _ _ (if (Value.ref a==Value.none)=true then _ else _) _ _ s;rw[hV (show ¬((Value.ref a==Value.none)=true) from V5)];show Wv _ _ (field (Value.ref it) 1 >>= _) _ _ s;refine V3 (X0 ho hd (x:=.int i 0) rfl ?_);show Wv _ _ (seqItems? (Value.ref a) >>= _) _ _ s;refine V3 (Yk hoa hda ?_);simp only[Xs,hx];refine V3 (YI (V3 (ZL ho hd (by simp) ?_)));show Wv _ _ (newExc (Value.type "StopIteration") [] >>= _) _ _ _;refine V3 ?_;simp only[newExc,newTuple];refine V3 (WR ?_ (by size_fits));refine V3 (m:=ZM _ _) (aa8 (a:=Value.none) (by first|rfl|(simp only[ZM];rfl)) ?_);refine WR ?_ (by size_fits);simp only[raiseNew];refine V3 (wpAny_handled ?_)
 first|rw[show A.in1.handled=none from hh]|rw[hh]
 exact V3 (V8 (wpAny_throw (q _ _ (((YD ..).extBut.push _).push _) ⟨_,Wj _ rfl,rfl⟩)))
theorem nu {l:Bool}{xs:Array Wd}{x:Wd}(hi:eO l s.heap it a i)(ha:gS l s.heap a xs)(hx:xs[i]? = some x)(q:∀h',eO l h' it a (i+1)->ZV it s.heap h'->Q x {s with heap:=h'}):Wv (WI prog w) A (Xa (.ref it)) Q E s:=by
 cases l with
 |true=>exact wpAny_nextOf_list_item hi ha hx q
 |false=>exact zc hi ha hx q
theorem xm {l:Bool}{xs:Array Wd}(hh:A.handled=none)(hi:eO l s.heap it a i)(ha:gS l s.heap a xs)(hx:xs[i]? = none)(q:∀h' e,Heap.ExtBut it s.heap h'->(∃o,h'.get? e=some o/\o.cls=.type "StopIteration")->E (.ref e) {s with heap:=h'}):Wv (WI prog w) A (Xa (.ref it)) Q E s:=by
 cases l with
 |true=>exact wpAny_nextOf_list_end hh hi ha hx q
 |false=>exact Cq hh hi ha hx q
theorem AE {l:Bool}{xs:Array Wd}(ha:gS l s.heap a xs)(q:Q (.ref s.heap.objs.size) {s with heap:=s.heap.push {cls:=.type (Cp l),data:=.fields (List.toArray [.ref a,.int 0 0])}}):Wv (WI prog w) A (pyIter (.ref a)) Q E s:=by
 cases l with
 |true=>exact aak ha q
 |false=>exact wpAny_pyIter_tuple ha q
theorem Cr {TI TO:Ww}{xs:Array Wd}{x y p:Wd}(D:ZipApart z TI TO i1 i2 a1 a2)(hz:IsZip s.heap z TI TO .none)(N1:ZE s.heap TI (.ref i1) (.ref i2))(N2:ZE s.heap TO p q)(h1:eO l1 s.heap i1 a1 k)(h2:eO l2 s.heap i2 a2 k)(g1:gS l1 s.heap a1 xs)(g2:gS l2 s.heap a2 ys)(hx:xs[k]? = some x)(hy:ys[k]? = some y)(hQ:∀h',IsZip h' z TI TO (aag s.heap.objs.size)->ZE h' TO x y->eO l1 h' i1 a1 (k+1)->eO l2 h' i2 a2 (k+1)->ZE h' s.heap.objs.size x y->(∀c o,c≠z->c≠TO->c≠i1->c≠i2->s.heap.get? c=some o->h'.get? c=some o)->Q (.ref s.heap.objs.size) {s with heap:=h'}) :
  Wv (WI prog w) A (Builtin.«zip.__next__» ⟨[.ref z],[]⟩) (λfin s'=>∃v,fin=.done (.ret v)/\Q v s') E s:=by
 show Wv _ _ (field (Value.ref z) 2 >>= _) _ _ _;refine V3 (X0 hz rfl (x:=.bool false) rfl ?_);show Wv _ _ (field (Value.ref z) 3 >>= _) _ _ _;refine V3 (X0 hz rfl (x:=.ref TI) rfl (V3 (Yk N1 rfl ?_)));show Wv _ _ (X1 (Value.ref z) >>= _) _ _ _;refine V3 ?_;unfold X1;refine V3 (X0 hz rfl (x:=.none) rfl (V8 ?_));simp only[if_true];refine V3 (YI (V3 (X0 hz rfl (x:=.ref TO) rfl (V3 (YM hz (by simp) λw1 z1 b1=>?_)))))
 replace z1:IsZip w1 z TI TO .ellipsis:=z1
 refine V3 ?_;simp only[List.zipIdx_cons,List.zipIdx_nil,aaa,List.forIn_nil];refine V3 (V3 (wpAny_onRaise ?_));show Wv _ _ (Xa (Value.ref i1) >>= _) _ _ _;refine V3 (nu (h1.at λo e=>b1.extBut _ _ D.i1z e) (g1.at λo e=>b1.extBut _ _ D.l1z e) hx λw2 n2 b2=>V8 ?_);have t2:ZE w2 TO p q:=b2.extBut _ _ D.TOi1 (b1.extBut _ _ D.TOz N2);refine V3 (Yk t2 rfl (V3 (aaQ t2 λw3 t3 b3=>?_)))
 replace t3:ZE w3 TO x q:=t3
 refine V3 (wpAny_letGo (V8 ?_));refine V3 (V3 (wpAny_onRaise ?_));show Wv _ _ (Xa (Value.ref i2) >>= _) _ _ _;refine V3 (nu (h2.at λo e=>b3.extBut _ _ D.TOi2.symm (b2.extBut _ _ D.i12.symm (b1.extBut _ _ D.i2z e))) (g2.at λo e=>b3.extBut _ _ D.l2TO (b2.extBut _ _ D.l2i1 (b1.extBut _ _ D.l2z e))) hy λw4 n4 b4=>V8 ?_);have t4:ZE w4 TO x q:=b4.extBut _ _ D.TOi2 t3;refine V3 (Yk t4 rfl (V3 (aaQ t4 λw5 t5 b5=>?_)))
 replace t5:ZE w5 TO x y:=t5
 refine V3 (wpAny_letGo (V8 (V8 ?_)));refine V3 (Yk t5 rfl (V3 (wpAny_newTuple ?_)));have sz:w5.objs.size=s.heap.objs.size:=by rw[b5.1,b4.1,b3.1,b2.1,b1.1]
 have z5:IsZip w5 z TI TO .ellipsis:=b5.extBut _ _ D.TOz.symm (b4.extBut _ _ D.i2z.symm (b3.extBut _ _ D.TOz.symm (b2.extBut _ _ D.i1z.symm z1)));have kp:∀c o,c≠z->c≠TO->c≠i1->c≠i2->s.heap.get? c=some o->w5.get? c=some o:=λc o c1 c2 c3 c4 e=>b5.extBut _ _ c2 (b4.extBut _ _ c4 (b3.extBut _ _ c2 (b2.extBut _ _ c3 (b1.extBut _ _ c1 e))));have n5:eO l1 w5 i1 a1 (k+1):=n2.at λo e=>b5.extBut _ _ D.TOi1.symm (b4.extBut _ _ D.i12 (b3.extBut _ _ D.TOi1.symm e));have m5:eO l2 w5 i2 a2 (k+1):=n4.at λo e=>b5.extBut _ _ D.TOi2.symm e;have lz:z<w5.objs.size:=Wq z5;show Wv _ _ (ZN (Value.ref z) (Value.ref w5.objs.size) >>= _) _ _ _;refine V3 ?_;unfold ZN;have z6:IsZip (w5.push {cls:=.type "tuple",data:=.seq (List.toArray [x,y])}) z TI TO .ellipsis:=V7 _ z5;refine V3 (YM z6 (by simp) λw7 z7 b7=>?_)
 replace z7:IsZip w7 z TI TO (aag w5.objs.size):=z7
 refine YM z7 (by simp) λw8 z8 b8=>?_
 replace z8:IsZip w8 z TI TO (aag w5.objs.size):=z8
 have up:∀c o,c≠z->w5.get? c=some o->w8.get? c=some o:=λc o c1 e=>b8.extBut _ _ c1 (b7.extBut _ _ c1 (V7 _ e));have t8:ZE w8 w5.objs.size x y:=b8.extBut _ _ (ZW lz) (b7.extBut _ _ (ZW lz) (Wj _ rfl));rw[sz] at z8 t8;refine V8 ⟨_,rfl,?_⟩;show Q (.ref w5.objs.size) _;rw[sz];exact hQ w8 z8 (up _ _ D.TOz t5) (n5.at λo e=>up _ o D.i1z e) (m5.at λo e=>up _ o D.i2z e) t8 λc o c1 c2 c3 c4 e=>up c o c1 (kp c o c1 c2 c3 c4 e)
theorem Ex {TI TO:Ww}{xs:Array Wd}{p:Wd}{Q:Fin->Wr->Prop}(hh:A.handled=none)(D:ZipApart z TI TO i1 i2 a1 a2)(hz:IsZip s.heap z TI TO .none)(N1:ZE s.heap TI (.ref i1) (.ref i2))(N2:ZE s.heap TO p q)(h1:eO l1 s.heap i1 a1 k)(h2:eO l2 s.heap i2 a2 k)(g1:gS l1 s.heap a1 xs)(g2:gS l2 s.heap a2 ys)(N3:xs[k]? = none\/ys[k]? = none)(hE:∀h' e,(∀c o,c≠z->c≠TO->c≠i1->c≠i2->s.heap.get? c=some o->h'.get? c=some o)->(∃o,h'.get? e=some o/\o.cls=.type "StopIteration")->E (.ref e) {s with heap:=h'}) :
  Wv (WI prog w) A (Builtin.«zip.__next__» ⟨[.ref z],[]⟩) Q E s:=by
 show Wv _ _ (field (Value.ref z) 2 >>= _) _ _ _;refine V3 (X0 hz rfl (x:=.bool false) rfl ?_);show Wv _ _ (field (Value.ref z) 3 >>= _) _ _ _;refine V3 (X0 hz rfl (x:=.ref TI) rfl (V3 (Yk N1 rfl ?_)));show Wv _ _ (X1 (Value.ref z) >>= _) _ _ _;refine V3 ?_;unfold X1;refine V3 (X0 hz rfl (x:=.none) rfl (V8 ?_));simp only[if_true];refine V3 (YI (V3 (X0 hz rfl (x:=.ref TO) rfl (V3 (YM hz (by simp) λw1 z1 b1=>?_)))))
 replace z1:IsZip w1 z TI TO .ellipsis:=z1
 refine V3 ?_;simp only[List.zipIdx_cons,List.zipIdx_nil,aaa,List.forIn_nil];refine V3 (V3 (wpAny_onRaise ?_));show Wv _ _ (Xa (Value.ref i1) >>= _) _ _ _;cases hx:xs[k]? with
 |none=>
  refine V3 (xm hh (h1.at λo e=>b1.extBut _ _ D.i1z e) (g1.at λo e=>b1.extBut _ _ D.l1z e) hx λw2 e b2 he=>?_);obtain⟨oe,hoe,hce⟩:=he;have z2:IsZip w2 z TI TO .ellipsis:=b2 _ _ D.i1z.symm z1;have nz:e≠z:=λx=>by subst x;rw[z2] at hoe;cases hoe;simp at hce
  exact YM z2 (by simp) λw3 _ b3=>hE w3 e (λc o c1 _ c3 _ x=>b3.extBut _ _ c1 (b2 _ _ c3 (b1.extBut _ _ c1 x))) ⟨oe,b3.extBut _ _ nz hoe,hce⟩
 |some x=>
  have hy:ys[k]? = none:=by rcases N3 with h|h;rw[hx] at h;cases h;exact h
  refine V3 (nu (h1.at λo e=>b1.extBut _ _ D.i1z e) (g1.at λo e=>b1.extBut _ _ D.l1z e) hx λw2 n2 b2=>V8 ?_);have t2:ZE w2 TO p q:=b2.extBut _ _ D.TOi1 (b1.extBut _ _ D.TOz N2);refine V3 (Yk t2 rfl (V3 (aaQ t2 λw3 t3 b3=>?_)));refine V3 (wpAny_letGo (V8 ?_));refine V3 (V3 (wpAny_onRaise ?_));show Wv _ _ (Xa (Value.ref i2) >>= _) _ _ _;refine V3 (xm hh (h2.at λo e=>b3.extBut _ _ D.TOi2.symm (b2.extBut _ _ D.i12.symm (b1.extBut _ _ D.i2z e))) (g2.at λo e=>b3.extBut _ _ D.l2TO (b2.extBut _ _ D.l2i1 (b1.extBut _ _ D.l2z e))) hy λw4 e b4 he=>?_);obtain⟨oe,hoe,hce⟩:=he;have z4:IsZip w4 z TI TO .ellipsis:=b4 _ _ D.i2z.symm (b3.extBut _ _ D.TOz.symm (b2.extBut _ _ D.i1z.symm z1));have nz:e≠z:=λx=>by subst x;rw[z4] at hoe;cases hoe;simp at hce
  exact YM z4 (by simp) λw5 _ b5=>hE w5 e (λc o c1 c2 c3 c4 x=>b5.extBut _ _ c1 (b4 _ _ c4 (b3.extBut _ _ c2 (b2.extBut _ _ c3 (b1.extBut _ _ c1 x))))) ⟨oe,b5.extBut _ _ nz hoe,hce⟩
theorem Cs {TI TO:Ww}{xs:Array Wd}{x y p:Wd}{Q:Option Wd->Wr->Prop}(D:ZipApart z TI TO i1 i2 a1 a2)(hz:IsZip s.heap z TI TO .none)(N1:ZE s.heap TI (.ref i1) (.ref i2))(N2:ZE s.heap TO p q)(h1:eO l1 s.heap i1 a1 k)(h2:eO l2 s.heap i2 a2 k)(g1:gS l1 s.heap a1 xs)(g2:gS l2 s.heap a2 ys)(hx:xs[k]? = some x)(hy:ys[k]? = some y)(hQ:∀h',IsZip h' z TI TO (aag s.heap.objs.size)->ZE h' TO x y->eO l1 h' i1 a1 (k+1)->eO l2 h' i2 a2 (k+1)->ZE h' s.heap.objs.size x y->(∀c o,c≠z->c≠TO->c≠i1->c≠i2->s.heap.get? c=some o->h'.get? c=some o)->Q (some (.ref s.heap.objs.size)) {s with heap:=h'}) :
  Wv (WI prog w) A (aaN (.ref z)) Q E s:=by
 have hT:s.TypeIs (.ref z) "zip":=⟨_,hz,rfl⟩;unfold aaN;exact V3 (YN (W_ (name:=XO "__next__") hT aa9 (Xe aa9 hT F.entry_zip_next (Cr D hz N1 N2 h1 h2 g1 g2 hx hy λh' c1 c2 c3 c4 c5 c6=>V8 (hQ h' c1 c2 c3 c4 c5 c6)) (F.args_zip_next_1 _))))
theorem Ct {TI TO:Ww}{xs:Array Wd}{p:Wd}{Q:Option Wd->Wr->Prop}(hh:A.handled=none)(D:ZipApart z TI TO i1 i2 a1 a2)(hz:IsZip s.heap z TI TO .none)(N1:ZE s.heap TI (.ref i1) (.ref i2))(N2:ZE s.heap TO p q)(h1:eO l1 s.heap i1 a1 k)(h2:eO l2 s.heap i2 a2 k)(g1:gS l1 s.heap a1 xs)(g2:gS l2 s.heap a2 ys)(N3:xs[k]? = none\/ys[k]? = none)(hQ:∀h',(∀c o,c≠z->c≠TO->c≠i1->c≠i2->s.heap.get? c=some o->h'.get? c=some o)->Q none {s with heap:=h'}):Wv (WI prog w) A (aaN (.ref z)) Q E s:=by
 have hT:s.TypeIs (.ref z) "zip":=⟨_,hz,rfl⟩;unfold aaN;refine V3 (YN (W_ (name:=XO "__next__") hT aa9 (Xe aa9 hT F.entry_zip_next (Ex hh D hz N1 N2 h1 h2 g1 g2 N3 λh' e hk ⟨o,ho,hc⟩=>?_) (F.args_zip_next_1 _))));exact V3 (aaJ (T:="StopIteration") (b:=true) ⟨o,ho,hc⟩ isSubtype_stop (V8 (hQ _ hk)))
end
noncomputable abbrev Q4 (l1:Bool)(h:Y5)(a1:Ww):Y5:=h.push {cls:=.type (Cp l1),data:=.fields (List.toArray [.ref a1,.int 0 0])}
noncomputable abbrev Q5 (l1 l2:Bool)(h:Y5)(a1 a2:Ww):Y5:=(Q4 l1 h a1).push {cls:=.type (Cp l2),data:=.fields (List.toArray [.ref a2,.int 0 0])}
noncomputable abbrev Q7 (l1 l2:Bool)(h:Y5)(a1 a2:Ww):Y5:=(Q5 l1 l2 h a1 a2).push {cls:=.type "tuple",data:=.seq (List.toArray [.ref h.objs.size,.ref (Q4 l1 h a1).objs.size])}
noncomputable abbrev Q8 (l1 l2:Bool)(h:Y5)(a1 a2:Ww):Y5:=(Q7 l1 l2 h a1 a2).push {cls:=.type "tuple",data:=.seq (List.toArray [.none,.none])}
noncomputable abbrev Oi (l1 l2:Bool)(h:Y5)(a1 a2:Ww):Y5:=(Q8 l1 l2 h a1 a2).push {cls:=.type "zip",data:=.fields (List.toArray [.none,.bool false,.bool false,.ref (Q5 l1 l2 h a1 a2).objs.size,.ref (Q7 l1 l2 h a1 a2).objs.size])}
theorem Ey (l1 l2:Bool)(a1 a2:Ww)(xs ys:Array Wd):Meets (Builtin.«zip.__new__» ⟨[.type "zip",.ref a1,.ref a2],[]⟩) (λ_ R s=>gS l1 s.heap a1 xs/\gS l2 s.heap a2 ys/\R (.ok (.ret (.ref (Q8 l1 l2 s.heap a1 a2).objs.size))) {s with heap:=Oi l1 l2 s.heap a1 a2}):=
 .of_wp λprog w A R s h=>by
  obtain⟨hp,g,d,tk,os⟩:=s;obtain⟨g1,g2,h⟩:=h;have sb:=sub_zip;have q1:gS l1 (Shared.heap ⟨hp,g,d,tk,os⟩) a1 xs:=g1;have q2:gS l2 (Shared.heap ⟨hp.push {cls:=.type (Cp l1),data:=.fields (List.toArray [.ref a1,.int 0 0])},g,d,tk,os⟩) a2 ys:=g2.at λo e=>V7 _ e;wp_walk using AE q1,AE q2;exact⟨_,rfl,h⟩
section
variable {w:Xt}{A:W2}
theorem Cu {xs:Array Wd}(g1:gS l1 s.heap a1 xs)(g2:gS l2 s.heap a2 ys)(h:∀h',IsZip h' (s.heap.objs.size+4) (s.heap.objs.size+2) (s.heap.objs.size+3) .none->ZE h' (s.heap.objs.size+2) (.ref s.heap.objs.size) (.ref (s.heap.objs.size+1))->ZE h' (s.heap.objs.size+3) .none .none->
   eO l1 h' s.heap.objs.size a1 0->eO l2 h' (s.heap.objs.size+1) a2 0->(∀c o,s.heap.get? c=some o->h'.get? c=some o)->Q (.ref (s.heap.objs.size+4)) {s with heap:=h'}):Wv (WI prog w) A (call (.type "zip") [.ref a1,.ref a2]) Q E s:=by
 refine callType_new F.called_zip (by decide) (F.typeCall_zip_2 _ _) (F.newCall_zip_2 _ _) (λobj=>F.args_object_init_3 obj _ _) F.entry_zip_new (Ey l1 l2 a1 a2 xs ys) ⟨g1,g2,?_⟩;have z1:(Q4 l1 s.heap a1).objs.size=s.heap.objs.size+1:=YT ..;have z2:(Q5 l1 l2 s.heap a1 a2).objs.size=s.heap.objs.size+2:=by rw[YT,z1]
 have z3:(Q7 l1 l2 s.heap a1 a2).objs.size=s.heap.objs.size+3:=by rw[YT,z2]
 have z4:(Q8 l1 l2 s.heap a1 a2).objs.size=s.heap.objs.size+4:=by rw[YT,z3]
 have e5:(Oi l1 l2 s.heap a1 a2).get? (Q8 l1 l2 s.heap a1 a2).objs.size=some _:=Wj _ rfl;have e4:(Oi l1 l2 s.heap a1 a2).get? (Q7 l1 l2 s.heap a1 a2).objs.size=some _:=V7 _ (Wj _ rfl);have e3:(Oi l1 l2 s.heap a1 a2).get? (Q5 l1 l2 s.heap a1 a2).objs.size=some _:=V7 _ (V7 _ (Wj _ rfl));have e2:(Oi l1 l2 s.heap a1 a2).get? (Q4 l1 s.heap a1).objs.size=some _:=V7 _ (V7 _ (V7 _ (Wj _ rfl)));have e1:(Oi l1 l2 s.heap a1 a2).get? s.heap.objs.size=some _:=V7 _ (V7 _ (V7 _ (V7 _ (Wj _ rfl))));show _/\_;rw[z2,z3,z4] at e5;rw[z1,z2] at e3;rw[z3] at e4;rw[z1] at e2;rw[z4];have mk:∀(l:Bool) (hp:Y5) (it a:Ww) (_:hp.get? it=some {cls:=.type (Cp l),data:=.fields (List.toArray [.ref a,.int 0 0])}),eO l hp it a 0:=λl hp it a e=>by
  cases l with
  |true=>exact⟨_,e,rfl,rfl⟩
  |false=>exact⟨_,e,rfl,rfl⟩
 exact⟨⟨_,e5,rfl⟩,h _ e5 e3 e4 (mk l1 _ _ _ e1) (mk l2 _ _ _ e2) λc o x=>V7 _ (V7 _ (V7 _ (V7 _ (V7 _ x))))⟩
end
end Hc.Zp
namespace L2
open Hc.Zp
section
variable {T:Ww}{o:HO}
theorem av.turnNew {t':Nat}(I:av X pins σ H s)(hf:∀b∈fp,oP X pins H b)(k:∀b o,b∉fp->s.heap.get? b=some o->h'.get? b=some o)(hT:s.heap.objs.size<=T)(new:bh X.prog X.w (bL H T o) h' T o) :
  av X pins σ (bL H T o) {s with heap:=h',toks:=t'}:=by
 have hn:H T=none:=I.hok.fresh hT;have nf:∀b u,H b=some u->b∉fp:=λb u e z=>by rw[(hf b z).1] at e;cases e
 have nT:∀b u,H b=some u->b≠T:=λb u e z=>by rw[z,hn] at e;cases e
 refine I.step (g':=s.gens) (d':=s.drawn) (ch:=fp) (λb hb=>?_) (λb o _ _ hc e _=>k b o hc e) (λb o _ _ hc e _=>⟨o.slots,k b o hc e⟩) (λb o _ e n=>?_) (λb o hc e=>⟨o,k b o hc e⟩)
  (λb xs e=>?_) (λb o u e=>?_) (λb ps e=>⟨(List.toArray []),?_⟩) (λm hm=>?_) (λb u e=>?_) I.bare
 ·obtain⟨f0,f1,f2,f3,f4,f5⟩:=hf b hb;exact⟨f3,f1,f4,f5⟩
 ·rw[aF (WA (WV (Wq e) hT))];exact n
 ·rw[aF (nT b _ e)];exact e
 ·rw[aF (nT b _ e)];exact e
 ·rw[aF (nT b _ e),e];simp
 ·obtain⟨o,es,ep,ho,r⟩:=hm;exact⟨o,es,ep,k _ o (λz=>(hf _ z).2.1 rfl) ho,r⟩
 ·by_cases c:b=T
  ·subst c;rw[aH] at e;cases e;exact new
  ·rw[aF c] at e;refine (I.hok b u e).stay (λc v hc q=>k c v ?_ q) (λc q=>by rw[aF (nT c _ q)];exact q) λc xs q=>by rw[aF (nT c _ q)];exact q
   rcases hc with z|z
   ·rw[z];exact nf b u e
   ·exact nf c _ z
theorem av.turneds {t':Nat}(I:av X pins σ H s)(hf:∀b∈fp,oP X pins H b)(k:∀b o,b∉fp->s.heap.get? b=some o->h'.get? b=some o):av X pins σ H {s with heap:=h',toks:=t'}:=by
 have nf:∀b u,H b=some u->b∉fp:=λb u e z=>by rw[(hf b z).1] at e;cases e
 refine I.step (g':=s.gens) (d':=s.drawn) (ch:=fp) (λb hb=>?_) (λb o _ _ hc e _=>k b o hc e) (λb o _ _ hc e _=>⟨o.slots,k b o hc e⟩) (λb o _ e n=>n) (λb o hc e=>⟨o,k b o hc e⟩)
  (λb xs e=>e) (λb o u e=>e) (λb ps e=>⟨(List.toArray []),by rw[e];simp⟩) (λm hm=>?_) (λb u e=>?_) I.bare
 ·obtain⟨f0,f1,f2,f3,f4,f5⟩:=hf b hb;exact⟨f3,f1,f4,f5⟩
 ·obtain⟨o,es,ep,ho,r⟩:=hm;exact⟨o,es,ep,k _ o (λz=>(hf _ z).2.1 rfl) ho,r⟩
 ·refine (I.hok b u e).stay (λc v hc q=>k c v ?_ q) (λ_ q=>q) λ_ _ q=>q;rcases hc with z|z
  ·rw[z];exact nf b u e
  ·exact nf c _ z
def Cv (l:Bool)(K:Wc)(H:Hp)(a:Ww)(xs:List V):Prop:=if l=true then eF K H a xs else eZ K H a xs
theorem av.sq {l:Bool}(I:av X pins σ H s)(q:Cv l X.K H a xs):∃ao,aP xs ao/\gS l s.heap a ao.toArray:=by
 cases l with
 |true=>obtain⟨ao,rv,p,_⟩:=I.list q;exact⟨ao,rv,p.isList⟩
 |false=>obtain⟨ao,rv,p,_⟩:=I.tuple q;exact⟨ao,rv,p⟩
theorem av.sq_inj {l:Bool}{ys:List V}(I:av X pins σ H s)(q:Cv l X.K H a xs)(q':Cv l X.K H a ys):xs=ys:=by
 cases l with
 |true=>exact I.list_inj q q'
 |false=>exact I.tuple_inj q q'
end
noncomputable def TH (K:Wc)(l1 l2:Bool)(a1 a2:Ww):It:=
  ⟨λi H=>∃xs ys x y,Cv l1 K H a1 xs/\Cv l2 K H a2 ys/\xs[i]? = some x/\ys[i]? = some y,
   λi H v H'=>∃T x y,v=.ref T/\H T=none/\H'=bL H T (.tup [x,y])/\(∀xs,Cv l1 K H a1 xs->xs[i]? = some x)/\(∀ys,Cv l2 K H a2 ys->ys[i]? = some y),
   λi H=>∃xs ys,Cv l1 K H a1 xs/\Cv l2 K H a2 ys/\(xs.length<=i\/ys.length<=i)⟩
theorem Ez {w:Xt}{GQ:List X4}{kt:Nat}{tp:Pos}{TI TO:Ww}(D:ZipApart z TI TO i1 i2 a1 a2) :
  yy P w K (.Tuple GQ kt tp) (TH K l1 l2 a1 a2) [z,TI,TO,i1,i2] z (λi h=>IsZip h z TI TO .none/\ZE h TI (.ref i1) (.ref i2)/\(∃p q,ZE h TO p q)/\eO l1 h i1 a1 i/\eO l2 h i2 a2 i) where
 mem:=by simp
 obj:=λi h ⟨hz,hI,⟨p,q,hO⟩,h1,h2⟩ b hb=>by
  obtain⟨o1,e1,d1,_⟩:=h1.obj;obtain⟨o2,e2,d2,_⟩:=h2.obj;simp only[Wn,Ys,or_false] at hb;rcases hb with rfl|rfl|rfl|rfl|rfl
  ·exact⟨_,hz,λv e=>by cases e⟩
  ·exact⟨_,hI,λv e=>by cases e⟩
  ·exact⟨_,hO,λv e=>by cases e⟩
  ·exact⟨o1,e1,λv e=>by rw[d1] at e;cases e⟩
  ·exact⟨o2,e2,λv e=>by rw[d2] at e;cases e⟩
 keep:=λi h h' ⟨hz,hI,⟨p,q,hO⟩,h1,h2⟩ k=>⟨k z (by simp) _ hz,k TI (by simp) _ hI,⟨p,q,k TO (by simp) _ hO⟩,h1.at λo e=>k i1 (by simp) o e,h2.at λo e=>k i2 (by simp) o e⟩
 item:=by
  intro X hP hw hK hc i pins s σ H E I hf st hg;subst hP hw hK;obtain⟨hz,hI,⟨p,q,hO⟩,h1,h2⟩:=st;obtain⟨xs,ys,x,y,q1,q2,hx,hy⟩:=hg;obtain⟨is1,v1,g1⟩:=I.sq q1;obtain⟨is2,v2,g2⟩:=I.sq q2;obtain⟨u1,nN,r1⟩:=v1.get hx;obtain⟨u2,hu2,r2⟩:=v2.get hy;obtain⟨o1,e1,_,_⟩:=h1.obj;obtain⟨o2,e2,_,_⟩:=h2.obj;have lz:=Wq hz;have lI:=Wq hI;have lO:=Wq hO;have UZ:=Wq e1;have U0:=Wq e2;refine Cs D hz hI hO h1 h2 g1 g2 (x:=u1) (y:=u2) (by simpa using nN) (by simpa using hu2) λh' c1 c2 c3 c4 c5 kp=>⟨_,rfl,?_⟩;refine wpAny_letOwnedTupleGo_zip c1 λLf z2 sb=>?_;have Ue:ZE Lf s.heap.objs.size u1 u2:=sb.extBut _ _ (ZW lz) c5;have U1:∀b o,b∉[z,TI,TO,i1,i2]->s.heap.get? b=some o->Lf.get? b=some o:=λb o hb e=>by
   simp only[Wn,Ys,or_false,not_or] at hb;exact sb.extBut _ _ hb.1 (kp b o hb.1 hb.2.2.1 hb.2.2.2.1 hb.2.2.2.2 e)
  have I2:av X pins σ (bL H s.heap.objs.size (.tup [x,y])) {s with heap:=Lf}:=I.turnNew (t':=s.toks) hf U1 (Wf _) ⟨by rw[Yg];simp,[u1,u2],.cons r1 (.cons r2 .nil),⟨_,Ue,rfl,_,rfl⟩,_,Ue⟩;have fr:H s.heap.objs.size=none:=I.hok.fresh (Wf _);refine⟨.ref s.heap.objs.size,_,I2,rfl,⟨_,x,y,rfl,fr,rfl,λzs hq=>by rw[I.sq_inj hq q1];exact hx,λzs hq=>by rw[I.sq_inj hq q2];exact hy⟩,⟨z2,?_,⟨u1,u2,?_⟩,?_,?_⟩,λb hb=>?_⟩
  ·exact sb.extBut _ _ D.TIz (kp _ _ D.TIz D.TITO D.TIi1 D.TIi2 hI)
  ·exact sb.extBut _ _ D.TOz c2
  ·exact c3.at λo e=>sb.extBut _ _ D.i1z e
  ·exact c4.at λo e=>sb.extBut _ _ D.i2z e
  ·have hn:b≠s.heap.objs.size:=by
    simp only[Wn,Ys,or_false] at hb;rcases hb with rfl|rfl|rfl|rfl|rfl
    ·exact WA lz
    ·exact WA lI
    ·exact WA lO
    ·exact WA UZ
    ·exact WA U0
   rw[aF hn];exact (hf b hb).1
 done:=by
  intro X hP hw hK hc i pins s σ H E I hf st hg;subst hP hw hK;obtain⟨hz,hI,⟨p,q,hO⟩,h1,h2⟩:=st;obtain⟨xs,ys,q1,q2,he⟩:=hg;obtain⟨is1,v1,g1⟩:=I.sq q1;obtain⟨is2,v2,g2⟩:=I.sq q2;have n1:=v1.length;have n2:=v2.length;refine Ct (I.ok.hd hc) D hz hI hO h1 h2 g1 g2 (by
   rcases he with he|he
   ·exact .inl (by simp;lia)
   ·exact .inr (by simp;lia)) λh' kp=>⟨rfl,I.turneds (t':=s.toks) hf λb o hb e=>?_⟩
  simp only[Wn,Ys,or_false,not_or] at hb;exact kp b o hb.1 hb.2.2.1 hb.2.2.2.1 hb.2.2.2.2 e
 self:=λ_ _ _ _ _ st h=>wpAny_pyIter_zip st.1 h
section
variable {GQ:List X4}{kt:Nat}{tp p:Pos}{a b:X4}
theorem MA:W6 "zip"=some (.type "zip"):=by decide+kernel
def Si (K:Wc)(ta:TA):TI:=λσ H R=>ta σ H λvs H1=>∃l1 l2 a1 a2 xs ys,vs=[.ref a1,.ref a2]/\Cv l1 K H1 a1 xs/\Cv l2 K H1 a2 ys/\R (TH K l1 l2 a1 a2) H1
theorem MB {ta:TA}(hg:Gl X "zip")(hm:X.mg "zip"=none)(ha:PA X [a,b] ta)(hs:Wm [a,b] X.env=[(false,YX a X.env),(false,YX b X.env)]:=by rfl)(bK:Wm [b] X.env=[(false,YX b X.env)]:=by rfl) :
  PI X (.Tuple GQ kt tp) (.Call (.Name "zip" p) [a,b] [] pos) (Si X.K ta):=by
 intro pins s σ H R I h;refine Call_ (pS I hg hm MA (Zi (cS (ha pos pins s σ H _ I h) λus s1 ⟨vs,H1,I1,r1,q1⟩=>?_) (by rw[hs,bK]) (by rw[bK];rfl)));obtain⟨l1,l2,a1,a2,xs,ys,rfl,g1,g2,q⟩:=q1;cases r1 with
 |cons r rr=>
  cases rr with
  |cons r' rr=>
   cases rr;cases r;cases r';obtain⟨is1,v1,m1⟩:=I1.sq g1;obtain⟨is2,v2,m2⟩:=I1.sq g2;have lt:∀(l:Bool) (c:Ww) (zs:Array Wd),gS l s1.heap c zs->c<s1.heap.objs.size:=λl c zs hq=>by
    cases l with
    |true=>obtain⟨_,e,_⟩:=hq;exact Wq e
    |false=>obtain⟨_,e,_⟩:=hq;exact Wq e
   refine Cu m1 m2 λh' z1 z2 z3 z4 z5 kp=>wpAny_pyIter_zip z1 ?_;refine⟨_,[s1.heap.objs.size+4,s1.heap.objs.size+2,s1.heap.objs.size+3,s1.heap.objs.size,s1.heap.objs.size+1],_,_,H1,rfl,I1.kept (t':=s1.toks) λb o e=>kp b o e,Ez (zipApart_new (lt l1 a1 _ m1) (lt l2 a2 _ m2)),⟨z1,z2,⟨_,_,z3⟩,z4,z5⟩,λb hb=>?_,q⟩;have hb:s1.heap.objs.size<=b:=by
    simp only[Wn,Ys,or_false] at hb;rcases hb with rfl|rfl|rfl|rfl|rfl
    ·exact Yt _ _
    ·exact Yt _ _
    ·exact Yt _ _
    ·exact Wf _
    ·exact Yt _ _
   exact I1.fpOk hb (I1.hok.fresh hb)
end
noncomputable def Cw:U->Option (List U)
 | .lst us=>some us
 | .tup us=>some us
 |_=>none
noncomputable def Im (ga:Ev->R (List U×Ev)):Ev->R (List U×Ev):=λρ=>(ga ρ).bind λx=>match x.1 with
 | [u,w]=>match Cw u,Cw w with
  |some us,some ws=>.ok (Zo (λa b=>.tup [a,b]) us ws,x.2)
  |_,_=>.stk
 |_=>.stk
section
variable {GQ:List X4}{kt:Nat}{tp p1:Pos}{a b:X4}{b1:Bool}{ga:Ev->R (List U×Ev)}
theorem EA (e:Cw u=some us)(h:Rp K H A u v):∃l a xs,v=.ref a/\us.length<=Wa/\aA K H A us xs/\Cv l K H a xs/\∀H',dI A H H'->(∀b,A b->Mu (H b))->Cv l K H' a xs:=by
 unfold Cw at e;split at e;rotate_right
 ·cases e
 rotate_left
 ·cases e;unfold Rp at h;obtain⟨a,xs,rfl,q,l,z⟩:=h;exact⟨false,a,xs,rfl,l,z,eZ.of q,λH' x mu=>eZ.of (x a _ (λy=>by have:=mu a y;rw[q] at this;exact this) q)⟩
 ·cases e;unfold Rp at h;obtain⟨a,xs,rfl,na,q,l,z⟩:=h;exact⟨true,a,xs,rfl,l,z,eF.of q,λH' x mu=>eF.of (x a _ na q)⟩
theorem MC (ha:DA X G [a,b] b1 false ga)(hm:X.mg "zip"=none)(hg:Gl X "zip":=by rfl)(hs:Wm [a,b] X.env=[(false,YX a X.env),(false,YX b X.env)]:=by rfl)(bK:Wm [b] X.env=[(false,YX b X.env)]:=by rfl) :
  DI X G (.Tuple GQ kt tp) (.Call (.Name "zip" p1) [a,b] [] pos) b1 false (Im ga):=⟨(MB hg hm ha.un hs bK).to λσ H RR h00=>by
 obtain⟨Z,A,ρ,q,f⟩:=h00;unfold Im at f;cases e1:ga ρ with
 |stk=>rw[e1] at f;exact f.elim
 |exc=>rw[e1] at f;exact f.elim
 |ok y=>
  obtain⟨us,ρ1⟩:=y;rw[e1] at f;dsimp only[L2.R.bind] at f;refine⟨Z,A,ρ,q,?_⟩;rw[e1];intro vs H1 q1 x1 s1 vm;split at f
  ·rename_i Lg ρ' e2;split at e2
   ·rename_i u w';split at e2
    ·rename_i as bs ea eb;cases e2;have r:=vm.rps;unfold aA at r;obtain⟨v,vr,rfl,r1,r2⟩:=r;unfold aA at r2;obtain⟨v',vr',rfl,r3,r4⟩:=r2;unfold aA at r4;subst r4;obtain⟨l1,a1,xs,rfl,n1,z1,k1,zZ⟩:=EA ea r1;obtain⟨l2,a2,ys,rfl,n2,z2,k2,j3⟩:=EA eb r3;refine⟨l1,l2,a1,a2,xs,ys,rfl,k1,k2,f _ H1 q1 x1 s1 ⟨?_,λH2 A' hx Dj=>?_⟩⟩
     ·rw[Y7];exact WD (Nat.min_le_left _ _) n1
     ·rw[hV V5] at hx;have Tf:=zZ H2 hx q1.mu;have Tg:=j3 H2 hx q1.mu;have w1:=z1.re q1.mu hx Dj;have w2:=z2.re q1.mu hx Dj;refine⟨λi u hu=>?_,⟨xs,ys,Tf,Tg,?_⟩⟩
      ·rw[List.getElem?_zipWith] at hu;cases hA:as[i]? with
       |none=>rw[hA] at hu;cases hu
       |some ua=>cases hB:bs[i]? with
        |none=>rw[hA,hB] at hu;cases hu
        |some ub=>
         rw[hA,hB] at hu;cases hu;obtain⟨x,G6,px⟩:=w1.get hA;obtain⟨y,hy1,py⟩:=w2.get hB;refine⟨⟨xs,ys,x,y,Tf,Tg,G6,hy1⟩,λx' H' yl=>?_⟩;obtain⟨T,x2,y2,rfl,hT,rfl,g1,g2⟩:=yl;have ex:x2=x:=by have:=g1 xs Tf;rw[G6] at this;cases this;rfl
         have ey:y2=y:=by have:=g2 ys Tg;rw[hy1] at this;cases this;rfl
         subst ex ey;have sm:=bD hT (.tup [x2,y2]);refine⟨sm,?_⟩;unfold Rp;exact⟨T,_,rfl,aH,by have:Wa=16777216:=rfl;rw[this];simp,aA.cons (px.same sm) (aA.cons (py.same sm) aA.nil)⟩
      ·rw[Y7,←z1.length,←z2.length];rcases Nat.le_total as.length bs.length with z|z
       ·exact .inl (by rw[XX z];exact Wf _)
       ·exact .inr (by rw[Nat.min_eq_right z];exact Wf _)
    ·cases e2
   ·cases e2
  ·exact f.elim⟩
end
end L2
namespace L2
section
variable {A:W2}{b:Bool}
theorem zd {x:V}{u:Wd}{n:String}{tp:Ww}(I:av X pins σ H s)(rx:aM x u)(ty:sL X.K H x n)(GR:s.heap.get? tp=some {cls:=.type "tuple",data:=.seq ao.toArray k})(e:abF X.K (.type n) ao=some b)(h:∀tk,Q (.bool b) {s with toks:=tk}) :
  Wv (WI X.prog X.w) A (call (.builtin "isinstance") [u,.ref tp]) Q E s:=by
 cases ty with
 |non=>cases (show u=Value.none from rx);exact Yn PySem.W.kitx_none I.kIn True.intro GR e (λz=>nomatch z) h
 |bl y=>cases (show u=Value.bool y from rx);exact Yn PySem.W.kitx_bool I.kIn True.intro GR e (λz=>nomatch z) h
 |int i=>obtain⟨t,q⟩:=(show ∃t,u=Value.int i t from rx);cases q;exact Yn PySem.W.kitx_int I.kIn True.intro GR e (λz=>nomatch z) h
 |str y=>obtain⟨t,q⟩:=(show ∃t,u=Value.str y t from rx);cases q;exact Yn PySem.W.kitx_str I.kIn True.intro GR e (λz=>nomatch z) h
 | @lst a xs ea=>
  cases (show u=Value.ref a from rx);obtain⟨_,_,n,_,h1⟩:=(show bh X.prog X.w H s.heap a (.lst xs) from I.hok a _ ea);exact Yn aal I.kIn ⟨_,h1,rfl⟩ GR e (λz=>nomatch z) h
 | @frz a ob xs ea=>
  cases (show u=Value.ref a from rx);obtain⟨_,_,_,n,_,h1⟩:=(show bh X.prog X.w H s.heap a (.frz ob (.lst xs)) from I.hok a _ ea);exact Yn aal I.kIn ⟨_,h1,rfl⟩ GR e (λz=>nomatch z) h
 | @tup a xs ea=>
  cases (show u=Value.ref a from rx);obtain⟨_,_,_,p,_⟩:=(show bh X.prog X.w H s.heap a (.tup xs) from I.hok a _ ea);obtain⟨o,h1,h2,_⟩:=p;exact Yn PySem.W.kitx_tuple I.kIn ⟨o,h1,h2⟩ GR e (λz=>nomatch z) h
 | @dK a aN ea=>
  cases (show u=Value.ref a from rx);obtain⟨_,_,vs,_,p⟩:=(show bh X.prog X.w H s.heap a (.dK aN) from I.hok a _ ea);obtain⟨o,es,ep,h1,h2,_⟩:=p;exact Yn aam I.kIn ⟨o,h1,h2.1⟩ GR e (λz=>nomatch z) h
 | @dT a aN ea=>
  cases (show u=Value.ref a from rx);obtain⟨_,_,xs,_,o,es,ep,h1,h2,_⟩:=(show bh X.prog X.w H s.heap a (.dT aN) from I.hok a _ ea);exact Yn aam I.kIn ⟨o,h1,h2.1⟩ GR e (λz=>nomatch z) h
theorem vb {m1 m2:String}(h1:m1∈["bool","int","str","list","tuple","dict"])(h2:m2∈["bool","int","str","list","tuple","dict"]) :
  cU X (.builtin "isinstance") (λxs H Q=>∃x n p,xs=[x,.ref p]/\H p=some (.tup [.ty m1,.ty m2])/\sL X.K H x n/\Q (.bl (dF n m1||dF n m2)) H):=by
 intro pins s σ H xs us Q I r h;obtain⟨x,n,p,rfl,hp,ty,q⟩:=h;obtain⟨u,w',rfl,rx,rt⟩:=tF r;cases rt;obtain⟨_,ao,vs,_,k,hg⟩:=(show bh X.prog X.w H s.heap p (.tup [.ty m1,.ty m2]) from I.hok p _ hp);obtain⟨a,b,rfl,ra,rb⟩:=tF vs;cases ra;cases rb;refine zd I rx ty hg (b:=dF n m1||dF n m2) ?_ λtk=>⟨.bl _,H,I.tok tk,rfl,q⟩;unfold abF abF abF;rw[D3 X.K ty.mem h1,D3 X.K ty.mem h2];cases dF n m1<;>cases dF n m2<;>rfl
end
section
variable {e:X4}{p1 p3 p4:Pos}{b1:Bool}{m1 m:Md}{g1:Ev->R (U×Ev)}{v:Option X4}{w:Option X4}
noncomputable def ze (T1 T2:String)(g:Ev->R (U×Ev)):Ev->R (U×Ev):=λρ=>(g ρ).bind λx=>if Ce x.1="script" then .stk else .ok (.bl (dF (Ce x.1) T1||dF (Ce x.1) T2),x.2)
theorem sL.re {x:V}{n:String}(h:sL K H x n)(k:∀a o,H a=some o->H' a=some o):sL K H' x n:=by
 cases h with
 |non=>exact .non
 |bl=>exact .bl _
 |int=>exact .int _
 |str=>exact .str _
 |lst e=>exact .lst (k _ _ e)
 |frz e=>exact .frz (k _ _ e)
 |tup e=>exact .tup (k _ _ e)
 |dK e=>exact .dK (k _ _ e)
 |dT e=>exact .dT (k _ _ e)
theorem EB {T1 T2:String}{x1 x2:Str}{c:Nat}(U2:T1∈["bool","int","str","list","tuple","dict"])(U3:T2∈["bool","int","str","list","tuple","dict"])(he:DE X G e b1 m1 g1)(zi:X.mg "isinstance"=none)(U4:X.mg x1=none)(U5:W6 x1=some (.type T1))(U6:X.mg x2=none)(U7:W6 x2=some (.type T2))(hg:Gl X "isinstance":=by rfl)(U8:Gl X x1:=by rfl)(U9:Gl X x2:=by rfl)
  (U_:x1≠"__name__":=by decide) (Va:(x1==("__debug__":Str))=false:=by decide) (Ov:x2≠"__name__":=by decide) (JG:(x2==("__debug__":Str))=false:=by decide)
  (hs:Wm [e,.Tuple [.Name x1 p2,.Name x2 p3] c p4] X.env=(false,YX e X.env)::Wm [.Tuple [.Name x1 p2,.Name x2 p3] c p4] X.env:=by rfl)
  (bK:Wm [.Tuple [.Name x1 p2,.Name x2 p3] c p4] X.env=(false,YX (.Tuple [.Name x1 p2,.Name x2 p3] c p4) X.env)::Wm [] X.env:=by rfl)
  (Th:Wm [.Name x1 p2,.Name x2 p3] X.env=(false,YX (.Name x1 p2) X.env)::Wm [.Name x2 p3] X.env:=by rfl)
  (Vb:Wm [.Name x2 p3] X.env=(false,YX (.Name x2 p3) X.env)::Wm [] X.env:=by rfl)
  (j_:(Yp pos (Wm [.Tuple [.Name x1 p2,.Name x2 p3] c p4] X.env)).any (·.1)=false:=by rfl) :
  DE X G (.Call (.Name "isinstance" p1) [e,.Tuple [.Name x1 p2,.Name x2 p3] c p4] [] pos) b1 .S (ze T1 T2 g1):=
 ⟨(f7 (vb (m1:=T1) (m2:=T2) U2 U3) hg zi eW (aO he.un (aO (Dy (aO (ph (v:=.ty T1) U8 U4 U5 rfl U_ Va) (aO (ph (v:=.ty T2) U9 U6 U7 rfl Ov JG) cT Vb) Th)) cT bK) hs) (by decide) (by decide) hs j_).to λσ H Q h=>by
 obtain⟨Z,A,ρ,q,f⟩:=h;obtain⟨⟨u,ρ1⟩,e1,f⟩:=f.bind;refine⟨Z,A,ρ,q,?_⟩;rw[e1];intro v H1 q1 x1 s1 vm;dsimp only at f;split at f
 ·exact f.elim
 ·rename_i hn;exact⟨by show 2<=Wa;decide,λp hp=>⟨v,Ce u,p,rfl,aH,(JT vm.pk hn).re λa o z=>by rw[aF (ba z hp)];exact z,f _ _ (q1.same (bD hp _)) (x1.trans (dI.same (bD hp _))) (oU s1 (bD hp _)) (wt.ofS fK)⟩⟩⟩
theorem MD {g:Ev->SR}(h:∀ρ,∃c u,g ρ=.exc c u)(hW:∀H,¬G.W H:=by exact λ_ h=>h):DS X G m (.Raise v w pos) g:=⟨λpins s σ H D I h00=>by
 obtain⟨Z,A,ρ,q,f⟩:=h00;obtain⟨c,u,e⟩:=h ρ;rw[e] at f;exact absurd (f H q.bas) (hW H)⟩
end
end L2
section
set_option maxHeartbeats 400000
namespace L2
open PySem PySem.Spec PyProof.Rows PySem.W
structure sP (K:Frag)(C:Ww):Prop where
 cls:(clsIn K C).isSome=true
 ga:findIn K (.ref C) "__getattribute__"=some (some (.builtin "BaseException.__getattribute__"))
 gn:findIn K (.ref C) "__getattr__"=some none
 cl:findIn K (.ref C) "__class__"=some (some (.builtin "object.__class__"))
 gt:specialIn K (.builtin "object.__class__") "__get__"=some (some (.builtin "getset_descriptor.__get__"))
 tk:takesIn K (.builtin "object.__class__")=some true
 ob:mroIn K C (.type "object")=some true
 be:mroIn K C (.type "BaseException")=some true
def lN (x C:Ww)(h:Y5):Prop:=∃ox,h.get? x=some ox/\ox.cls=.ref C
theorem lN.ty {x:Ww}(I:lN x C h)(M:Model):Looks M h (typeOf (.ref x)) (.ref C):=by
 obtain⟨ox,mG,e⟩:=I;exact e▸(Looks.ld mG).andThen .now
section
variable {w:Xt}{A:W2}{K:Frag}{x:Ww}
theorem EC (Z:sP K C)(X:K.In h):Looks M h (Builtin.ObjectAttr.find (.ref x) (.ref C) "__class__") (.bind (.builtin "getset_descriptor.__get__") (.builtin "object.__class__")):=by
 have m1:=looks_findIn (M:=M) X Z.cl;have m2:Looks M h (Builtin.ObjectAttr.getOf (some (.builtin "object.__class__"))) (some (.builtin "getset_descriptor.__get__")):=looks_specialIn X Z.gt;have m3:Looks M h (Builtin.ObjectAttr.dataDescriptor? (some (.builtin "object.__class__")) (some (.builtin "getset_descriptor.__get__"))) (some (.builtin "getset_descriptor.__get__",.builtin "object.__class__")):=(looks_takesIn (M:=M) X Z.tk).andThen .now;exact m1.andThen (m2.andThen (m3.andThen (Looks.tag .now)))
open Builtin Builtin.ObjectAttr Builtin.Getset_descriptor in
theorem Io {tp:Wd}{R:Result->Wr->Prop}(Z:sP K C)(X:K.In s.heap)(I:lN x C s.heap)(h:R (.ok (.ret (.ref C))) s):abD (WI prog w) A (.call (.builtin "getset_descriptor.__get__") ⟨[.builtin "object.__class__",.ref x,tp],[]⟩) R s:=by
 have m0:=I.ty (WI prog w);have m1:=looks_mroIn (M:=WI prog w) X Z.ob;obtain⟨hp,gs,dn,tt,oo⟩:=s;have Vc:(⟨hp,gs,dn,tt,oo⟩:Wr).TypeIs (.builtin "object.__class__") "getset_descriptor":=KF.type_class;refine aaR KF.slot_gs.plain KF.entry_gs ?_;refine KF.slot_gs.check _ _ _ _ _ _ _ _ Vc (KF.args_gs _ _ _) ?_;unfold Builtin.«getset_descriptor.__get__» descrGet;rw[dga_obj];refine V3 ?_;refine V8 ?_;unfold descrGetter descrCheckInstance;unfold descrNameAndClass isInstance;simp only[KF.owner_class]
 repeat lk
 refine⟨Code.quiet_builtin _ (by decide+kernel),?_⟩;refine Y2 KF.entry_class ?_;unfold Builtin.«object.__class__»;unfold shownTypeOf
 repeat lk
 exact h
theorem Cy {tk:Tok}{Q:Fin->Wr->Prop}(Z:sP K C)(X:K.In s.heap)(I:lN x C s.heap)(h:Q (.done (.ret (.ref C))) s) :
  Wv (WI prog w) A (Builtin.«object.__getattribute__» ⟨[.ref x,.str "__class__" tk],[]⟩) Q E s:=by
 have CG:=Io (prog:=prog) (w:=w) (A:=A) (tp:=.ref C) (R:=λr s'=>r=.ok (.ret (.ref C))/\s'=s) Z X I ⟨rfl,rfl⟩;have L0:=I.ty (WI prog w);obtain⟨hh,g,d,t,os⟩:=s;have L1:=EC (M:=WI prog w) (x:=x) Z X;unfold Builtin.«object.__getattribute__»;refine V3 (m:=slotArgs "__getattribute__" 1 ⟨[.ref x,.str "__class__" tk],[]⟩) (aa8 (a:=(.ref x,[.str "__class__" tk])) rfl ?_);refine V3 (aa8 (a:=("__class__":Str)) rfl ?_);refine V3 (L0.at (V3 (L1.at ?_)));show Wv _ _ (do ret (←holding [Value.builtin "object.__class__"] (call (.builtin "getset_descriptor.__get__") [.builtin "object.__class__",.ref x,.ref C]))) _ _ _;refine V3 (Xp (wpAny_call (ZX CG λr s' hr=>?_)));obtain⟨rfl,rfl⟩:=hr;exact V8 h
theorem Cz {Li:Wd}{Q:Unit->Wr->Prop}(Z:sP K C)(X:K.In s.heap)(I:lN x C s.heap)(hq:Q () s):Wv M A (checkBuiltinCall "BaseException.__getattribute__" ⟨[.ref x,Li],[]⟩) Q E s:=by
 have hk:builtinKind "BaseException.__getattribute__"=some .slot:=by decide+kernel
 have N4:splitId "BaseException.__getattribute__"=some ("BaseException","__getattribute__"):=by decide+kernel
 have ha:=F.args_bexc_ga (.ref x) Li;have LI:Looks M s.heap (isInstance (.ref x) (.type "BaseException")) true:=(I.ty M).andThen (looks_mroIn (M:=M) X Z.be);obtain⟨hh,g,d,t,os⟩:=s;simp only[checkBuiltinCall,hk,N4];refine V3 (LI.at ?_)
 repeat (first|assumption|wp_step)
theorem CA {Q:Option Wd->Wr->Prop}(Z:sP K C)(X:K.In s.heap)(I:lN x C s.heap)(h:Q (some (.ref C)) {s with toks:=s.toks+1}):Wv (WI prog w) A (getAttr? (.ref x) "__class__") Q E s:=by
 obtain⟨hh,g,d,t,os⟩:=s;have L0:=I.ty (WI prog w);have L1:=looks_findIn (M:=WI prog w) X Z.ga;have L2:=looks_findIn (M:=WI prog w) X Z.gn;unfold getAttr? getAttrBy? getAttrBy;refine V3 (wpAny_mkText (V3 (YN (Xp (V3 (L0.at (V3 (L1.at ?_))))))));have G6:(onTheHeap (Value.ref C)&&Value.builtin "BaseException.__getattribute__"==Value.builtin "object.__getattribute__")=false:=by
  have Rr:(Value.builtin "BaseException.__getattribute__"==Value.builtin "object.__getattribute__")=false:=by decide+kernel
  rw[Rr];rfl
 dsimp only;rw[hV (by rw[G6];exact V5)];unfold getAttrByItsOwn hookBefore;refine V3 (L2.at ?_);refine V3 (YN (Xp ?_));show Wv _ _ (boundAndCalled (.builtin "BaseException.__getattribute__") (.ref x) (.str "__class__" t)) _ _ _;unfold boundAndCalled;have FX:=F.attr_ValueError;refine V3 (aa8 (FX.ga.bind (.ref x)) ?_);refine wpAny_call (aaR FX.ga.plain F.entry_bexc_ga (Cz Z X I (Cy (s:=⟨hh,g,d,t+1,os⟩) Z X I ?_)));exact handed_on rfl (V8 h)
theorem ED (Z:sP K C):KitX K (.ref x) (.ref C) (lN x C) where
 ty:=λM h X I=>I.ty M
 it:=λM h X _=>by
  obtain⟨cdD,hcD⟩:=ZY.mp Z.cls;unfold clsIn at hcD;split at hcD
  ·rename_i c' d' Vd QM ho;intro A' Q' E' s' k q;unfold isType loadHead;exact V3 (wpAny_loadPart (k _ _ (X _ _ ho)) (V8 q))
  ·cases hcD
 ne:=λh tp dd ao n sl X GR=>by
  obtain⟨cdD,hcD⟩:=ZY.mp Z.cls;refine Zz.mpr λq=>?_;have e:C=tp:=Value.ref.inj (beq_iff_eq.mp q);subst e;unfold clsIn at hcD;split at hcD
  ·rename_i c' d' Vd QM ho;have z:=(X _ _ ho).symm.trans GR;cases z
  ·cases hcD
 ca:=λX I k=>CA Z X I k
end
end L2
end
section
set_option maxHeartbeats 400000
namespace L2
open PySem PySem.Spec PyProof.Rows PySem.W
structure Q9 (P:YG)(w:Xt)(outer:List Env)(H:Hp)(s:Wr)(B:Y5)(H1:Hp)(r:Y5)(L:Ww):Prop where
 un:Un (pP outer) [] H H1 s.heap r
 hok:ig P w H1 r
 kB:∀b o,r.get? b=some o->b∉pP outer->b≠L->B.get? b=some o
 nL:s.heap.get? L=none
 hL:H1 L=none
 fr:∀b∈pP outer,H b=none/\∃o,s.heap.get? b=some o/\∀vs,o.data≠.fields vs
def CB (P:YG)(w:Xt)(C:Ww):CXT:=λouter H s E e s'=>∃(ea t L:Ww) (B r:Y5) (H1:Hp),e=.ref ea/\s'.os=s.os/\abB s'.gens/\Q9 P w outer H s B H1 r L/\Heap.FlyingW B outer ea (.ref C) (.ref t) s'.heap/\r.UpToSlots s'.heap/\r.get? ea=none/\E (.ref C) none H1
theorem ig.keptT {w:Xt}(x:ig P w H h)(k:∀b u o,H b=some o->h.get? b=some u->h'.get? b=some u):ig P w H h':=λa o e=>
 (x a o e).stay (λb u hb q=>by
  rcases hb with rfl|hb
  ·exact k _ _ _ e q
  ·exact k _ _ _ hb q) (λ_ q=>q) λ_ _ q=>q
section
variable {w:Xt}{outer:List Env}{B r:Y5}{L:Ww}
theorem Q9.there (F:Q9 P w outer H s B H1 r L)(k:B.StaysIn h)(u:r.UpToSlots h):Un (pP outer) [] H H1 s.heap h/\ig P w H1 h:=by
 have Jz:∀b o,s.heap.get? b=some o->b≠L:=λb o e z=>by rw[z,F.nL] at e;cases e
 have Ug:∀b o,s.heap.get? b=some o->b∈pP outer->∃sl,h.get? b=some {o with slots:=sl}:=λb o e hb=>by
  obtain⟨hn,o',e',nf⟩:=F.fr b hb;rw[e] at e';cases e';obtain⟨sl,q⟩:=F.un.slot b o e hn hb (by simp);obtain⟨QM,q'⟩:=u b _ q (λvs z=>nf vs z);exact⟨QM,q'⟩
 refine⟨⟨λb o e n hb hx=>k b o (F.kB b o (F.un.keep b o e n hb hx) hb (Jz b o e)),λb o e n hb hx=>Ug b o e hb,F.un.free,λb o e hx=>?_,F.un.tups,F.un.frzs,F.un.tbls⟩,F.hok.keptT λb v o e q=>?_⟩
 ·by_cases hb:b∈pP outer
  ·obtain⟨sl,q⟩:=Ug b o e hb;exact⟨_,q⟩
  ·obtain⟨o',q⟩:=F.un.there b o e hx;exact⟨o',k b o' (F.kB b o' q hb (Jz b o e))⟩
 ·refine k b v (F.kB b v q (λhb=>?_) λz=>by rw[z,F.hL] at e;cases e);obtain⟨hn,o',e',_⟩:=F.fr b hb;rw[F.un.free b o' e' hn (by simp)] at e;cases e
end
section
variable {B r:Y5}{L:Ww}
theorem av.fly {t':Nat}{d':Drawn}(I:av X pins σ H s)(F:Q9 X.prog X.w X.stack H s B H1 r L)(k:B.StaysIn h)(u:r.UpToSlots h)(hg:abB g'):av X pins σ H1 {s with heap:=h,gens:=g',drawn:=d',toks:=t'}:=by
 obtain⟨a,b⟩:=F.there k u;exact I.call (h':=h) (g':=g') (d':=d') (t':=t') (ch:=[]) a b hg λ_ z=>absurd z (by simp)
end
section
variable {a b:Str}{e:X4}{p1 p3:Pos}{j1 j2:Nat}
def UD (te:TE):TE:=λσ H Q=>te σ H λx H1=>∃i:Int,x=.int i/\i.natAbs.log2<1920/\(XO (toString i)).length<=1000/\∀y:Str,Q (.str y) H1
theorem Pu (he:PE X e te)(ha:(Str.empty++a).length<=1000:=by decide+kernel)(hb:b.length<=1000:=by decide+kernel)(hs:(evalEach [Expr.Constant (.str b) j2 p3] X.env)=[YX (.Constant (.str b) j2 p3) X.env]:=by rfl):PE X (.JoinedStr [.Constant (.str a) j1 p1,.FormattedValue e (-1) none p2,.Constant (.str b) j2 p3] pos) (UD te):=by
 intro pins s σ H Q I h;have big:(3000:Nat)<=Wa:=by decide
 refine JoinedStr_many ?_;rw[hs];refine joinParts_cons (abl ?_);refine⟨WD ha (WD (by decide) big),joinParts_cons (FormattedValue_plain ?_)⟩;refine cS (he pins _ σ H _ (I.tok _) h) λv s1 ⟨x,H1,I1,rx,i,ex,sm,li,q⟩=>?_;subst ex;obtain⟨tk,rfl⟩:=rx;refine formatField_int_small sm ?_;refine⟨?_,joinParts_cons (abl ?_)⟩
 ·rw[aaU];exact WD (aaA ha li) (WD (by decide) big)
 ·refine⟨?_,joinParts_nil ?_ ?_⟩
  ·rw[aaU,aaU];exact WD (aaA (aaA ha li) hb) (WD (by decide) big)
  ·exact⟨.str _,H1,I1.tok _,⟨_,rfl⟩,q _⟩
  ·rw[aaU,aaU];exact WD (aaA (aaA ha li) hb) (WD (by decide) big)
end
end L2
end
section
set_option maxHeartbeats 400000
namespace L2
open PySem PySem.Spec PyProof.Rows PySem.W
abbrev AF:List Wd:=[.type "ValueError",.type "Exception",.type "BaseException",.type "object"]
theorem Iq {K:Frag}{Uh:List Wd}{Lj:String}(X:K.In h)(q:excIn K C Uh Lj=true) :
  ∃bm N nm qn bs hdct sn sub ab col dd k0 k1 k2 k3 k5 mN,h.get? C=some (excClassObj nm qn C N bs bm hdct sn sub ab col dd k0 k1 k2 k3 k5 Lj)/\h.Ns N mN/\mN "__init__"=none/\OwnTail h Uh bm:=by
 unfold excIn at q;split at q
 ·rename_i d1 cd sl ho;split at q
  ·rename_i C' bm k0 k1 k2 k3 n k5 hm hs;simp only[Wt,beq_iff_eq,abS] at q;obtain⟨⟨⟨⟨⟨e1,e2⟩,hdel⟩,ht⟩,hok⟩,hni⟩:=q;subst e1;subst e2;obtain⟨nm,bs,mro,ns,qn,hd,sn,sub,ab,col,del⟩:=cd;dsimp only at hm hdel hok hni;subst hm;subst hdel;have Ve:sl=(List.toArray [k0,k1,k2,k3,some (.builtin n),k5]):=by
    obtain⟨l⟩:=sl;simp only at hs;rw[hs]
   subst Ve;exact⟨bm,ns,nm,qn,bs,hd,sn,sub,ab,col,d1,k0,k1,k2,k3,k5,_,X _ _ ho,.of_isNs (isNs_of_in X hok),nsMap_none_of_in X hok hni,tail_of_in X ht⟩
  ·cases q
 ·cases q
section
variable {w:Xt}{K:Frag}{bC:Wd}{A:W2}{outer:List Env}{s0:Wr}{H0:Hp}{E:XK}
theorem CC {e:Ww}{vs:List Wd}(I:av (gP (CB P w C) P w K mg base N qual scope f bC A outer s0 H0 E) pins σ H s)(hm:Heap.MadeExcOf s.heap h' e (.ref C) vs)(hE:E (.ref C) none H)(nL:s0.heap.get? s0.heap.objs.size=none:=by exact Heap.get?_none_of_le (Wf _)):(gP (CB P w C) P w K mg base N qual scope f bC A outer s0 H0 E).xe (.ref e) {s with heap:=h'}:=by
 let env:=Yq qual scope s0.heap.objs.size f bC
 have fU:s.heap.FunFrames base (env::outer):=I.stack;have v_:∀en∈(env::outer),∀a,en.frame=some a->a∈pP (env::outer):=λen he a ha=>abn.mpr ⟨en,he,ha⟩;refine wpAny_leaves_madeW (base:=hideAll s.heap (pP (env::outer))) (h:=s.heap) (L:=s0.heap.objs.size) (outer:=outer) I.ok.frames rfl (λb o q=>of_hideAll _ q) (funFrames_hide fU v_) hm λh2 t fl tp nt up=>?_;refine⟨e,t,s0.heap.objs.size,_,s.heap,H,rfl,I.os,I.bare,⟨I.base,I.hok,λb o q nb nl=>hideAll_get _ q λz=>?_,nL,I.free,λb hb=>⟨I.ok.frf b hb,?_⟩⟩,fl,(Heap.UpToSlots.of_keeps hm.keeps).trans up,hm.new,hE⟩
 ·unfold pP at z;rw[ZS] at z;rcases Wn.mp z with z|z
  ·exact nl z
  ·exact nb z
 ·exact (I.ok.funs.mem hb).2
variable {np cpos:Pos}{e0:X4}{t:TA}
def ME (C:Ww)(E:XK)(t:TA):TS:=λ_ σ H=>t σ H λxs H1=>xs.length<=Wa/\E (.ref C) none H1
theorem EE (hx:mg x=some (.ref C))(hq:excIn K C AF "ValueError.__new__"=true)(hh:A.handled=none)
  (ha:PA (gP (CB P w C) P w K mg base N qual scope f bC A outer s0 H0 E) [e0] t) (hg:Gl (gP (CB P w C) P w K mg base N qual scope f bC A outer s0 H0 E) x:=by rfl) (hd:(x==("__debug__":Str))=false:=by decide)
  (he:Wm [e0] (Yq qual scope s0.heap.objs.size f bC)=(false,YX e0 (Yq qual scope s0.heap.objs.size f bC))::Wm [] (Yq qual scope s0.heap.objs.size f bC):=by rfl) :
  PS (gP (CB P w C) P w K mg base N qual scope f bC A outer s0 H0 E) (.Raise (some (.Call (.Name x np) [e0] [] cpos)) none pos) (ME C E t):=by
 intro pins s σ H D I h;obtain⟨tl,NN,nm,q,bs,hdct,sn,sub,ab,col,dd,k0,k1,k2,k3,k5,mN,hC,hN,hni,T⟩:=Iq I.ok.mod.kin hq;have FB:=F.excBase_ValueError;refine wpAny_Raise_call_subU (C:=C) (nm:=nm) (q:=q) (N:=NN) (bs:=bs) (bm:=tl) (hdct:=hdct) (sn:=sn) (sub:=sub) (ab:=ab) (col:=col) (dd:=dd) (k0:=k0) (k1:=k1) (k2:=k2) (k3:=k3) (k5:=k5) FB FB.hasB FB (mN:=mN) (T.hasType FB.hasBase) hh ?_ hni (jL I hg hx ⟨rfl,?_⟩ hd)
 ·show (Yp cpos (Wm [e0] (Yq qual scope s0.heap.objs.size f bC))).any (·.1)=false;rw[he];rfl
 ·show Wv _ _ (evalArgs (.ref C) true (Yp cpos (Wm [e0] (Yq qual scope s0.heap.objs.size f bC))) []) _ _ _;have h1:=ha cpos pins s σ H _ I h;have N5:Wm [e0] (gP (CB P w C) P w K mg base N qual scope f bC A outer s0 H0 E).env=(false,YX e0 (Yq qual scope s0.heap.objs.size f bC))::Wm [] (Yq qual scope s0.heap.objs.size f bC):=he;rw[N5] at h1;rw[he];refine aaO (cS h1 λus s2 ⟨xs,H2,I2,r2,l2,hE⟩=>?_);have kk:∀b o,base.get? b=some o->s2.heap.get? b=some o:=λb o z=>(I2.bs b o z).1;exact⟨rfl,by rw[←r2.length];exact l2,kk _ _ hC,hN.keeps kk,T.keeps kk,λh' e hm=>CC I2 hm hE⟩
end
end L2
end
section
set_option maxHeartbeats 400000
namespace L2
open PySem PySem.Spec PyProof.Rows
structure gj (k:Nat)(A:W2):Prop where
 dp:A.depth+3*k+5<abC
 un:A.units+16*k+200<XG
theorem gj.deeper {A:W2}(r:gj (k+1) A)(env:Env):gj k (A.deeper env):=
 ⟨by have:=r.dp;show A.depth+1+3*k+5<_;lia,by have:=r.un;show A.units+3+16*k+200<_;lia⟩
theorem gj.depth {A:W2}(r:gj k A):A.depth<abC:=by have:=r.dp;lia
structure EF (P:YG)(w:Xt)(K:Wc)(mg:Str->Option Wd)(base:Y5)(CX:CXT)(k:Nat)(f:Ww)(fd:Zu)(ps:List Str)(sp:Sp):Prop where
 len:∀vs H Q E,sp vs H Q E->vs.length=ps.length
 run:∀(A:W2) (outer:List Env) (s:Wr) (H:Hp) (args:Args) (us:List Wd) (vs:List V) (Q:VK) (E:XK),gj k A->BU P w K mg base A outer s H->BindsTo s fd args (ps.zip us)->aP vs us->sp vs H Q E->
  abD (WI P w) A (.call (.ref f) args) (CR CX outer P w H s Q E) s
noncomputable def xn (CX:CXT)(P:YG)(w:Xt)(K:Wc)(mg:Str->Option Wd)(base:Y5)(N:List Str)(qual:Str)(scope:abz)(f:Ww)(cd:Wd)(A:W2)(outer:List Env)(s:Wr)(H:Hp)(E:XK):Cx where
 prog:=P
 w:=w
 K:=K
 mg:=mg
 base:=base
 A:=A.deeper (Yq qual scope s.heap.objs.size f cd)
 N:=N
 s₀:=s
 H₀:=H
 env:=Yq qual scope s.heap.objs.size f cd
 outer:=outer
 stack:=Yq qual scope s.heap.objs.size f cd::outer
 ex:=[]
 calm:=false
 fn:=λ_=>true
 pn:=[]
 xe:=λe s'=>Wv (WI P w) (A.deeper (Yq qual scope s.heap.objs.size f cd)) (leaving (Yq qual scope s.heap.objs.size f cd) e) (λ_ Di=>CX outer H s E e Di) (λe' Di=>CX outer H s E e' Di) s'
theorem zf {w:Xt}{cd:Wd}{A:W2}{outer:List Env}{s1:Wr}{E:XK}{us:List Wd}(S:aR N ps scope)(e0:BU P w K mg base A outer s H)(hl:vs.length=ps.length)(r:aP vs us)(x:InCallC s s.heap.objs.size (bindL (Yq qual scope s.heap.objs.size f cd).kindOf (ps.zip us) λ_=>none) (cellsFrom (s.heap.objs.size+1) scope.names []) (bindC (Yq qual scope s.heap.objs.size f cd).kindOf (ps.zip us) λ_=>none) s1) :
  av (xn CX P w K mg base N qual scope f cd A outer s H E) [] (aa0 N vs) H s1:=by
 have j_:ps.length<=N.length:=by have:=congrArg aan S.pre;rw[Wx] at this;lia
 obtain⟨h1,tk,rfl,hk⟩:=x.done;have JA:∀b:Ww,b∉(xn CX P w K mg base N qual scope f cd A outer s H E).ex:=λb z=>absurd (show b∈([]:List Ww) from z) (by simp);refine⟨⟨e0.mod,S.kind,rfl,rfl,Wf _,λy z c h1 h2=>?_,λy hy=>?_,λy c _ h=>?_,λz=>absurd z V5,Around.frames_deeper e0.frames,.inr ⟨rfl,rfl⟩,λb z=>absurd z (JA b),e0.bs,e0.bsz,λb _ _=>JA b,λb z=>absurd z (JA b),e0.funs,e0.frf⟩,
  rfl,e0.bare,Un.kept hk,⟨_,x.toInCall.ns,λi y v h1 h2 h3=>?_⟩,λy c h=>⟨_,x.cell y c h⟩,e0.hok.fresh (Wf _),λy c h=>?_,λp hp=>absurd (show p∈([]:List (Ww×Obj)) from hp) (by simp),e0.hok.kept hk,?_⟩
 ·exact name_of_addr x.apart (W3 h1) (W3 h2)
 ·have hy:scope.names.lookup y=some .cell\/scope.names.lookup y=some .free:=hy;rcases hy with hy|hy
  ·exact kQ hy
  ·exact absurd rfl (S.nofree _ (W3 hy))
 ·exact abk (x.above y c (W3 h))
 ·have hi:i<vs.length:=by
   unfold aa0 at h2;by_cases hi:i<vs.length
   ·exact hi
   ·rw[Xw (by simpa using hi)] at h2;rw[Z6] at h2;split at h2<;>cases h2
  have ha:vs[i]? = some v:=by
   unfold aa0 at h2;rw[XS (by simpa using hi),Wu] at h2;cases e:vs[i]? with
   |none=>rw[e] at h2;cases h2
   |some a=>rw[e] at h2;cases h2;rfl
  obtain⟨u,hu,rv⟩:=r.get ha;have hp:ps[i]? = some y:=by
   rw[←S.pre,abM (by lia)];exact h1
  have Qw:ps.Nodup:=by rw[←S.pre];exact S.nd.sublist (List.take_sublist _ _)
  refine⟨u,rv,?_⟩;rcases S.par y (Xq hp) with k|k
  ·exact .inl ⟨k,mL Qw hp hu k⟩
  ·obtain⟨c,e⟩:=kQ (n:=s.heap.objs.size+1) k;refine .inr ⟨.inl k,c,e,?_⟩;have q:=x.cell y c e;rw[mM Qw hp hu (by show scope.names.lookup y≠_;rw[k];decide)] at q;exact q
 ·exact e0.hok.fresh (abk (x.above y c (W3 h)))
 ·unfold aa0;show _=N.length;rw[V9,V6,Zj];lia
theorem MG {w:Xt}{params:Arguments}{dV kV jF pm bC ct oc:Wd}(lk:K.lookup f=some ⟨oc,od,.func (XH name qual params body scope dV kV jF pm an bC ct),osl⟩)(iF:aax K bC qual=true)(S:aR N ps scope)(len:∀vs H Q E,sp vs H Q E->vs.length=ps.length)(eB:∀(A:W2) (outer:List Env) (s:Wr) (H:Hp) (vs:List V) (Q:VK) (E:XK),gj k (A.deeper (Yq qual scope s.heap.objs.size f bC))->sp vs H Q E->
   ∃t,pR (xn CX P w K mg base N qual scope f bC A outer s H E) body t/\t {nx:=λ_ H'=>Q .non H',rt:=Q} (aa0 N vs) H) :
  EF P w K mg base CX (k+1) f (XH name qual params body scope dV kV jF pm an bC ct) ps sp:=by
 refine⟨len,λA outer s H args us vs Q E hr e0 hb r GJ=>?_⟩;have hl:=len _ _ _ _ GJ;have KX:K.In s.heap:=e0.mod.kin.keeps λb o e=>(e0.bs b o e).1;have S1:s.heap.NoLimit:=e0.mod.nolimit.keeps λb o e=>(e0.bs b o e).1;have GK:∀y∈ps.zip us,scope.names.lookup y.1=some .local\/(scope.names.lookup y.1=some .cell/\((cellsFrom (s.heap.objs.size+1) scope.names []).lookup y.1).isSome=true):=fun⟨n,v⟩ hy=>by
  rcases S.par n (aaZ hy).1 with q|q
  ·exact .inl q
  ·exact .inr ⟨q,aah _ _ _ (.inl q)⟩
 refine codeAny_call_function hr.depth (KX _ _ lk) rfl S.co S.gen rfl (PySem.W.codeRec_of KX iF) (hb _ _ _ _ ?_);refine wpAny_newFunctionEnv_cells S.kind GK λenv he s1 x=>?_;subst he;refine⟨S1.keeps x.toInCall.keep,codeAny_func ?_⟩;obtain⟨t,ht,hq⟩:=eB A outer s H vs Q E (hr.deeper _) GJ;have I:av (xn CX P w K mg base N qual scope f bC A outer s H E) [] (aa0 N vs) H s1:=zf S e0 hl r x;refine Xg (ht [] s1 (aa0 N vs) H _ I hq) (λfl s' hs=>?_) λe s' hs=>hs;have fin:∀{σ':St} {H':Hp} {v:V} {u:Wd},av (xn CX P w K mg base N qual scope f bC A outer s H E) [] σ' H' s'->aM v u->Q v H'->CE outer P w H s Q u s' :=
  λ{σ' H' v u} J rv q=>⟨v,H',J.os,J.bare,J.base,J.hok,rv,q⟩
 cases fl with
 |ret u=>
  obtain⟨v,σ',H',J,rv,q⟩:=hs;exact fin J rv q
 |next=>
  obtain⟨σ',H',J,q⟩:=hs;exact fin (v:=V.non) (u:=Value.none) J rfl q
 |brk=>
  obtain⟨_,_,_,q⟩:=hs;exact XA q
 |cont=>
  obtain⟨_,_,_,q⟩:=hs;exact XA q
def Ir:V->List V->Hp->VK->Prop:=λx vs H Q=>∃a xs y,x=.ref a/\vs=[y]/\H a=some (.lst xs)/\jn y=true/\xs.all jn=true/\Q (.int (xs.countP λz=>Dd z y:Nat)) H
def Iu:V->List V->Hp->VK->Prop:=λx vs H Q=>∃a xs y j,x=.ref a/\vs=[y]/\H a=some (.lst xs)/\jn y=true/\xs.all jn=true/\j<1000/\xs[j]?.map (λz=>Dd z y)=some true/\
 (∀m,m<j->xs[m]?.map (λz=>Dd z y)=some false)/\Q (.int (j:Nat)) H
theorem t7:∀{xs:List V} {ao:List Wd} {y:V},aP xs ao->xs.all jn=true->ao.countP (LU y)=xs.countP λz=>Dd z y
 |_,_,_,.nil,_=>rfl
 |x::xs,u::us,y,.cons r t,f=>by
  rw[Yj,Wt] at f;rw[List.countP_cons,List.countP_cons,t7 t f.2,yI r f.1]
theorem CD:C_ X "list.count" Ir:=by
 intro pins s σ H x vs v us Q I rx rv h;obtain⟨a,xs,y,rfl,rfl,hs,fy,fx,q⟩:=h;cases rx;obtain⟨u,rfl,ru⟩:=rv.one;obtain⟨ao,n,r,ho,hz⟩:=I.lst hs;refine Y_ F.slot_list_count ⟨_,ho,rfl⟩ F.entry_list_count (F.args_list_count_2 _ _) (PySem.SeqAt.list_countAt a ao.toArray n none (List.toArray []) u (LU y)) ⟨ho,λw' hw=>pZ ru fy r fx w' (by simpa using hw),?_⟩;have e:ao.toArray.toList.countP (LU y)=xs.countP λz=>Dd z y:=by rw[List.toList_toArray];exact t7 r fx
 rw[e];exact⟨.int _,H,I.tok _,⟨_,rfl⟩,q⟩
theorem CF:C_ X "list.index" Iu:=by
 intro pins s σ H x vs v us Q I rx rv h;obtain⟨a,xs,y,j,rfl,rfl,hs,fy,fx,jl,hj,S3,q⟩:=h;cases rx;obtain⟨u,rfl,ru⟩:=rv.one;obtain⟨ao,n,r,ho,hz⟩:=I.lst hs;have get:∀{m:Nat} {b:Bool},xs[m]?.map (λz=>Dd z y)=some b->∃hm:m<ao.toArray.size,LU y ao.toArray[m]=b:=λ{m b} e=>by
  cases hx:xs[m]? with
  |none=>rw[hx] at e;cases e
  |some z=>
   rw[hx] at e;obtain⟨w',e1,e2⟩:=r.get hx;obtain⟨hm,e3⟩:=We.mp e1;refine⟨by simpa using hm,?_⟩;have fz:jn z=true:=WT.mp fx z (Xq hx);have:ao.toArray[m]=w':=by simpa using e3
   rw[this,yI e2 fz];exact WS e
 obtain⟨hm,hit⟩:=get hj;refine Y_ F.slot_list_index ⟨_,ho,rfl⟩ F.entry_list_index (F.args_list_index_2 _ _) (PySem.SeqAt.list_indexAt a ao.toArray n none (List.toArray []) u (LU y) j hm (by lia) hit λm V1 yo=>(get (S3 m yo)).2) ⟨ho,λw' hw=>pZ ru fy r fx w' (by simpa using hw),?_⟩;exact⟨.int j,H,I.tok _,⟨_,rfl⟩,q⟩
noncomputable def CH (ea C:Ww):HO:=.ext (lN ea C)
theorem Iv {w:Xt}{ea:Ww}(x:lN ea C h):bh P w H h ea (CH ea C):=by
 obtain⟨ox,e,c⟩:=id x;exact⟨x,⟨ox,e⟩,λh1 h2 ⟨o,e1,c1⟩ k=>⟨o,k o e1,c1⟩⟩
section
variable {ea:Ww}
def MJ (ea C:Ww)(D:V)(b:Bool):List V->Hp->VK->Prop:=λxs H Q=>xs=[.ref ea,D]/\H ea=some (CH ea C)/\Q (.bl b) H
theorem qA {D:V}{d:Wd}{b:Bool}(h:sP X.K C)(rd:∀u,aM D u->u=d)(e:X5 X.K (.ref C) d=some b):cU X (.builtin "isinstance") (MJ ea C D b):=by
 intro pins s σ H xs us Q I r q;obtain⟨rfl,hx,q⟩:=q;obtain⟨u,w',rfl,rx,rt⟩:=tF r;cases rx;rw[rd _ rt];obtain⟨mG,_⟩:=(show bh X.prog X.w H s.heap ea (CH ea C) from I.hok ea _ hx);exact XF (ED h) I.kIn mG e (λz=>nomatch z) λtk=>⟨.bl b,H,I.tok tk,rfl,q⟩
end
end L2
end
section
set_option maxHeartbeats 400000
namespace L2
open PySem PySem.Spec PyProof.Rows PySem.W
theorem EG {w:Xt}{o:HO}(x:bh P w H h a o):∃ob,h.get? a=some ob:=by
 cases o with
 |lst xs=>obtain⟨_,_,_,_,e⟩:=x;exact⟨_,e⟩
 |tup xs=>obtain⟨_,_,_,_,_,e⟩:=x;exact⟨_,e⟩
 |dK aN=>obtain⟨_,_,_,_,o,_,_,e,_⟩:=x;exact⟨_,e⟩
 |dT aN=>obtain⟨_,_,_,_,o,_,_,e,_⟩:=x;exact⟨_,e⟩
 |set S n=>obtain⟨o,_,_,_,e,_⟩:=x;exact⟨_,e⟩
 |ins C dx fs=>obtain⟨_,_,_,e,_⟩:=x;exact⟨_,e⟩
 |own y=>exact x
 |xd fs=>obtain⟨_,⟨_,_,_,e,_⟩,_⟩:=x;exact⟨_,e⟩
 |rng lo hi=>obtain⟨_,_,_,e⟩:=x;exact⟨_,e⟩
 |frz ob u=>obtain⟨e,_⟩:=x;exact⟨_,e⟩
 |tbl ps=>exact⟨_,(show h.get? a=some _ from x)⟩
 |met f y=>exact⟨_,(show h.get? a=some _ from x)⟩
 |ext φ=>obtain⟨_,e,_⟩:=x;exact e
section
variable {s1:Wr}{ea:Ww}
theorem av.track {o:HO}(I0:av X pins σ H s)(n0:s.heap.get? ea=none)(I:av X pins σ H1 s1)(n1:H1 ea=none)(x:bh X.prog X.w (bL H1 ea o) s1.heap ea o):av X pins σ (bL H1 ea o) s1:=by
 have ne:∀b ob,s.heap.get? b=some ob->b≠ea:=λb ob e z=>by rw[z,n0] at e;cases e
 have Vf:∀b ob,X.s₀.heap.get? b=some ob->b∉X.ex->b≠ea:=λb ob e hx=>by
  obtain⟨o',e'⟩:=I0.base.there b ob e hx;exact ne b o' e'
 have QN:∀{b u},H1 b=some u->b≠ea:=λ{b u} e z=>by rw[z,n1] at e;cases e
 refine⟨I.ok,I.os,I.bare,⟨I.base.keep,I.base.slot,λb ob e n hx=>?_,I.base.there,λb xs e=>?_,λb ob u e=>?_,λb ps e=>?_⟩,I.loc,I.cell,?_,λy c e=>?_,λp hp=>?_,λb u e=>?_,I.len⟩
 ·rw[aF (Vf b ob e hx)];exact I.base.free b ob e n hx
 ·have q:=I.base.tups b xs e;rw[aF (QN q)];exact q
 ·have q:=I.base.frzs b ob u e;rw[aF (QN q)];exact q
 ·obtain⟨m,q⟩:=I.base.tbls b ps e;exact⟨m,by rw[aF (QN q)];exact q⟩
 ·obtain⟨m,⟨oL,_,_,hL,_⟩,_⟩:=I0.loc;rw[aF (ne _ _ hL)];exact I.free
 ·obtain⟨v,oc,hc,_⟩:=I0.cell y c e;rw[aF (ne _ _ hc)];exact I.freeC y c e
 ·obtain⟨e,n,r⟩:=I.pin p hp;have e0:=(I0.pin p hp).1;exact⟨e,by rw[aF (ne _ _ e0)];exact n,r⟩
 ·by_cases hb:b=ea
  ·subst hb;rw[aH] at e;cases e;exact x
  ·rw[aF hb] at e;exact (I.hok b u e).stay (λc v _ q=>q) (λc q=>by rw[aF (QN q)];exact q) λc xs q=>by rw[aF (QN q)];exact q
theorem pG {A:W2}{Q:Unit->Wr->Prop}(I:av X pins σ H s)(hN:X.N.Nodup)(hi:X.N[i]? = some x)(hk:X.env.kindOf x=some .local)(h:∀s',av X pins (σ.set i none) H s'->Q () s'):Wv M A (do bindName X.env x .none;unbindBehindTheSuite X.env x pos) Q E s:=by
 obtain⟨m,hn,hl⟩:=id I.loc;have NL:(X.env.scope.kind==.class||(X.env.scope.kind==.module&&X.env.locals != X.env.globals))=false:=by rw[I.ok.kind];rfl
 have Rm:i<σ.length:=by rw[I.len];exact (We.mp hi).1
 obtain⟨oL,_,_,Le,_⟩:=id hn;refine wpAny_nameGoes_keeps hk hn NL λh' v SX hs=>h _ ?_;have Jz:∀b ob,X.s₀.heap.get? b=some ob->b≠X.env.locals:=λb ob e=>WA (WV (Wq e) I.ok.above);refine⟨I.ok,I.os,I.bare,⟨λb ob e n hb hx=>(hs.2 b (Jz b ob e)).trans (I.base.keep b ob e n hb hx),λb ob e n hb hx=>?_,I.base.free,λb ob e hx=>?_,I.base.tups,I.base.frzs,I.base.tbls⟩,⟨_,SX,λj y w e1 e2 e3=>?_⟩,λy c e=>?_,I.free,I.freeC,λp hp=>?_,?_,by simpa using I.len⟩
 ·obtain⟨sl,q⟩:=I.base.slot b ob e n hb hx;exact⟨sl,(hs.2 b (Jz b ob e)).trans q⟩
 ·obtain⟨o',q⟩:=I.base.there b ob e hx;exact⟨o',(hs.2 b (Jz b ob e)).trans q⟩
 ·have hj:j≠i:=λz=>by
   subst z;rw[Za Rm] at e2;cases e2
  rw[WQ (Ne.symm hj)] at e2;obtain⟨u,r,q⟩:=hl j y w e1 e2 e3;refine⟨u,r,?_⟩;rcases q with⟨k,e⟩|⟨k,c,e,z⟩
  ·have ny:y≠x:=λe=>hj (pQ hN e1 (e▸hi));exact .inl ⟨k,by simp[ny,e]⟩
  ·exact .inr ⟨k,c,e,z.sameBut hs (I.cne y c e)⟩
 ·obtain⟨v',z⟩:=I.cell y c e;exact⟨v',z.sameBut hs (I.cne y c e)⟩
 ·obtain⟨e,n,ne,nf,d⟩:=I.pin p hp;exact⟨(hs.2 p.1 ne).trans e,n,ne,nf,d⟩
 ·exact I.hok.keptT λb u ob e q=>(hs.2 b λz=>by rw[z,I.free] at e;cases e).trans q
noncomputable abbrev Cx.hand (X:Cx)(e:Wd):Cx:={X with A:=X.A.mark (some e),calm:=false,xe:=λ_ _=>False}
theorem av.hand (I:av X pins σ H s)(e:Wd):av (X.hand e) pins σ H s:=
 ⟨⟨I.ok.mod,I.ok.kind,I.ok.glob,I.ok.blt,I.ok.above,I.ok.inj,I.ok.has,I.ok.cab,λz=>absurd z V5,I.ok.frames,I.ok.stk,I.ok.exf,I.ok.bs,I.ok.bsz,I.ok.noex,I.ok.exfs,I.ok.funs,I.ok.frf⟩,I.os,I.bare,I.base,I.loc,I.cell,I.free,I.freeC,I.pin,I.hok,I.len⟩
theorem av.unhand {e:Wd}(I0:X.Ok)(I:av (X.hand e) pins σ H s):av X pins σ H s:=⟨I0,I.os,I.bare,I.base,I.loc,I.cell,I.free,I.freeC,I.pin,I.hok,I.len⟩
theorem EH {p:Pos}{a:X4}{t:TA}{e:Wd}(F:EF X.prog X.w X.K X.mg X.base uQ k f fd ps sp)(hr:gj k (X.A.mark (some e)))(hm:X.mg x=some (.ref f))(hk:XR X.K (.ref f)=true)(hb:jm X.K fd ps [])(ha:PA (X.hand e) [a] t)(hg:Gl (X.hand e) x:=by rfl)(v9:(x==("__debug__":Str))=false:=by decide)(he:Wm [a] X.env=(false,YX a X.env)::Wm [] X.env:=by rfl)(j_:(Yp pos (Wm [] X.env)).any (·.1)=false:=by rfl) :
  PE (X.hand e) (.Call (.Name x p) [a] [] pos) (Dz sp [] E0 t):=by
 intro pins s σ H Q I h;refine Zg (jL I hg hm ?_ v9);refine abp (h₀:=X.base) I.ok.mod.kin hk (cS (ha pos pins s σ H _ I h) λus s1 ⟨vs,H1,I1,r,q⟩=>⟨I1.kIn,?_⟩) he j_;have q:sp (vs++[]) H1 Q E0:=q;rw[WN] at q;have hl:us.length=ps.length:=by rw[←r.length];exact F.len _ _ _ _ q
 have Ti:BindsTo s1 fd ⟨us,[]⟩ (ps.zip us):=by
  have z:=hb s1 us I1.kIn (by rw[WN];exact hl);rw[WN] at z;exact z
 refine wpAny_call (ZX (F.run (X.A.mark (some e)) X.stack s1 H1 ⟨us,[]⟩ us vs Q E0 hr I1.env0 Ti r q) λr s' hq=>?_);cases r with
 |error e=>exact XA hq
 |ok fl=>
  cases fl with
  |ret u=>exact I1.after hq
  |next=>exact XA hq
  |brk=>exact XA hq
  |cont=>exact XA hq
end
noncomputable def Pw (D:km)(i:Nat):km:={nx:=λσ H=>D.nx (σ.set i none) H,rt:=D.rt,bk:=λσ H=>D.bk (σ.set i none) H,ct:=λσ H=>D.ct (σ.set i none) H}
def XE (C:Ww)(i:Nat)(th:TS)(D:km)(σ:St):XK:=λ_ _ H2=>∀ea,H2 ea=none->th (Pw D i) (σ.set i (some (.ref ea))) (bL H2 ea (CH ea C))
def Px (C:Ww)(i:Nat)(sp:Sp)(ta:TA)(th:TS):TS:=λD σ H=>ta σ H λvs H1=>sp vs H1 (λ_ _=>False) (XE C i th D σ)
section
variable {cc:Ww}{g cn n:Str}{p cp rp np hpos:Pos}{a:X4}{as:List X4}{b0:aaX}{suite:List aaX}{ta:TA}{th:TS}
theorem Iw (F:iI X.prog X.w X.K X.mg X.base (CB X.prog X.w C) k f fd ps sp)(hr:dw k X.A)(hm:X.mg g=some (.ref f))(Vg:XR X.K (.ref f)=true)(hb:jm X.K fd ps [])(fU:X.stack=X.env::X.outer)(Vh:X.env.frame=some X.env.locals)
  (hc:X.mg cn=some (.ref cc)) (QH:exmOne X.K (.ref C) (.ref cc)=some true) (hN:X.N.Nodup) (ha:PA X.nox (a::as) ta) (hs:∀ea,pR (X.hand (.ref ea)) (b0::suite) th)
  (hi:X.N[i]? = some n:=by rfl) (Ox:X.env.kindOf n=some .local:=by rfl) (hg:Gl X g:=by rfl) (Vi:Gl X cn:=by rfl) (v9:(g==("__debug__":Str))=false:=by decide) (Vj:(cn==("__debug__":Str))=false:=by decide)
  (he:Wm (a::as) X.env=(false,YX a X.env)::Wm as X.env:=by rfl) (j_:(Yp cp (Wm as X.env)).any (·.1)=false:=by rfl) :
  PS X (.Try [.Return (some (.Call (.Name g p) (a::as) [] cp)) rp] [.ExceptHandler (some (.Name cn np)) (some n) (b0::suite) hpos] [] [] pos) (Px C i sp ta th):=by
 intro pins s σ H D I h;have Vk:X.A.frames=some (X.env::X.outer):=by rw[←fU];exact I.ok.frames
 refine wpAny_Try_except ?_;refine wpAny_execs_cons (wpAny_Return_some ?_);refine Zg (jL (X:=X) I hg hm ?_ v9);refine abp (h₀:=X.base) I.ok.mod.kin Vg (Xg (ha cp pins s σ H _ (I.wish _) h) (λus s1 ⟨vs,H1,J1,r,q⟩=>⟨J1.unwish.kIn,?_⟩) λ_ _ z=>z.elim) he j_;have I1:=J1.unwish;have hl:us.length=ps.length:=by rw[←r.length];exact F.len _ _ _ _ q
 have Ti:BindsTo s1 fd ⟨us,[]⟩ (ps.zip us):=by
  have z:=hb s1 us I1.kIn (by rw[WN];exact hl);rw[WN] at z;exact z
 refine wpAny_call (ZX (F.run X.A X.stack s1 H1 ⟨us,[]⟩ us vs _ _ hr I1.env0 Ti r q) λr s' hq=>?_);cases r with
 |ok fl=>
  cases fl with
  |ret u=>
   obtain⟨v,H',_,_,_,_,_,z⟩:=hq;exact XA z
  |next=>exact XA hq
  |brk=>exact XA hq
  |cont=>exact XA hq
 |error e=>
  obtain⟨ea,t,L,B,rh,H2,rfl,os,bare,Fl,fl,up,nr,hE⟩:=hq;rw[fU] at fl;have n0:s1.heap.get? ea=none:=by
   cases z:s1.heap.get? ea with
   |none=>rfl
   |some ob=>
    obtain⟨o',z'⟩:=Fl.un.there ea ob z (by simp);rw[nr] at z';cases z'
  have n1:H2 ea=none:=by
   cases z:H2 ea with
   |none=>rfl
   |some ob=>
    obtain⟨o',z'⟩:=EG (Fl.hok ea ob z);rw[nr] at z';cases z'
  obtain⟨hh,gg,dd,tt,oo⟩:=s';have os:oo=s1.os:=os;subst os;refine wpAny_looks_onW Vk Vh fl λh4 QO Ui=>?_;refine wpAny_landsW QO λh5 Tj Uj=>?_;have I5:=I1.fly (h:=h5) (g':=gg) (d':=dd) (t':=tt) Fl Tj.1 (up.trans (Ui.trans Uj)) bare;refine wpAny_handleBy_cons (codeAny_handlers_test ?_) (by intro q;cases q);refine jL (X:=X.hand (.ref ea)) (I5.hand _) Vi hc ?_ Vj;obtain⟨ob,hob,hoc⟩:=Tj.there;have LT:Looks (WI X.prog X.w) h5 (typeOf (.ref ea)) (.ref C):=hoc▸(Looks.ld hob).andThen .now;refine (exm_one (M:=WI X.prog X.w) I5.kIn LT QH).at ?_;refine codeAny_handlers_suite_as ?_;refine lands_againW Tj λh6 Uk Vl=>?_;have I6:=I1.fly (h:=h6) (g':=gg) (d':=dd) (t':=tt) Fl Uk.1 ((up.trans (Ui.trans Uj)).trans Vl) bare;have I7:=av.track I1 n0 I6 n1 (Iv (C:=C) Uk.there);refine ji (X:=X.hand (.ref ea)) (I7.hand (.ref ea)) hN hi (.inl Ox) (show aM (.ref ea) (.ref ea) from rfl) (λs8 I8=>?_) (.inr Ox);refine Xg (hs ea pins s8 _ _ _ I8 (hE ea n1)) (λfl s9 hq=>?_) λ_ _ z=>z.elim;cases fl with
  |next=>
   obtain⟨σ',H',J,z⟩:=hq;exact pG (av.unhand I.ok J) hN hi Ox λs' K=>⟨_,_,K,z⟩
  |brk=>
   obtain⟨σ',H',J,z⟩:=hq;exact pG (av.unhand I.ok J) hN hi Ox λs' K=>⟨_,_,K,z⟩
  |cont=>
   obtain⟨σ',H',J,z⟩:=hq;exact pG (av.unhand I.ok J) hN hi Ox λs' K=>⟨_,_,K,z⟩
  |ret u=>
   obtain⟨v,σ',H',J,rv,z⟩:=hq;exact pG (av.unhand I.ok J) hN hi Ox λs' K=>⟨v,_,_,K,rv,z⟩
theorem Iy {h0:ExceptHandler}{hs:List ExceptHandler}(hb:pR X.nox body tb):PS X (.Try body (h0::hs) [] [] pos) tb:=by
 intro pins s σ H D I h;refine wpAny_Try_except (Xg (hb pins s σ H D (I.wish _) h) (λfl s1 q=>?_) λ_ _ z=>z.elim);cases fl with
 |next=>exact Z3 q.unwish
 |brk=>exact q.unwish
 |cont=>exact q.unwish
 |ret u=>exact q.unwish
end
end L2
end
section
set_option maxHeartbeats 400000
namespace L2
open PySem PySem.Spec PyProof.Rows PySem.W
theorem MK {K:Frag}{b:Wd}{r:Bool}(h:mroIn K C b=some r):(clsIn K C).isSome=true:=by
 unfold mroIn at h;cases e:clsIn K C with
 |none=>rw[e] at h;cases h
 |some cd=>rfl
structure EI (K:Frag)(mg:Str->Option Wd)(C:Ww)(x:Str)(ms:List (Str×Bool)):Prop where
 cls:mg x=some (.ref C)
 exc:excIn K C AF "ValueError.__new__"=true
 ec:sP K C
 card:∃c,mg "CardError"=some (.ref c)/\exmOne K (.ref C) (.ref c)=some true
 ve:kitOne K (.ref C) (.type "ValueError")=some true
 zve:mg "ValueError"=none
 marks:∀p∈ms,∃c,mg p.1=some (.ref c)/\kitOne K (.ref C) (.ref c)=some p.2
def TJ (K:Frag)(n:Nat)(C:Ww)(p:List U->Prop):Sp:=λvs H _ E=>∃us A,aA K H A us vs/\(∀a,A a->Mu (H a))/\us.length=n/\p us/\∀H',aG H H'->E (.ref C) none H'
def ML (C:Ww)(Tn:Str):Sp:=λvs H Q _=>∃ea,vs=[.ref ea]/\H ea=some (CH ea C)/\∀H',aG H H'->Q (.str Tn) H'
theorem CI {K:Frag}{A0:Ww->Prop}(r:aA K H A0 us vs)(mu:∀a,A0 a->Mu (H a))(BH:G.io=false)(jG:∀i,i<us.length->G.is i=false):cb K G ⟨A0,H,0⟩ A0 (bJ N.length us) (aa0 N vs) H where
 slot:=λi u hu=>by
  have hu:=iM hu;obtain⟨v,h1,h2⟩:=r.get hu;refine⟨v,iq h1,?_⟩;rw[hV (by rw[jG i (We.mp hu).1];exact V5)];exact h2
 dis:=λi j u w a ci cj ne hi hj si sj=>by
  rw[jG i (We.mp (iM hi)).1] at ci;cases ci
 mu:=mu
 sup:=λa h=>h
 out:=λa h=>.inl h
 bas:=λa o h=>h
 io0:=λh=>by rw[BH] at h;cases h
 len:=u3 r.length
theorem aG.updN {o:HO}(h:aG H H')(n:H' a=none):aG H (bL H' a o):=λb ob e=>by
 have q:=h b ob e;rw[aF (ba q n)];exact q
section
variable {ea:Ww}{y:Str}{b:Bool}{p1 p3:Pos}
def EJ (i:Nat)(C:Ww)(b:Bool):TE:=λσ H Q=>∃ea,σ[i]? = some (some (.ref ea))/\H ea=some (CH ea C)/\Q (.bl b) H
theorem gm (h:sP X.K C)(zi:X.mg "isinstance"=none)(hc:∃c,X.mg y=some (.ref c)/\kitOne X.K (.ref C) (.ref c)=some b)(hN:X.N[i]? = some x:=by rfl)(hv:yx X.env.scope x:=by first|exact Or.inl rfl|exact Or.inr (Or.inl rfl)|exact Or.inr (Or.inr rfl))(hg:Gl X "isinstance":=by rfl)(hy:Gl X y:=by rfl)
  (hd:(x==("__debug__":Str))=false:=by decide) (iF:(x==("__classdict__":Str))=false:=by decide) (JG:(y==("__debug__":Str))=false:=by decide)
  (hs:Wm [.Name x p2,.Name y p3] X.env=(false,YX (.Name x p2) X.env)::Wm [.Name y p3] X.env:=by rfl) (bK:Wm [.Name y p3] X.env=(false,YX (.Name y p3) X.env)::Wm [] X.env:=by rfl)
  (j_:(Yp pos (Wm [.Name y p3] X.env)).any (·.1)=false:=by rfl):PE X (.Call (.Name "isinstance" p1) [.Name x p2,.Name y p3] [] pos) (EJ i C b):=by
 obtain⟨c,hm,hk⟩:=hc;intro pins s σ H Q I hq;obtain⟨ea,e1,e2,q⟩:=hq;exact f7 (qA (ea:=ea) (D:=.ref c) h (λu hu=>hu) hk) hg zi eW (aO (eJ hN hv hd iF) (aO (uK (v:=.ref c) hy hm rfl JG) cT bK) hs) (by decide) (by decide) hs j_ pins s σ H Q I ⟨_,e1,rfl,e2,q⟩
theorem EK (h:sP X.K C)(zi:X.mg "isinstance"=none)(zv:X.mg "ValueError"=none)(hk:kitOne X.K (.ref C) (.type "ValueError")=some b)(hN:X.N[i]? = some x:=by rfl)(hv:yx X.env.scope x:=by first|exact Or.inl rfl|exact Or.inr (Or.inl rfl)|exact Or.inr (Or.inr rfl))(hg:Gl X "isinstance":=by rfl)(hy:Gl X "ValueError":=by rfl)
  (hd:(x==("__debug__":Str))=false:=by decide) (iF:(x==("__classdict__":Str))=false:=by decide)
  (hs:Wm [.Name x p2,.Name "ValueError" p3] X.env=(false,YX (.Name x p2) X.env)::Wm [.Name "ValueError" p3] X.env:=by rfl) (bK:Wm [.Name "ValueError" p3] X.env=(false,YX (.Name "ValueError" p3) X.env)::Wm [] X.env:=by rfl)
  (j_:(Yp pos (Wm [.Name "ValueError" p3] X.env)).any (·.1)=false:=by rfl):PE X (.Call (.Name "isinstance" p1) [.Name x p2,.Name "ValueError" p3] [] pos) (EJ i C b):=by
 intro pins s σ H Q I hq;obtain⟨ea,e1,e2,q⟩:=hq;have bt:W6 "ValueError"=some (.type "ValueError"):=by decide+kernel
 exact f7 (qA (ea:=ea) (D:=.ty "ValueError") h (λu hu=>hu) hk) hg zi eW (aO (eJ hN hv hd iF) (aO (ph (v:=.ty "ValueError") hy zv bt rfl (by decide) (by decide)) cT bK) hs) (by decide) (by decide) hs j_ pins s σ H Q I ⟨_,e1,rfl,e2,q⟩
end
theorem Iz {m:Md}{h0:ExceptHandler}{hs:List ExceptHandler}{g:Ev->SR}(h:tQ X.nox G m body g):DS X G m (.Try body (h0::hs) [] [] pos) g:=⟨Iy h.un⟩
end L2
end
namespace L2
theorem nr {α:Sort _}{a b:α}(h:a=b):a=b:=h
noncomputable def look (o:Option (Option U))(ρ:Ev):R (U×Ev):=match o with
 |some (some u)=>.ok (u,ρ)
 |_=>.stk
noncomputable def TL (u:U)(ρ:Ev):R (Bool×Ev):=match u with
 | .bl c=>.ok (c,ρ)
 |_=>.stk
noncomputable def Q_ (o:Option U):R U:=match o with
 |some u=>.ok u
 |none=>.stk
noncomputable def SR.seq (r:SR)(g:Ev->SR):SR:=match r with
 | .nx ρ=>g ρ
 |r=>r
noncomputable def SR.turn (r:SR)(g:Ev->SR):SR:=match r with
 | .nx ρ=>g ρ
 | .ct ρ=>g ρ
 | .bk ρ=>.nx ρ
 |r=>r
noncomputable def CJ (m:Md)(r:SR):R U:=match r with
 | .rt u _=>.ok u
 | .nx _=>if m=.S then .ok .non else .stk
 | .exc c u=>.exc c u
 |_=>.stk
noncomputable def io0 (u:U)(o:Option (Option U)):R (U×U):=match o with
 |some (some w)=>.ok (u,w)
 |_=>.stk
noncomputable def MM (r:SR):R (U×U):=match r with
 | .rt u ρ=>io0 u ρ[0]?
 | .nx ρ=>io0 .non ρ[0]?
 | .exc c u=>.exc c u
 |_=>.stk
section
variable {w:U}{α β:Type}{g g1 g2 g3:Ev->R (U×Ev)}{h h1 h2:Ev->R (Bool×Ev)}{s s1 s2:Ev->SR}{ga:Ev->R (List U×Ev)}{m:Md}{ws:List U}
theorem JY:aa i ρ=look ρ[i]? ρ:=nr rfl
theorem EL:look (some (some u)) ρ=.ok (u,ρ):=nr rfl
theorem TM:gC u ρ=.ok (u,ρ):=nr rfl
theorem CK {a:α}{f:α->R β}:(R.ok a).bind f=f a:=nr rfl
theorem JZ {f:α->R β}:(R.stk:R α).bind f=.stk:=nr rfl
theorem AG {a:α}{f:α->SR}:SR.of (R.ok a) f=f a:=nr rfl
theorem Py {p:U->U->R U}:aW p g1 g2 ρ=(g1 ρ).bind λx=>(g2 x.2).bind λy=>(p x.1 y.1).bind λz=>.ok (z,y.2):=nr rfl
theorem TN:gB g ρ=(g ρ).bind λx=>TL x.1 x.2:=nr rfl
theorem J0 {c:Bool}:TL (.bl c) ρ=.ok (c,ρ):=nr rfl
theorem EM:Ed h1 h2 ρ=(h1 ρ).bind λx=>if x.1=true then h2 x.2 else .ok (false,x.2):=nr rfl
theorem J2:HL h1 h2 ρ=(h1 ρ).bind λx=>if x.1=true then .ok (true,x.2) else h2 x.2:=nr rfl
theorem EN:sO h ρ=(h ρ).bind λx=>.ok (!x.1,x.2):=nr rfl
theorem J3:L_ g1 g2 ρ=(gB g1 ρ).bind λx=>if x.1=true then g2 x.2 else .ok (.bl false,x.2):=nr rfl
theorem Pz:Ux g1 g2 ρ=(gB g1 ρ).bind λx=>if x.1=true then .ok (.bl true,x.2) else g2 x.2:=nr rfl
theorem J5:R4 g ρ=(gB g ρ).bind λx=>.ok (.bl (!x.1),x.2):=nr rfl
theorem PB:Uy h g1 g2 ρ=(h ρ).bind λx=>if x.1=true then g1 x.2 else g2 x.2:=nr rfl
noncomputable def TQ (p':U->U->R U)(g3:Ev->R (U×Ev))(y:U×Ev)(z:U):R (U×Ev):=match z with
 | .bl k=>if k=true then (g3 y.2).bind λw=>(p' y.1 w.1).bind λz'=>.ok (z',w.2) else .ok (.bl false,y.2)
 |_=>.stk
theorem AH {p p':U->U->R U}:Mc p p' g1 g2 g3 ρ=(g1 ρ).bind λx=>(g2 x.2).bind λy=>(p x.1 y.1).bind λz=>TQ p' g3 y z:=nr rfl
theorem J6 {p':U->U->R U}{y:U×Ev}{k:Bool}:TQ p' g3 y (.bl k)=if k=true then (g3 y.2).bind λw=>(p' y.1 w.1).bind λz'=>.ok (z',w.2) else .ok (.bl false,y.2):=nr rfl
theorem PD {p:U->R U}:Uz p g ρ=(g ρ).bind λx=>(p x.1).bind λz=>.ok (z,x.2):=nr rfl
theorem EO:aq ρ=.ok ([],ρ):=nr rfl
theorem AI:ae g ga ρ=(g ρ).bind λx=>(ga x.2).bind λy=>.ok (x.1::y.1,y.2):=nr rfl
theorem ER:i7 ga ρ=(ga ρ).bind λx=>if x.1.length<=Wa then .ok (.tup x.1,x.2) else .stk:=nr rfl
theorem ES:cM ga ρ=(ga ρ).bind λx=>if x.1.length<=Wa then .ok (.lst x.1,x.2) else .stk:=nr rfl
theorem PF {p:List U->R U}:fO p ga ρ=(ga ρ).bind λx=>(p x.1).bind λz=>.ok (z,x.2):=nr rfl
theorem PH {f:List U->R U}:ip n f ga ρ=(ga ρ).bind λx=>(wN n f x.1).bind λz=>.ok (z,x.2):=nr rfl
theorem J7 {f:List U->R α}(h:us.length=n):wN n f us=f us:=hZ h
noncomputable def TR (n:Nat)(f:List U->R (U×U))(us:List U)(i:Nat)(ρ:Ev)(o:Option (Option U)):R (U×Ev):=match o with
 |some (some u0)=>(wN n f (u0::us)).bind λz=>.ok (z.1,ρ.set i (some z.2))
 |_=>.stk
theorem J8 {f:List U->R (U×U)}:TR n f us i ρ (some (some u))=(wN n f (u::us)).bind λz=>.ok (z.1,ρ.set i (some z.2)):=nr rfl
noncomputable def AJ (o:Option (Option U)):Bool:=match o with
 |some (some _)=>true
 |_=>false
theorem AK:AJ (some (some u))=true:=nr rfl
theorem PJ {f:List U->R (U×U)}:jQ n i f ga ρ=if AJ ρ[i]? = true then (ga ρ).bind λx=>TR n f x.1 i x.2 x.2[i]? else .stk:=nr rfl
noncomputable def Sj (i:Nat)(p:U->List U->R (U×U))(us:List U)(ρ:Ev)(o:Option (Option U)):R (U×Ev):=match o with
 |some (some u0)=>(p u0 us).bind λz=>.ok (z.1,ρ.set i (some z.2))
 |_=>.stk
theorem J9 {p:U->List U->R (U×U)}:Sj i p us ρ (some (some u))=(p u us).bind λz=>.ok (z.1,ρ.set i (some z.2)):=nr rfl
noncomputable def TU (T:String)(i:Nat)(p:U->List U->R (U×U))(ga:Ev->R (List U×Ev))(ρ:Ev)(o:Option (Option U)):R (U×Ev):=match o with
 |some (some u1)=>if B7 u1 T=true then (ga ρ).bind λx=>Sj i p x.1 x.2 x.2[i]? else .stk
 |_=>.stk
theorem J_ {T:String}{p:U->List U->R (U×U)}:TU T i p ga ρ (some (some u))=if B7 u T=true then (ga ρ).bind λx=>Sj i p x.1 x.2 x.2[i]? else .stk:=nr rfl
theorem TV {T:String}{p:U->List U->R (U×U)}:gM T i p ga ρ=TU T i p ga ρ ρ[i]? := nr rfl
theorem ET:B7 (.lst us) "list"=true:=nr rfl
theorem AL:bN ρ=.ok (none,ρ):=nr rfl
noncomputable def TX (u:U)(ρ:Ev):R (Option Int×Ev):=match u with
 | .int i=>.ok (some i,ρ)
 |_=>.stk
theorem Ka {k:Int}:TX (.int k) ρ=.ok (some k,ρ):=nr rfl
theorem AM:bE g ρ=(g ρ).bind λx=>TX x.1 x.2:=nr rfl
theorem PL {p:U->Option Int->Option Int->R U}{lo hi:Ev->R (Option Int×Ev)}:j7 p g lo hi ρ=(g ρ).bind λx=>(lo x.2).bind λl=>(hi l.2).bind λh=>(p x.1 l.1 h.1).bind λz=>.ok (z,h.2):=nr rfl
noncomputable def g7 (T:String)(u:U)(ρ:Ev):R (U×Ev):=if Ce u="script" then .stk else .ok (.bl (dF (Ce u) T),ρ)
theorem EU {T:String}:lH T g ρ=(g ρ).bind λx=>g7 T x.1 x.2:=nr rfl
theorem EV:bF ρ=.nx ρ:=nr rfl
theorem AN:Mf ρ=.bk ρ:=nr rfl
theorem EW:Ph ρ=.ct ρ:=nr rfl
theorem EX:aD s1 s2 ρ=(s1 ρ).seq s2:=nr rfl
theorem EY:(SR.nx ρ).seq s=s ρ:=nr rfl
theorem EZ:(SR.rt u ρ).seq s=.rt u ρ:=nr rfl
theorem E1:(SR.bk ρ).seq s=.bk ρ:=nr rfl
theorem E2:(SR.ct ρ).seq s=.ct ρ:=nr rfl
theorem E3:ke g ρ=SR.of (g ρ) λx=>.nx x.2:=nr rfl
theorem Kb:bA g ρ=SR.of (g ρ) λx=>.rt x.1 x.2:=nr rfl
theorem Kc:aX i g ρ=SR.of (g ρ) λx=>.nx (x.2.set i (some x.1)):=nr rfl
theorem Kd {sg:U->Ev->R Ev}:R8 sg g ρ=SR.of (g ρ) λx=>SR.of (sg x.1 x.2) .nx:=nr rfl
theorem Ke:jt h s1 s2 ρ=SR.of (h ρ) λx=>if x.1=true then s1 x.2 else s2 x.2:=nr rfl
noncomputable def TY (i j:Nat)(ρ:Ev)(o:Option (Option U)):SR:=match o with
 |some (some u)=>.nx ((ρ.set j none).set i (some u))
 |_=>.stk
theorem E4:lh i j ρ=TY i j ρ ρ[j]? := nr rfl
theorem Kg:TY i j ρ (some (some u))=.nx ((ρ.set j none).set i (some u)):=nr rfl
noncomputable def PM (i j:Nat)(us:List U)(ρ:Ev):SR:=match us with
 | [u,w]=>.nx ((ρ.set i (some u)).set j (some w))
 |_=>.stk
theorem Kh:HW i j ga ρ=SR.of (ga ρ) λx=>PM i j x.1 x.2:=nr rfl
theorem E5:PM i j [u,w] ρ=.nx ((ρ.set i (some u)).set j (some w)):=nr rfl
noncomputable def Ra (i:Nat)(v k:U)(ρ:Ev)(o:Option (Option U)):SR:=match k with
 | .int k=>match o with
  |some (some (.lst us))=>match yG us.length k with
   |some j=>.nx (ρ.set i (some (.lst (us.set j v))))
   |none=>.stk
  |_=>.stk
 |_=>.stk
theorem E6:tU i g1 g2 ρ=SR.of (g1 ρ) λx=>if AJ x.2[i]? = true then SR.of (g2 x.2) λy=>Ra i x.1 y.1 y.2 y.2[i]? else .stk:=nr rfl
theorem Ki {k:Int}(h:yG us.length k=some j):Ra i w (.int k) ρ (some (some (.lst us)))=.nx (ρ.set i (some (.lst (us.set j w)))):=by
 unfold Ra;dsimp only;rw[h]
noncomputable def PN (i:Nat)(p:U->U->R U)(g:Ev->R (U×Ev))(ρ:Ev)(o:Option (Option U)):SR:=match o with
 |some (some u)=>SR.of (g ρ) λy=>SR.of (p u y.1) λz=>.nx (y.2.set i (some z))
 |_=>.stk
theorem Kj {p:U->U->R U}:R9 i p g ρ=PN i p g ρ ρ[i]? := nr rfl
theorem E7 {p:U->U->R U}:PN i p g ρ (some (some u))=SR.of (g ρ) λy=>SR.of (p u y.1) λz=>.nx (y.2.set i (some z)):=nr rfl
theorem Kk {gi:Ev->R (List U×Ev)}{sg:U->Ev->R Ev}:fD gi sg s ρ=SR.of (gi ρ) λx=>cV sg s x.1 x.2:=nr rfl
theorem vc {sg:U->Ev->R Ev}:cV sg s [] ρ=.nx ρ:=nr rfl
theorem ir:cV sg s (u::us) ρ=SR.of (sg u ρ) λρ1=>(s ρ1).turn (cV sg s us):=nr rfl
theorem vd:(SR.nx ρ).turn s=s ρ:=nr rfl
theorem AO:(SR.ct ρ).turn s=s ρ:=nr rfl
theorem AQ:(SR.bk ρ).turn s=.nx ρ:=nr rfl
theorem vf:(SR.rt u ρ).turn s=.rt u ρ:=nr rfl
theorem fP:bG h s (n+1) ρ=SR.of (h ρ) λx=>if x.1=true then (s x.2).turn (bG h s n) else .nx x.2:=nr rfl
noncomputable def vg (u:U)(ρ:Ev):R (List U×Ev):=match u with
 | .lst us=>.ok (us,ρ)
 | .tup us=>.ok (us,ρ)
 | .scr us=>.ok (us,ρ)
 |_=>.stk
theorem E8:gQ g ρ=(g ρ).bind λx=>vg x.1 x.2:=nr rfl
theorem E9:vg (.lst us) ρ=.ok (us,ρ):=nr rfl
theorem zg:vg (.tup us) ρ=.ok (us,ρ):=nr rfl
theorem E_:vg (.scr us) ρ=.ok (us,ρ):=nr rfl
noncomputable def MN (us:List U)(ρ:Ev):R (List U×Ev):=match us with
 | [.int j]=>if -1000000<=j/\j<=1000000 then .ok (aE 0 j.toNat,ρ) else .stk
 |_=>.stk
theorem Fb:fh ga ρ=(ga ρ).bind λx=>MN x.1 x.2:=nr rfl
theorem MO {k:Int}:MN [.int k] ρ=if -1000000<=k/\k<=1000000 then .ok (aE 0 k.toNat,ρ) else .stk:=nr rfl
noncomputable def Fc (us:List U)(ρ:Ev):R (U×Ev):=match us with
 | [.int j]=>if xb 0 j=true then .ok (.lst (aE 0 (j-0).toNat),ρ) else .stk
 |_=>.stk
noncomputable def Fd (us:List U)(ρ:Ev):R (U×Ev):=match us with
 | [.int j]=>if xb 0 j=true then .ok (.tup (aE 0 (j-0).toNat),ρ) else .stk
 |_=>.stk
theorem Fe:Au ga ρ=(ga ρ).bind λx=>Fc x.1 x.2:=nr rfl
theorem Ff:qx ga ρ=(ga ρ).bind λx=>Fd x.1 x.2:=nr rfl
theorem Kl {k:Int}(h0:0<=k)(h1:k<=1000000):xb 0 k=true:=by
 unfold xb;simp only[Wt,decide_eq_true_eq];lia
theorem AR (n:Nat)(h:n<=1000000):Fc [.int n] ρ=.ok (.lst (aE 0 n),ρ):=by
 unfold Fc;dsimp only;rw[hZ (Kl (by lia) (by lia)),show ((n:Int)-0).toNat=n by lia]
theorem iS (n:Nat)(h:n<=1000000):Fd [.int n] ρ=.ok (.tup (aE 0 n),ρ):=by
 unfold Fd;dsimp only;rw[hZ (Kl (by lia) (by lia)),show ((n:Int)-0).toNat=n by lia]
theorem jy (n:Nat)(h:n<=1000000):MN [.int n] ρ=.ok (aE 0 n,ρ):=by
 rw[MO,hZ (by lia)];rfl
theorem Km {gi:Ev->R (List U×Ev)}{js:List (Option Nat)}{sg:U->Ev->R Ev}:j8 gi js sg h g ρ=(gi ρ).bind λx=>(wu (yT js sg h g x.2) x.1).bind λys=>.ok (.lst ys,x.2):=nr rfl
theorem Kn {G:Gm}{gi:Ev->R (List U×Ev)}{js:List (Option Nat)}{sg:U->Ev->R Ev}:uZ G gi js sg h g ρ=(gi ρ).bind λx=>(mZ G js sg h g x.1 x.2).bind λy=>.ok (.lst y.1,y.2):=nr rfl
theorem Fg {js:List (Option Nat)}{sg:U->Ev->R Ev}:yT js sg h g ρ u=(sg u (iK js ρ)).bind λρi=>(h ρi).bind λc=>if c.1=true then (g ρi).bind λy=>.ok (some y.1) else .ok none:=nr rfl
theorem Fh {G:Gm}{js:List (Option Nat)}{sg:U->Ev->R Ev}:mZ G js sg h g [] ρ=.ok ([],ρ):=nr rfl
theorem MP:mZ G js sg h g (u::us) ρ=(sg u (iK js ρ)).bind λρi=>(h ρi).bind λc=>if c.1=true then (g c.2).bind λy=>(mZ G js sg h g us (wb G js y.2 ρ)).bind λr=>.ok (y.1::r.1,r.2) else mZ G js sg h g us (wb G js c.2 ρ):=nr rfl
theorem Fi:d9 ρ=.ok (true,ρ):=nr rfl
theorem Ko:cE i u ρ=.ok (ρ.set i (some u)):=nr rfl
theorem PQ:Q0 ρ=.ok (.dct [] [],ρ):=nr rfl
theorem Fj:fi m n s us=CJ m (s (bJ n us)):=nr rfl
theorem AS:CJ m (.rt u ρ)=.ok u:=nr rfl
theorem Fm:yU n s us=MM (s (bJ n us)):=nr rfl
theorem AU:MM (.rt u ρ)=io0 u ρ[0]? := nr rfl
theorem Kp:io0 u (some (some w))=.ok (u,w):=nr rfl
theorem xo {ρ:Ev}:iK [] ρ=[]:=nr rfl
theorem t9 {js:List (Option Nat)}:iK (none::js) ρ=none::iK js ρ:=nr rfl
theorem t_ {js:List (Option Nat)}:iK (some j::js) ρ=(ρ[j]?).getD none::iK js ρ:=by
 unfold iK;rw[V_];congr 1;dsimp only;cases ρ[j]? <;> rfl
end
section
variable {i j k:Int}{ws:List U}{w:U}{lo:Option Int}
theorem Fo:bV (.int i) (.int j)=.ok (.int (i+j)):=nr rfl
theorem Fp:bV (.tup us) (.tup ws)=if us.length+ws.length<=Wa then .ok (.tup (us++ws)) else .stk:=nr rfl
theorem Fq:bV (.lst us) (.lst ws)=if us.length+ws.length<=Wa then .ok (.lst (us++ws)) else .stk:=nr rfl
theorem Kq:H_ (.int i) (.int j)=.ok (.int (i-j)):=nr rfl
theorem Kr:lC (.int i) (.int j)=if m8 i j=true then .ok (.int (i*j)) else .stk:=nr rfl
theorem zh:nZ (.int i) (.int j)=if wZ i j=true then .ok (.int (i / j)) else .stk:=nr rfl
theorem Ks:oV (.int i) (.int j)=if decide (0<j)=true then .ok (.int (i % j)) else .stk:=nr rfl
theorem Kt:Ic (.int i) (.int j)=if Ib i j=true then .ok (.int (i ^ j.toNat)) else .stk:=nr rfl
theorem Ku:R_ (.int i)=.ok (.int (-i)):=nr rfl
theorem PR:Sa (.int i) (.int j)=.ok (.bl (decide (i<j))):=nr rfl
theorem PU:QZ (.int i) (.int j)=.ok (.bl (decide (i<=j))):=nr rfl
theorem PV:G1 (.int i) (.int j)=.ok (.bl (decide (j<i))):=nr rfl
theorem PX:Sb (.int i) (.int j)=.ok (.bl (decide (j<=i))):=nr rfl
theorem Kv:n6 (.lst us) (.int i)=Q_ (ku us i):=by show (match ku us i with|some z=>R.ok z|none=>.stk)=_;cases ku us i<;>rfl
theorem Kw:n6 (.tup us) (.int i)=Q_ (ku us i):=by show (match ku us i with|some z=>R.ok z|none=>.stk)=_;cases ku us i<;>rfl
theorem Kx:n6 (.scr us) (.int i)=Q_ (ku us i):=by show (match ku us i with|some z=>R.ok z|none=>.stk)=_;cases ku us i<;>rfl
theorem Ky:Q_ (some u)=.ok u:=nr rfl
theorem Kz:jg (.lst us) lo hi=.ok (.lst (gR us lo hi)):=nr rfl
theorem KA:jg (.tup us) lo hi=.ok (.tup (gR us lo hi)):=nr rfl
theorem KC:jg (.scr us) lo hi=.ok (.lst (gR us lo hi)):=nr rfl
theorem Fs:lE [.lst us]=.ok (.int us.length):=nr rfl
theorem Ft:lE [.tup us]=.ok (.int us.length):=nr rfl
theorem Fu:lE [.scr us]=.ok (.int us.length):=nr rfl
theorem Fv:gf [.lst us]=.ok (.tup us):=nr rfl
theorem Fw:gf [.tup us]=.ok (.tup us):=nr rfl
theorem Fx:n9 [.lst us]=.ok (.lst us):=nr rfl
theorem Fy:n9 [.tup us]=.ok (.lst us):=nr rfl
theorem KD {a b:Bool}{f:Bool->Bool}:Se f (.bl a) (.bl b)=.ok (.bl (f (decide (a=b)))):=nr rfl
theorem KG {f:Bool->Bool}:Sd f u .non=.ok (.bl (f (JR u))):=nr rfl
theorem Fz:qv [.int i,.int j]=.ok (.int (if j<i then j else i)):=nr rfl
theorem FA:w9 [.int i,.int j]=.ok (.int (if j>i then j else i)):=nr rfl
theorem PY {f:Bool->Bool}:yW f u w=(m9 u w).bind λb=>.ok (.bl (f b)):=nr rfl
theorem uc (n:Nat):ku us (n:Int)=us[n]? := by
 unfold ku yG;by_cases h:n<us.length
 ·rw[hZ (by lia),hZ (by lia)];rfl
 ·rw[hZ (by lia),hV (by lia)];rw[Xz.mpr (by lia)];rfl
theorem KI:ku us 0=us[0]? := uc 0
theorem KJ:ku us 1=us[1]? := uc 1
theorem KL:ku us 2=us[2]? := uc 2
theorem PZ (h:0<us.length):yG us.length 0=some 0:=by unfold yG;rw[hZ (by lia),hZ (by lia)];rfl
theorem vh (h0:0<j)(h1:j<18446744073709551616):wZ i j=true:=by unfold wZ;simp[h0,h1]
theorem qB (h0:0<=i)(h1:i<18446744073709551616):m8 i j=true:=by
 unfold m8;simp only[Zn,Wt,decide_eq_true_eq];exact .inl ⟨(by lia),(by lia)⟩
theorem MQ (h0:0<=j)(h1:j<18446744073709551616):m8 i j=true:=by
 unfold m8;simp only[Zn,Wt,decide_eq_true_eq];exact .inr ⟨(by lia),(by lia)⟩
end
end L2
namespace L2
theorem AV {i:Nat}{w u:U}{us:List U}{ρ:Ev}:Ra i w (.int 0) ρ (some (some (.lst (u::us))))=.nx (ρ.set i (some (.lst (w::us)))):=by
 rw[Ki (j:=0) (PZ (by rw[Wl];lia))];rfl
theorem AW {ρ:Ev}:MM (.nx ρ)=io0 .non ρ[0]? := rfl
theorem lP {G:Gm}{js:List (Option Nat)}{sg:U->Ev->R Ev}{ge:Ev->R (U×Ev)}{σ:Type}(ev:σ->Ev)(N:Nat)(I:List U->σ->Prop)
  (step:∀done u s,done.length<N->I done s->∃ρi y ρi' s',sg u (iK js (ev s))=.ok ρi/\ge ρi=.ok (y,ρi')/\wb G js ρi' (ev s)=ev s'/\I (done++[y]) s') :
  ∀(us done:List U) (s:σ),done.length+us.length<=N->I done s->∃ys s',mZ G js sg d9 ge us (ev s)=.ok (ys,ev s')/\ys.length=us.length/\I (done++ys) s'
 | [],done,s,_,h=>⟨[],s,rfl,rfl,by rw[WN];exact h⟩
 |u::us,done,s,hl,h=>by
  rw[Wl] at hl;obtain⟨ρi,y,ρi',s',e1,e2,e3,h'⟩:=step done u s (by lia) h;obtain⟨ys,Di,e4,e5,h''⟩:=lP ev N I step us (done++[y]) s' (by rw[V9,Xu];lia) h';refine⟨y::ys,Di,?_,by rw[Wl,Wl,e5],by rw[Wz] at h'';exact h''⟩;rw[MP,e1,CK,Fi,CK,hZ rfl,e2,CK,e3,e4,CK]
theorem eQ {s:Ev->SR}(I:Nat->Ev->Prop)(step:∀(i:Nat) (u:U) (ρ:Ev),us[i]? = some u->I i ρ->∃ρ1 ρ2,sg u ρ=.ok ρ1/\(s ρ1=.nx ρ2\/s ρ1=.ct ρ2)/\I (i+1) ρ2)(h:I 0 ρ) :
  ∃ρ',cV sg s us ρ=.nx ρ'/\I us.length ρ':=by
 have gen:∀(n i:Nat) (ρ:Ev),i+n=us.length->I i ρ->∃ρ',cV sg s (us.drop i) ρ=.nx ρ'/\I us.length ρ':=by
  intro n
  induction n with
  |zero=>
   intro i ρ hi h;have:i=us.length:=(by lia)
   subst this;rw[ZQ];exact⟨ρ,rfl,h⟩
  |succ n ih=>
   intro i ρ hi h;have yo:i<us.length:=(by lia)
   obtain⟨ρ1,ρ2,e1,e2,h2⟩:=step i us[i] ρ (V4 yo) h;obtain⟨ρ',e3,h3⟩:=ih (i+1) ρ2 (by lia) h2;refine⟨ρ',?_,h3⟩;rw[Yl yo,ir,e1,AG];rcases e2 with e2|e2<;>(rw[e2];exact e3)
 have:=gen us.length 0 ρ (by lia) h
 rwa [aaz] at this
theorem CL (ns:List Int):fE (ns.map .int)=some (ns.map .int):=by
 induction ns with
 |nil=>unfold fE;rfl
 |cons n ns ih=>rw[V_];unfold fE;rw[ih];unfold ja;rfl
theorem zj (ns:List Int):dZ (ns.map .int)=0:=by
 induction ns with
 |nil=>unfold dZ;rfl
 |cons n ns ih=>rw[V_];unfold dZ;rw[ih];unfold cF;rfl
theorem ud:∀(ns ms:List Int),f9 (ns.map .int) (ms.map .int)=decide (ns=ms)
 | [],[]=>by unfold f9;simp
 | [],m::ms=>by simp[f9]
 |n::ns,[]=>by simp[f9]
 |n::ns,m::ms=>by
  rw[V_,V_];unfold f9 fV;rw[ud ns ms,Xl];simp
noncomputable def au (n:Nat):List Int:=(Xf n).map λi=>(i:Nat)
theorem fj (n:Nat):aE 0 n=(au n).map .int:=by
 unfold aE au;rw[WG];exact Xm λi _=>by show U.int (0+(i:Int))=.int _;rw[Int.zero_add]
theorem dN (n:Nat):(au n).length=n:=by unfold au;rw[V6,Xy]
theorem qC {x:Int}:x∈au n↔0<=x/\x<n:=by
 unfold au;rw[WY];constructor
 ·rintro⟨i,h,rfl⟩;have:=abA.mp h;lia
 ·intro h;exact⟨x.toNat,abA.mpr (by lia),(by lia)⟩
theorem qD (us:List U)(c:U->Bool):u9 [.lst (us.map λu=>.bl (c u))]=.ok (.bl (us.all c)):=by
 have e:us.map (λu=>U.bl (c u))=(us.map c).map .bl:=by rw[WG];rfl
 unfold u9;dsimp only;rw[e,Cb];dsimp only;rw[aaC];rfl
end L2
namespace L2
theorem inb (s:String){T:String}{u:U}{ρ:Ev}{b:Bool}(h:Ce u=s)(h1:¬s="script")(h2:dF s T=b):g7 T u ρ=.ok (.bl b,ρ):=by unfold g7;rw[h,hV h1,h2]
theorem n_ {ρ:Ev}:g7 "bool" (.non) ρ=.ok (.bl false,ρ):=inb "NoneType" rfl (by decide) (by decide)
theorem qE {ρ:Ev}:g7 "int" (.non) ρ=.ok (.bl false,ρ):=inb "NoneType" rfl (by decide) (by decide)
theorem qF {ρ:Ev}:g7 "str" (.non) ρ=.ok (.bl false,ρ):=inb "NoneType" rfl (by decide) (by decide)
theorem og {ρ:Ev}:g7 "list" (.non) ρ=.ok (.bl false,ρ):=inb "NoneType" rfl (by decide) (by decide)
theorem lQ {ρ:Ev}:g7 "tuple" (.non) ρ=.ok (.bl false,ρ):=inb "NoneType" rfl (by decide) (by decide)
theorem oh {ρ:Ev}:g7 "dict" (.non) ρ=.ok (.bl false,ρ):=inb "NoneType" rfl (by decide) (by decide)
theorem qG {b:Bool}{ρ:Ev}:g7 "bool" (.bl b) ρ=.ok (.bl true,ρ):=inb "bool" rfl (by decide) (by decide)
theorem ue {b:Bool}{ρ:Ev}:g7 "int" (.bl b) ρ=.ok (.bl true,ρ):=inb "bool" rfl (by decide) (by decide)
theorem uf {b:Bool}{ρ:Ev}:g7 "str" (.bl b) ρ=.ok (.bl false,ρ):=inb "bool" rfl (by decide) (by decide)
theorem qH {b:Bool}{ρ:Ev}:g7 "list" (.bl b) ρ=.ok (.bl false,ρ):=inb "bool" rfl (by decide) (by decide)
theorem oj {b:Bool}{ρ:Ev}:g7 "tuple" (.bl b) ρ=.ok (.bl false,ρ):=inb "bool" rfl (by decide) (by decide)
theorem qI {b:Bool}{ρ:Ev}:g7 "dict" (.bl b) ρ=.ok (.bl false,ρ):=inb "bool" rfl (by decide) (by decide)
theorem om {i:Int}{ρ:Ev}:g7 "bool" (.int i) ρ=.ok (.bl false,ρ):=inb "int" rfl (by decide) (by decide)
theorem qJ {i:Int}{ρ:Ev}:g7 "int" (.int i) ρ=.ok (.bl true,ρ):=inb "int" rfl (by decide) (by decide)
theorem qK {i:Int}{ρ:Ev}:g7 "str" (.int i) ρ=.ok (.bl false,ρ):=inb "int" rfl (by decide) (by decide)
theorem oq {i:Int}{ρ:Ev}:g7 "list" (.int i) ρ=.ok (.bl false,ρ):=inb "int" rfl (by decide) (by decide)
theorem lR {i:Int}{ρ:Ev}:g7 "tuple" (.int i) ρ=.ok (.bl false,ρ):=inb "int" rfl (by decide) (by decide)
theorem ot {i:Int}{ρ:Ev}:g7 "dict" (.int i) ρ=.ok (.bl false,ρ):=inb "int" rfl (by decide) (by decide)
theorem ou {x:Str}{ρ:Ev}:g7 "bool" (.str x) ρ=.ok (.bl false,ρ):=inb "str" rfl (by decide) (by decide)
theorem qL {x:Str}{ρ:Ev}:g7 "int" (.str x) ρ=.ok (.bl false,ρ):=inb "str" rfl (by decide) (by decide)
theorem qM {x:Str}{ρ:Ev}:g7 "str" (.str x) ρ=.ok (.bl true,ρ):=inb "str" rfl (by decide) (by decide)
theorem ow {x:Str}{ρ:Ev}:g7 "list" (.str x) ρ=.ok (.bl false,ρ):=inb "str" rfl (by decide) (by decide)
theorem lT {x:Str}{ρ:Ev}:g7 "tuple" (.str x) ρ=.ok (.bl false,ρ):=inb "str" rfl (by decide) (by decide)
theorem oy {x:Str}{ρ:Ev}:g7 "dict" (.str x) ρ=.ok (.bl false,ρ):=inb "str" rfl (by decide) (by decide)
theorem oz {us:List U}{ρ:Ev}:g7 "bool" (.tup us) ρ=.ok (.bl false,ρ):=inb "tuple" rfl (by decide) (by decide)
theorem qN {us:List U}{ρ:Ev}:g7 "int" (.tup us) ρ=.ok (.bl false,ρ):=inb "tuple" rfl (by decide) (by decide)
theorem qO {us:List U}{ρ:Ev}:g7 "str" (.tup us) ρ=.ok (.bl false,ρ):=inb "tuple" rfl (by decide) (by decide)
theorem oA {us:List U}{ρ:Ev}:g7 "list" (.tup us) ρ=.ok (.bl false,ρ):=inb "tuple" rfl (by decide) (by decide)
theorem lU {us:List U}{ρ:Ev}:g7 "tuple" (.tup us) ρ=.ok (.bl true,ρ):=inb "tuple" rfl (by decide) (by decide)
theorem oB {us:List U}{ρ:Ev}:g7 "dict" (.tup us) ρ=.ok (.bl false,ρ):=inb "tuple" rfl (by decide) (by decide)
theorem oC {us:List U}{ρ:Ev}:g7 "bool" (.lst us) ρ=.ok (.bl false,ρ):=inb "list" rfl (by decide) (by decide)
theorem qP {us:List U}{ρ:Ev}:g7 "int" (.lst us) ρ=.ok (.bl false,ρ):=inb "list" rfl (by decide) (by decide)
theorem qQ {us:List U}{ρ:Ev}:g7 "str" (.lst us) ρ=.ok (.bl false,ρ):=inb "list" rfl (by decide) (by decide)
theorem oD {us:List U}{ρ:Ev}:g7 "list" (.lst us) ρ=.ok (.bl true,ρ):=inb "list" rfl (by decide) (by decide)
theorem lV {us:List U}{ρ:Ev}:g7 "tuple" (.lst us) ρ=.ok (.bl false,ρ):=inb "list" rfl (by decide) (by decide)
theorem oE {us:List U}{ρ:Ev}:g7 "dict" (.lst us) ρ=.ok (.bl false,ρ):=inb "list" rfl (by decide) (by decide)
theorem oF {ρ:Ev}:g7 "bool" (.dct [] []) ρ=.ok (.bl false,ρ):=inb "dict" rfl (by decide) (by decide)
theorem qR {ρ:Ev}:g7 "int" (.dct [] []) ρ=.ok (.bl false,ρ):=inb "dict" rfl (by decide) (by decide)
theorem qS {ρ:Ev}:g7 "str" (.dct [] []) ρ=.ok (.bl false,ρ):=inb "dict" rfl (by decide) (by decide)
theorem oG {ρ:Ev}:g7 "list" (.dct [] []) ρ=.ok (.bl false,ρ):=inb "dict" rfl (by decide) (by decide)
theorem lW {ρ:Ev}:g7 "tuple" (.dct [] []) ρ=.ok (.bl false,ρ):=inb "dict" rfl (by decide) (by decide)
theorem oH {ρ:Ev}:g7 "dict" (.dct [] []) ρ=.ok (.bl true,ρ):=inb "dict" rfl (by decide) (by decide)
theorem aw:type_of% @JY/\type_of% @EL/\type_of% @TM/\type_of% @CK/\type_of% @JZ/\type_of% @AG/\type_of% @Py/\type_of% @TN/\type_of% @J0/\type_of% @EM/\type_of% @J2/\type_of% @EN/\type_of% @J3/\type_of% @Pz/\type_of% @J5/\type_of% @PB/\type_of% @AH/\type_of% @PD/\type_of% @EO/\type_of% @AI/\type_of% @ER/\type_of% @ES/\type_of% @PF/\type_of% @PH/\type_of% @J8/\type_of% @AK/\type_of% @PJ/\type_of% @J9/\type_of% @J_/\type_of% @TV/\type_of% @ET/\type_of% @AL/\type_of% @Ka/\type_of% @AM/\type_of% @PL/\type_of% @EU/\type_of% @EV/\type_of% @AN/\type_of% @EW/\type_of% @EX/\type_of% @EY/\type_of% @EZ/\type_of% @E1/\type_of% @E2/\type_of% @E3/\type_of% @Kb/\type_of% @Kc/\type_of% @Kd/\type_of% @Ke/\type_of% @E4/\type_of% @Kg/\type_of% @Kh/\type_of% @E5/\type_of% @E6/\type_of% @Kj/\type_of% @E7/\type_of% @Kk/\type_of% @vc/\type_of% @vd/\type_of% @AO/\type_of% @AQ/\type_of% @vf/\type_of% @E8/\type_of% @E9/\type_of% @zg/\type_of% @E_/\type_of% @Fb/\type_of% @Fe/\type_of% @Ff/\type_of% @Km/\type_of% @Kn/\type_of% @Fg/\type_of% @Fh/\type_of% @Fi/\type_of% @Ko/\type_of% @PQ/\type_of% @Fj/\type_of% @AS/\type_of% @Fm/\type_of% @AU/\type_of% @Kp/\type_of% @xo/\type_of% @t9/\type_of% @t_/\type_of% @Fo/\type_of% @Fp/\type_of% @Fq/\type_of% @Kq/\type_of% @Kr/\type_of% @zh/\type_of% @Ks/\type_of% @Kt/\type_of% @Ku/\type_of% @PR/\type_of% @PU/\type_of% @PV/\type_of% @PX/\type_of% @Kv/\type_of% @Kw/\type_of% @Kx/\type_of% @Ky/\type_of% @Kz/\type_of% @KA/\type_of% @KC/\type_of% @Fs/\type_of% @Ft/\type_of% @Fu/\type_of% @Fv/\type_of% @Fw/\type_of% @Fx/\type_of% @Fy/\type_of% @KD/\type_of% @KG/\type_of% @Fz/\type_of% @FA/\type_of% @PY/\type_of% @KI/\type_of% @KJ/\type_of% @KL/\type_of% @J6/\type_of% @n_/\type_of% @qE/\type_of% @qF/\type_of% @og/\type_of% @lQ/\type_of% @oh/\type_of% @qG/\type_of% @ue/\type_of% @uf/\type_of% @qH/\type_of% @oj/\type_of% @qI/\type_of% @om/\type_of% @qJ/\type_of% @qK/\type_of% @oq/\type_of% @lR/\type_of% @ot/\type_of% @ou/\type_of% @qL/\type_of% @qM/\type_of% @ow/\type_of% @lT/\type_of% @oy/\type_of% @oz/\type_of% @qN/\type_of% @qO/\type_of% @oA/\type_of% @lU/\type_of% @oB/\type_of% @oC/\type_of% @qP/\type_of% @qQ/\type_of% @oD/\type_of% @lV/\type_of% @oE/\type_of% @oF/\type_of% @qR/\type_of% @qS/\type_of% @oG/\type_of% @lW/\type_of% @oH/\type_of% @AV/\type_of% @AW:=
 ⟨@JY,@EL,@TM,@CK,@JZ,@AG,@Py,@TN,@J0,@EM,@J2,@EN,@J3,@Pz,@J5,@PB,@AH,@PD,@EO,@AI,@ER,@ES,@PF,@PH,@J8,@AK,@PJ,@J9,@J_,@TV,@ET,@AL,@Ka,@AM,@PL,@EU,@EV,@AN,@EW,@EX,@EY,@EZ,@E1,@E2,@E3,@Kb,@Kc,@Kd,@Ke,@E4,@Kg,@Kh,@E5,@E6,@Kj,@E7,@Kk,@vc,@vd,@AO,@AQ,@vf,@E8,@E9,@zg,@E_,@Fb,@Fe,@Ff,@Km,@Kn,@Fg,@Fh,@Fi,@Ko,@PQ,@Fj,@AS,@Fm,@AU,@Kp,@xo,@t9,@t_,@Fo,@Fp,@Fq,@Kq,@Kr,@zh,@Ks,@Kt,@Ku,@PR,@PU,@PV,@PX,@Kv,@Kw,@Kx,@Ky,@Kz,@KA,@KC,@Fs,@Ft,@Fu,@Fv,@Fw,@Fx,@Fy,@KD,@KG,@Fz,@FA,@PY,@KI,@KJ,@KL,@J6,@n_,@qE,@qF,@og,@lQ,@oh,@qG,@ue,@uf,@qH,@oj,@qI,@om,@qJ,@qK,@oq,@lR,@ot,@ou,@qL,@qM,@ow,@lT,@oy,@oz,@qN,@qO,@oA,@lU,@oB,@oC,@qP,@qQ,@oD,@lV,@oE,@oF,@qR,@qS,@oG,@lW,@oH,@AV,@AW⟩
end L2
namespace Hc.Dw
def iu (h:Y5)(a:Ww)(ds:Array abJ)(ep:Nat):Prop:=∃o,h.get? a=some o/\o.ExactDict/\o.data=.dict ds ep
theorem iu.ty (x:iu s.heap a ds ep):s.TypeIs (.ref a) "dict":=by
 obtain⟨o,e,c,_⟩:=x;exact⟨o,e,c.1⟩
theorem iu.at (x:iu h a ds ep)(e:∀o,h.get? a=some o->h'.get? a=some o):iu h' a ds ep:=by
 obtain⟨o,q,r⟩:=x;exact⟨o,e o q,r⟩
theorem iu.lt (x:iu h a ds ep):a<h.objs.size:=by obtain⟨o,e,_⟩:=x;exact Wq e
section
variable {w:Xt}{A:W2}{d vw:Ww}
theorem KN (lo:(d==XM)=false)(x:iu s.heap d ds ep)(q:Q (.ref s.heap.objs.size) {s with heap:=s.heap.push {cls:=.type "dict_keyiterator",data:=.fields (List.toArray [.ref d,.int 0 0,.int ds.size 0,.int ep 0])}}):Wv (WI prog w) A (pyIter (.ref d)) Q E s:=by
 have ty:=x.ty;obtain⟨od,e1,e2,e3⟩:=x;refine wpAny_pyIter_slot ty F.slot_dict_iter (Xe F.slot_dict_iter ty F.entry_dict_iter ?_ (F.args_dict_iter_1 _));unfold Builtin.«dict.__iter__»;refine V3 ?_;unfold Builtin.Dict.dictSlotNone;refine V3 (aaE ty ?_);change Wv _ _ (pure (Value.ref d)) _ _ s;refine V8 ?_;change Wv _ _ (Zq d >>= _) _ _ s;unfold Zq;rw[hV (by rw[lo];exact V5)];refine V3 (V8 (V3 (YB e1 e3 (V3 (Zr e1 e3 ?_)))));refine V3 (WR (V8 ⟨_,rfl,"dict_keyiterator",_,⟨_,Wj _ rfl,rfl⟩,F.slot_dict_keyiterator_next.lookup,?_⟩));simpa [aag] using q
theorem KO {Q:Option Wd->Wr->Prop}(t:s.heap.IsKeyIter it d i ds.size ep)(x:iu s.heap d ds ep)(hi:i<ds.size)
  (q:∀h',h'.IsKeyIter it d (i+1) ds.size ep->ZV it s.heap h'->Q (some ds[i].key) {s with heap:=h'}):Wv (WI prog w) A (aaN (.ref it)) Q E s:=by
 have ty:=t.typeIs;obtain⟨oi,i1,i2,i3⟩:=t;obtain⟨od,e1,e2,e3⟩:=x;unfold aaN;refine V3 (YN (W_ (name:=XO "__next__") ty YA (Xe YA ty aaL ?_ (aaF _))));refine V3 (V8 (V3 (V3 ?_)))
 first|refine V3 (Yu ty (V8 ?_))|refine V3 (Y3 ty (V8 ?_))
 refine V3 (abG i1 i3 ?_);simp only[show X3 "dict_keyiterator"=false by decide,Xj,if_false];change Wv _ _ (if (Value.ref d==Value.none)=true then _ else _) _ _ s;rw[hV (show ¬((Value.ref d==Value.none)=true) from V5)];refine V3 (V8 (V3 (YB e1 e3 ?_)));rw[hV (by simp)];refine V3 (V8 (V3 (Zr e1 e3 ?_)));rw[hV (by simp)];refine V8 ?_;simp only[show ¬((i:Int)<0) from by lia,if_false,Xs,YU hi];refine V3 ?_
 first|refine V3 (Yu ty (V8 ?_))|refine V3 (Y3 ty (V8 ?_))
 refine V3 (wpAny_isOneOf_keyiter ty ?_);change Wv _ _ (setField (.ref it) 1 (aag ((i:Int)+1)) >>= _) _ _ s;refine V3 (ZL i1 i3 (by simp) ?_);have t':(s.heap.update it (aaV (·.setIfInBounds 1 (aag ((i:Int)+1))))).IsKeyIter it d (i+1) ds.size ep:=
  ⟨_,Zk _ i1 (aaD (YL i3 _)),(abR ..).trans i2,by rw[YL i3];simp[aag]⟩
 refine V3 (Xp (V3 ?_));refine wpAny_isOneOf_keyiter (s:={s with heap:=s.heap.update it (aaV (·.setIfInBounds 1 (aag ((i:Int)+1))))}) t'.typeIs ?_;change Wv _ _ (pure ds[i].key) _ _ _;exact V8 (V8 ⟨_,rfl,V8 (q _ t' (YD ..))⟩)
theorem KP {Q:Option Wd->Wr->Prop}(hh:A.handled=none)(t:s.heap.IsKeyIter it d i ds.size ep)(x:iu s.heap d ds ep)(hi:ds.size<=i)
  (q:∀h',Heap.ExtBut it s.heap h'->Q none {s with heap:=h'}):Wv (WI prog w) A (aaN (.ref it)) Q E s:=by
 have ty:=t.typeIs;obtain⟨oi,i1,i2,i3⟩:=t;obtain⟨od,e1,e2,e3⟩:=x;unfold aaN;refine V3 (YN (W_ (name:=XO "__next__") ty YA (Xe YA ty aaL ?_ (aaF _))));refine V3 (V8 (V3 (V3 ?_)))
 first|refine V3 (Yu ty (V8 ?_))|refine V3 (Y3 ty (V8 ?_))
 refine V3 (abG i1 i3 ?_);simp only[show X3 "dict_keyiterator"=false by decide,Xj,if_false];change Wv _ _ (if (Value.ref d==Value.none)=true then _ else _) _ _ s;rw[hV (show ¬((Value.ref d==Value.none)=true) from V5)];refine V3 (V8 (V3 (YB e1 e3 ?_)));rw[hV (by simp)];refine V3 (V8 (V3 (Zr e1 e3 ?_)));rw[hV (by simp)];refine V8 ?_;simp only[show ¬((i:Int)<0) from by lia,if_false,Xs,Zd hi];refine V3 ?_
 first|refine V3 (Yu ty (V8 ?_))|refine V3 (Y3 ty (V8 ?_))
 change Wv _ _ (setField (.ref it) 0 .none >>= _) _ _ s;refine V3 (ZL i1 i3 (by simp) ?_);change Wv _ _ (newExc (.type "StopIteration") [] >>= _) _ _ _;refine V3 ?_;simp only[newExc,newTuple];refine V3 (WR (hd:=by size_fits) ?_);refine V3 (m:=ZM _ _) (aa8 (a:=Value.none) (by first|rfl|(simp only[ZM];rfl)) (WR (hd:=by size_fits) ?_));simp only[raiseNew];refine V3 (wpAny_handled ?_);rw[show A.in1.handled=none from hh];refine V3 (V8 (wpAny_throw ?_));refine V3 (aaJ (b:=true) (T:="StopIteration") ⟨_,Wj _ rfl,rfl⟩ isSubtype_stop ?_);exact V8 (q _ (((YD ..).extBut.push _).push _))
theorem P0 (lo:(d==XM)=false)(x:iu s.heap d ds ep)(q:∀h',h'.IsValuesView s.heap.objs.size d->(∀b o,s.heap.get? b=some o->h'.get? b=some o)->Q (.ref s.heap.objs.size) {s with heap:=h'}) :
  Wv (WI prog w) A (Builtin.«dict.values» ⟨[.ref d],[]⟩) (λf s'=>∃v,f=.done (.ret v)/\Q v s') E s:=by
 refine V3 ?_;unfold Builtin.Dict.noArgs;refine V3 (aaE x.ty ?_);change Wv _ _ (pure d) _ _ s;refine V8 ?_;change Wv _ _ (Zq d >>= _) _ _ s;unfold Zq;rw[hV (by rw[lo];exact V5)];exact V3 (V8 (V3 (WR (V8 ⟨_,rfl,q _ ⟨_,Wj _ rfl,rfl,rfl⟩ λb o e=>V7 _ e⟩))))
theorem KQ (hv:s.heap.IsValuesView vw d)(x:iu s.heap d ds ep)(q:Q (.ref s.heap.objs.size) {s with heap:=s.heap.push {cls:=.type "dict_valueiterator",data:=.fields (List.toArray [.ref d,.int 0 0,.int ds.size 0,.int ep 0])}}):Wv (WI prog w) A (pyIter (.ref vw)) Q E s:=by
 have ty:=hv.typeIs;obtain⟨ov,v1,v2,v3⟩:=hv;obtain⟨od,e1,e2,e3⟩:=x;refine wpAny_pyIter_slot ty F.slot_dict_values_iter (Xe F.slot_dict_values_iter ty F.entry_dict_values_iter ?_ (F.args_dict_values_iter_1 _));unfold Builtin.«dict_values.__iter__»;refine V3 (V8 (V3 ?_));unfold Builtin.Dict_items.dictOf;refine V3 (X0 v1 v3 (x:=.ref d) rfl (V8 (V3 ?_)));unfold Builtin.Dict_items.newIterator;refine V3 (YB e1 e3 (V3 (Zr e1 e3 ?_)));simp only[show X3 "dict_valueiterator"=false by decide,Xj,if_false];refine WR (V8 ⟨_,rfl,"dict_valueiterator",_,⟨_,Wj _ rfl,rfl⟩,F.slot_dict_valueiterator_next.lookup,?_⟩);simpa [aag] using q
theorem P1 {Q:Option Wd->Wr->Prop}(t:s.heap.IsValIter it d i ds.size ep)(x:iu s.heap d ds ep)(hi:i<ds.size)
  (q:∀h',h'.IsValIter it d (i+1) ds.size ep->ZV it s.heap h'->Q (some ds[i].val) {s with heap:=h'}):Wv (WI prog w) A (aaN (.ref it)) Q E s:=by
 have ty:=t.typeIs;obtain⟨oi,i1,i2,i3⟩:=t;obtain⟨od,e1,e2,e3⟩:=x;unfold aaN;refine V3 (YN (W_ (name:=XO "__next__") ty Yo (Xe Yo ty aat ?_ (aaf _))));refine V3 (V8 (V3 (V3 ?_)))
 first|refine V3 (Yv ty (V8 ?_))|refine V3 (Y4 ty (V8 ?_))
 refine V3 (abG i1 i3 ?_);simp only[show X3 "dict_valueiterator"=false by decide,Xj,if_false];change Wv _ _ (if (Value.ref d==Value.none)=true then _ else _) _ _ s;rw[hV (show ¬((Value.ref d==Value.none)=true) from V5)];refine V3 (V8 (V3 (YB e1 e3 ?_)));rw[hV (by simp)];refine V3 (V8 (V3 (Zr e1 e3 ?_)));rw[hV (by simp)];refine V8 ?_;simp only[show ¬((i:Int)<0) from by lia,if_false,Xs,YU hi];refine V3 ?_
 first|refine V3 (Yv ty (V8 ?_))|refine V3 (Y4 ty (V8 ?_))
 refine V3 (aaG ty ?_);change Wv _ _ (setField (.ref it) 1 (aag ((i:Int)+1)) >>= _) _ _ s;refine V3 (ZL i1 i3 (by simp) ?_);have t':(s.heap.update it (aaV (·.setIfInBounds 1 (aag ((i:Int)+1))))).IsValIter it d (i+1) ds.size ep:=
  ⟨_,Zk _ i1 (aaD (YL i3 _)),(abR ..).trans i2,by rw[YL i3];simp[aag]⟩
 refine V3 (Xp (V3 ?_));refine aaG (s:={s with heap:=s.heap.update it (aaV (·.setIfInBounds 1 (aag ((i:Int)+1))))}) t'.typeIs (V3 ?_);refine aaG (s:={s with heap:=s.heap.update it (aaV (·.setIfInBounds 1 (aag ((i:Int)+1))))}) t'.typeIs ?_;change Wv _ _ (pure ds[i].val) _ _ _;exact V8 (V8 ⟨_,rfl,V8 (q _ t' (YD ..))⟩)
theorem P2 {Q:Option Wd->Wr->Prop}(hh:A.handled=none)(t:s.heap.IsValIter it d i ds.size ep)(x:iu s.heap d ds ep)(hi:ds.size<=i)
  (q:∀h',Heap.ExtBut it s.heap h'->Q none {s with heap:=h'}):Wv (WI prog w) A (aaN (.ref it)) Q E s:=by
 have ty:=t.typeIs;obtain⟨oi,i1,i2,i3⟩:=t;obtain⟨od,e1,e2,e3⟩:=x;unfold aaN;refine V3 (YN (W_ (name:=XO "__next__") ty Yo (Xe Yo ty aat ?_ (aaf _))));refine V3 (V8 (V3 (V3 ?_)))
 first|refine V3 (Yv ty (V8 ?_))|refine V3 (Y4 ty (V8 ?_))
 refine V3 (abG i1 i3 ?_);simp only[show X3 "dict_valueiterator"=false by decide,Xj,if_false];change Wv _ _ (if (Value.ref d==Value.none)=true then _ else _) _ _ s;rw[hV (show ¬((Value.ref d==Value.none)=true) from V5)];refine V3 (V8 (V3 (YB e1 e3 ?_)));rw[hV (by simp)];refine V3 (V8 (V3 (Zr e1 e3 ?_)));rw[hV (by simp)];refine V8 ?_;simp only[show ¬((i:Int)<0) from by lia,if_false,Xs,Zd hi];refine V3 ?_
 first|refine V3 (Yv ty (V8 ?_))|refine V3 (Y4 ty (V8 ?_))
 change Wv _ _ (setField (.ref it) 0 .none >>= _) _ _ s;refine V3 (ZL i1 i3 (by simp) ?_);change Wv _ _ (newExc (.type "StopIteration") [] >>= _) _ _ _;refine V3 ?_;simp only[newExc,newTuple];refine V3 (WR (hd:=by size_fits) ?_);refine V3 (m:=ZM _ _) (aa8 (a:=Value.none) (by first|rfl|(simp only[ZM];rfl)) (WR (hd:=by size_fits) ?_));simp only[raiseNew];refine V3 (wpAny_handled ?_);rw[show A.in1.handled=none from hh];refine V3 (V8 (wpAny_throw ?_));refine V3 (aaJ (b:=true) (T:="StopIteration") ⟨_,Wj _ rfl,rfl⟩ isSubtype_stop ?_);exact V8 (q _ (((YD ..).extBut.push _).push _))
end
end Hc.Dw
namespace L2
open Hc.Dw
theorem qT {α β:Type}{R:α->β->Prop}:∀{xs:List α} {ys:List β} {i:Nat} {y:β},ZI R xs ys->ys[i]? = some y->∃x,xs[i]? = some x/\R x y
 |_,_,_,_,.nil,h=>by simp at h
 |x::xs,y'::ys,0,y,.cons r t,h=>by simp at h;subst h;exact⟨x,by simp,r⟩
 |x::xs,y'::ys,i+1,y,.cons r t,h=>by
  obtain⟨x',m,q⟩:=qT t (i:=i) (by simpa using h);exact⟨x',by simpa using m,q⟩
theorem av.rawD (I:av X pins σ H s)(q:H a=some (DN a ep es)):(a==XM)=false/\∃ds,iu s.heap a ds ep/\ds.size=es.length/\∀(i:Nat) (hi:i<ds.size),∃e,es[i]? = some e/\ds[i].key=.ref e.2.1/\aM e.2.2 ds[i].val:=by
 obtain⟨⟨l,o,ds,xs,h1,h2,h3,h4,h5⟩,_⟩:=I.hok a _ q;have n1:ds.size=es.length:=by rw[←Wg,h5,V6,Zv h4]
 refine⟨l,ds,⟨o,h1,h2,h3⟩,n1,λi hi=>?_⟩;have e1:ds.toList[i]? = some ds[i]:=by rw[WX];exact getElem?_pos ds i hi
 rw[h5,Wu] at e1;cases e2:xs[i]? with
 |none=>rw[e2] at e1;cases e1
 |some x=>
  rw[e2] at e1;have e3:Pc x=ds[i]:=by injection e1
  obtain⟨e,m,r⟩:=qT h4 e2;refine⟨e,m,?_,?_⟩
  ·rw[←e3,r.2.1];rfl
  ·rw[←e3];exact r.2.2
noncomputable def Sk (a:Ww)(ep:Nat)(es:List (List U×Ww×V)):It:=
 ⟨λi H=>H a=some (DN a ep es)/\i<es.length,λi H v H'=>H'=H/\∃e,es[i]? = some e/\v=.ref e.2.1,λi H=>H a=some (DN a ep es)/\es.length<=i⟩
noncomputable def UE (a:Ww)(ep:Nat)(es:List (List U×Ww×V)):It:=
 ⟨λi H=>H a=some (DN a ep es)/\i<es.length,λi H v H'=>H'=H/\∃e,es[i]? = some e/\v=e.2.2,λi H=>H a=some (DN a ep es)/\es.length<=i⟩
noncomputable def UG (a:Ww)(ep:Nat)(es:List (List U×Ww×V)):It:=
 ⟨λi H=>H a=some (DN a ep es)/\i<es.length,λi H v H'=>∃T e,v=.ref T/\H T=none/\es[i]? = some e/\H'=bL H T (.tup [.ref e.2.1,e.2.2]),λi H=>H a=some (DN a ep es)/\es.length<=i⟩
section
variable {w:Xt}
theorem CM:yy P w K tg (Sk a ep es) [it] it (λi h=>h.IsKeyIter it a i es.length ep) where
 mem:=by simp
 obj:=λi h st b hb=>by
  have e:b=it:=by simpa using hb
  subst e;obtain⟨o,e,c,d⟩:=st;exact⟨o,e,λv z=>by rw[d] at z;cases z⟩
 keep:=λi h h' st k=>st.at λo e=>k it (by simp) o e
 item:=by
  intro X hP hw hK hc i pins s σ H E I hf st hg;subst hP hw hK;obtain⟨hq,hi⟩:=hg;obtain⟨_,ds,rd,n,at_⟩:=I.rawD hq;obtain⟨f0,f1,f2,f3,f4,f5⟩:=hf it (by simp);rw[←n] at st hi;obtain⟨e,m,ek,rv⟩:=at_ i hi;refine KO st rd hi λh' aK sb=>?_;have I1:av X pins σ H {s with heap:=h'}:=I.turned (t':=s.toks) (λb o hb e=>(sb.2 b hb).trans e) f0 f1 f3 f4 f5;rw[n] at aK;obtain⟨o,e1,c,d⟩:=id aK;exact⟨_,rfl,Aa (s:={s with heap:=h'}) e1 c d (by decide) ⟨.ref e.2.1,H,I1,ek,⟨rfl,e,m,rfl⟩,aK,λb hb=>(hf b hb).1⟩⟩
 done:=by
  intro X hP hw hK hc i pins s σ H E I hf st hg;subst hP hw hK;obtain⟨hq,hi⟩:=hg;obtain⟨_,ds,rd,n,at_⟩:=I.rawD hq;obtain⟨f0,f1,f2,f3,f4,f5⟩:=hf it (by simp);rw[←n] at st hi;exact KP (I.ok.hd hc) st rd hi λh' eb=>⟨rfl,I.turned (t':=s.toks) (λb o hb e=>eb b o hb e) f0 f1 f3 f4 f5⟩
 self:=λ_ _ _ _ _ st h=>wpAny_pyIter_keyiter st h
end
def TZ (J:Ww->Nat->List (List U×Ww×V)->It)(tl:TE):TI:=λσ H R=>tl σ H λx H1=>∃a ep es,x=.ref a/\H1 a=some (DN a ep es)/\R (J a ep es) H1
structure M0 (X:Cx)(o:X4)(m:Str)(cR cpos:Pos):Prop where
 base:Zy o m X.env (YX o X.env)=YX o X.env
 few:((Yp cpos (Wm [] X.env)).all (λx=> !x.1)&&(backToKw cpos (keywordEach [] X.env)).all (λx=>x.1.isSome)
  && decide (([]:List X4).length+([]:List abE).length+(if ([]:List abE).isEmpty then 0 else 1)<30))=true
 line:(cR.endLine==cpos.line)=true
 trees:Yp cpos (Wm [] X.env)=[]
section
variable {e:X4}{tl:TE}{cR cpos:Pos}
theorem MR (I:av X pins σ H s)(q:H a=some (DN a ep es)):s.TypeIs (.ref a) "dict"/\∀b,Value.ref a=.ref b->∃ob,s.heap.get? b=some ob/\ob.dict=none:=by
 obtain⟨_,ds,rd,_⟩:=I.rawD q;refine⟨rd.ty,λb z=>?_⟩;cases z;obtain⟨o,h1,h2,_⟩:=rd;exact⟨o,h1,h2.2.1⟩
theorem IA (hl:PE X e tl):PI X tg e (TZ Sk tl):=by
 intro pins s σ H R I h;refine cS (hl pins s σ H _ I h) λv s1 ⟨x,H1,I1,r1,a,ep,es,ex,hq,q⟩=>?_;subst ex;cases r1;obtain⟨lo,ds,rd,n,_⟩:=I1.rawD hq;refine KN lo rd ?_;refine⟨s1.heap.objs.size,[s1.heap.objs.size],_,_,H1,rfl,I1.kept (t':=s1.toks) λb o e=>V7 _ e,CM (a:=a) (ep:=ep) (es:=es),⟨_,Wj _ rfl,rfl,by rw[n];rfl⟩,λb hb=>?_,q⟩;have e:b=s1.heap.objs.size:=by simpa using hb
 exact I1.fpOk (by rw[e];exact Wf _) (I1.hok.fresh (by rw[e];exact Wf _))
end
end L2
namespace L2
open Hc.Dw
mutual
theorem P4 {K:Wc}{H:Hp}{A:Ww->Prop}:∀{u:U} {v:V},KH H u v->Rp K H A u v
 | .int i,v,h=>by unfold KH at h;unfold Rp;exact h
 | .tup us,v,h=>by
  unfold KH at h;unfold Rp;obtain⟨b,ys,e,q,l,z⟩:=h;exact⟨b,ys,e,q,l,zk z⟩
 | .non,v,h=>by unfold KH at h;exact h.elim
 | .bl _,v,h=>by unfold KH at h;exact h.elim
 | .str _,v,h=>by unfold KH at h;exact h.elim
 | .lst _,v,h=>by unfold KH at h;exact h.elim
 | .dct _ _,v,h=>by unfold KH at h;exact h.elim
 | .scr _,v,h=>by unfold KH at h;exact h.elim
theorem zk {K:Wc}{H:Hp}{A:Ww->Prop}:∀{us:List U} {vs:List V},qf H us vs->aA K H A us vs
 | [],vs,h=>by unfold qf at h;unfold aA;exact h
 |u::us,vs,h=>by
  unfold qf at h;unfold aA;obtain⟨x,r,q,p,z⟩:=h;exact⟨x,r,q,P4 p,zk z⟩
end
theorem FC (h:oS H us b):Rp K H A (.tup us) (.ref b):=by
 obtain⟨_,ys,q,l,z⟩:=h;unfold Rp;exact⟨b,ys,rfl,q,l,zk z⟩
noncomputable def P5:U->Bool
 | .tup _=>true
 |_=>false
noncomputable def ug (ks:List U):Bool:= !ks.isEmpty&&ks.all P5
theorem qU (w:ug ks=true)(d:wq H a ks xs):∃es ep,H a=some (DN a ep es)/\(∀e∈es,oS H e.1 e.2.1)/\ks=es.map (λp=>.tup p.1)/\xs=es.map (·.2.2):=by
 unfold ug at w;rw[Wt] at w;rcases d with⟨aN,h,rfl,rfl⟩|⟨es,n,h,e1,e2⟩
 ·exfalso;cases aN with
  |nil=>exact absurd w.1 (by simp)
  |cons p r=>
   have:=w.2;rw[V_,Yj,Wt] at this;obtain⟨p1,p2⟩:=p;cases p1<;>cases this.1
 ·obtain⟨ep,q⟩:=h.ne n;exact⟨es,ep,q,h.key,e1,e2⟩
theorem P6 (mu:∀a,A a->Mu (H1 a))(w:ug ks=true)(h:Rp K H1 A (.dct ks us) v):∃a ep es,v=.ref a/\H1 a=some (DN a ep es)/\
  Wk K false A ks (Sk a ep es) H1/\Wk K false A us (UE a ep es) H1/\Wk K false A (Zo (λk u=>.tup [k,u]) ks us) (UG a ep es) H1:=by
 unfold Rp at h;obtain⟨a,xs,rfl,na,d,l,z⟩:=h;obtain⟨es,ep,q,kt,e1,e2⟩:=qU w d;subst e1 e2;have le:es.length=us.length:=by rw[z.length,V6]
 have key:∀(i:Nat) (e:List U×Ww×V),es[i]? = some e->Rp K H1 A (.tup e.1) (.ref e.2.1):=λi e he=>FC (kt e (Xq he));have val:∀(i:Nat) (u:U),us[i]? = some u->∃e:List U×Ww×V,es[i]? = some e/\Rp K H1 A u e.2.2:=λi u hu=>by
  obtain⟨x,h1,h2⟩:=z.get hu;rw[Wu] at h1;cases he:es[i]? with
  |none=>rw[he] at h1;cases h1
  |some e=>rw[he] at h1;cases h1;exact⟨e,rfl,h2⟩
 refine⟨a,ep,es,rfl,q,⟨?_,λH A' hx ha=>?_⟩,⟨l,λH A' hx ha=>?_⟩,⟨?_,λH A' hx ha=>?_⟩⟩
 ·rw[V6,le];exact l
 ·rw[hV V5] at hx;have qa:=hx a _ na q;refine⟨λi u hu=>?_,⟨qa,by rw[V6];exact Wf _⟩⟩;rw[Wu] at hu;cases he:es[i]? with
  |none=>rw[he] at hu;cases hu
  |some e=>
   rw[he] at hu;cases hu;refine⟨⟨qa,(We.mp he).1⟩,λx H' y=>?_⟩;obtain⟨rfl,e',he',rfl⟩:=y;rw[he] at he';cases he';exact⟨aG.refl _,(key i e he).re mu hx ha⟩
 ·rw[hV V5] at hx;have qa:=hx a _ na q;refine⟨λi u hu=>?_,⟨qa,by rw[le];exact Wf _⟩⟩;obtain⟨e,he,r⟩:=val i u hu;refine⟨⟨qa,(We.mp he).1⟩,λx H' y=>?_⟩;obtain⟨rfl,e',he',rfl⟩:=y;rw[he] at he';cases he';exact⟨aG.refl _,r.re mu hx ha⟩
 ·rw[Y7];exact WD (Nat.min_le_right _ _) l
 ·rw[hV V5] at hx;have qa:=hx a _ na q;refine⟨λi u hu=>?_,⟨qa,by rw[Y7,V6,le,abu];exact Wf _⟩⟩;rw[List.getElem?_zipWith,Wu] at hu;cases hU:us[i]? with
  |none=>rw[hU] at hu;cases h:es[i]? <;> rw[h] at hu<;>cases hu
  |some u0=>
   obtain⟨e,he,r⟩:=val i u0 hU;rw[hU,he] at hu;cases hu;refine⟨⟨qa,(We.mp he).1⟩,λx H' y=>?_⟩;obtain⟨T,e',rfl,hT,he',rfl⟩:=y;rw[he] at he';cases he';have sm:=bD hT (.tup [.ref e.2.1,e.2.2]);refine⟨sm,?_⟩;unfold Rp;exact⟨T,_,rfl,aH,by have:Wa=16777216:=rfl;rw[this];simp,aA.cons (((key i e he).re mu hx ha).same sm) (aA.cons ((r.re mu hx ha).same sm) aA.nil)⟩
noncomputable def IB (g:Ev->R (U×Ev)):Ev->R (List U×Ev):=λρ=>(g ρ).bind λx=>match x.1 with
 | .dct ks _=>if ug ks=true then .ok (ks,x.2) else .stk
 |_=>.stk
section
variable {e:X4}{cR cpos:Pos}{b1:Bool}{m1:Md}{g1:Ev->R (U×Ev)}
theorem CN {f:List U->List U->List U}{J:Ww->Nat->List (List U×Ww×V)->It}(n1:m1≠.P)(hw:∀{K:Wc} {A:Ww->Prop} {H1:Hp} {ks us:List U} {v:V},(∀a,A a->Mu (H1 a))->ug ks=true->Rp K H1 A (.dct ks us) v->∃a ep es,v=.ref a/\H1 a=some (DN a ep es)/\Wk K false A (f ks us) (J a ep es) H1){R:It->Hp->Prop}(h:QY X.K G b1 false (λρ=>(g1 ρ).bind λx=>match x.1 with
   | .dct ks us=>if ug ks=true then .ok (f ks us,x.2) else .stk
   |_=>.stk) σ H R):TZ J (tD X.K G b1 m1 g1) σ H R:=by
 obtain⟨Z,A,ρ,q,h⟩:=h;dsimp only at h;refine⟨Z,A,ρ,q,?_⟩;cases e1:g1 ρ with
 |stk=>rw[e1] at h;exact h.elim
 |exc=>rw[e1] at h;exact h.elim
 |ok y=>
  obtain⟨u,ρ1⟩:=y;rw[e1] at h;intro v H1 q1 x1 s1 vm;cases u with
  |dct ks us=>
   dsimp only[L2.R.bind] at h;split at h
   ·rename_i Lg ρ' e2;split at e2
    ·rename_i c;cases e2;obtain⟨a,ep,es,ev,hq,wk⟩:=hw q1.mu c (vm.rp n1);exact⟨a,ep,es,ev,hq,h _ H1 q1 x1 s1 wk⟩
    ·cases e2
   ·exact h.elim
  |_=>exact h.elim
theorem lX (h:DE X G e b1 m1 g1)(n1:m1≠.P:=by decide):DI X G tg e b1 false (IB g1):=⟨(IA h.un).to λσ H R z=>CN (f:=λks _=>ks) n1 (λmu w r=>by
 obtain⟨a,ep,es,h1,h2,h3,_⟩:=P6 mu w r;exact⟨a,ep,es,h1,h2,h3⟩) z⟩
end
end L2
namespace L2
noncomputable def Gm.un (G:Gm)(i:Nat):Gm:=⟨G.own.set i false,G.io,G.W⟩
theorem iT:(G.un i).is i=false:=by
 unfold Gm.un Gm.is;dsimp only;rw[WW,List.getElem?_set];split
 ·split<;>rfl
 ·rename_i h;exact absurd rfl h
theorem jz (h:i≠j):(G.un i).is j=G.is j:=by
 unfold Gm.un Gm.is;dsimp only;rw[WW,WW,WQ h]
section
variable {A':Ww->Prop}{ρ':Ev}
theorem cb.un (r:cb K G Z A ρ σ H)(hi:G.io=true->i≠0):∃A',cb K (G.un i) Z A' ρ σ H:=by
 have io0:∀h:(G.un i).io=true,σ[0]? = some (some (.ref Z.a0))/\(G.un i).is 0=true:=λh=>by
  obtain⟨a,b⟩:=r.io0 h;exact⟨a,by rw[jz (hi h)];exact b⟩
 by_cases c:G.is i=true/\∃u,ρ[i]? = some (some u)
 ·obtain⟨c,u,hu⟩:=c;obtain⟨a,h1,h2,h3,h4,h5⟩:=r.own c hu;have na:¬Z.A0 a:=by
   rcases h4 with h4|⟨h4,h6⟩
   ·exact h4
   ·exact absurd h6 (hi h4)
  have sub:∀b,(A b/\b≠a)->A b:=λb z=>z.1;refine⟨λb=>A b/\b≠a,?_⟩;exact {
   slot:=λj w hj=>by
    obtain⟨v,s1,s2⟩:=r.slot j w hj;refine⟨v,s1,?_⟩;by_cases e:i=j
    ·subst e;rw[hu] at hj;cases hj;rw[h1] at s1;cases s1;rw[hV (by rw[iT];exact V5)];exact h5.rp sub λz=>z.2 rfl
    ·rw[jz e];by_cases cj:G.is j=true
     ·rw[hZ cj] at s2 ⊢;obtain⟨b,e1,e2,e3,e4,e5⟩:=s2;refine⟨b,e1,⟨e2,λz=>?_⟩,e3,e4,e5.mono sub⟩;subst z e1;exact r.dis i j u w b c cj e hu hj h1 s1
     ·rw[hV cj] at s2 ⊢;exact s2.mono sub
   dis:=λj k w w' b cj ck ne hj hk sj sk=>by
    have e1:i≠j:=λz=>by subst z;rw[iT] at cj;cases cj
    have e2:i≠k:=λz=>by subst z;rw[iT] at ck;cases ck
    rw[jz e1] at cj;rw[jz e2] at ck;exact r.dis j k w w' b cj ck ne hj hk sj sk
   mu:=λb z=>r.mu b z.1
   sup:=λb z=>⟨r.sup b z,λe=>na (e▸z)⟩
   out:=λb z=>r.out b z.1
   bas:=r.bas
   io0:=io0
   len:=r.len}
 ·refine⟨A,?_⟩;exact {
   slot:=λj w hj=>by
    obtain⟨v,s1,s2⟩:=r.slot j w hj;refine⟨v,s1,?_⟩;by_cases e:i=j
    ·subst e;rw[hV (by rw[iT];exact V5)];rw[hV (λz=>c ⟨z,w,hj⟩)] at s2;exact s2
    ·rw[jz e];exact s2
   dis:=λj k w w' b cj ck ne hj hk sj sk=>by
    have e1:i≠j:=λz=>by subst z;rw[iT] at cj;cases cj
    have e2:i≠k:=λz=>by subst z;rw[iT] at ck;cases ck
    rw[jz e1] at cj;rw[jz e2] at ck;exact r.dis j k w w' b cj ck ne hj hk sj sk
   mu:=r.mu
   sup:=r.sup
   out:=r.out
   bas:=r.bas
   io0:=io0
   len:=r.len}
theorem cb.reun (r:cb K (G.un i) Z A ρ σ H):cb K G Z A (ρ.set i none) σ H where
 slot:=λj w hj=>by
  rcases cx hj with⟨rfl,e⟩|⟨ne,e⟩
  ·cases e
  ·obtain⟨v,s1,s2⟩:=r.slot j w e;rw[jz ne] at s2;exact⟨v,s1,s2⟩
 dis:=λj k w w' a cj ck ne hj hk sj sk=>by
  rcases cx hj with⟨rfl,e⟩|⟨n1,e1⟩
  ·cases e
  ·rcases cx hk with⟨rfl,e⟩|⟨n2,e2⟩
   ·cases e
   ·exact r.dis j k w w' a (by rw[jz n1];exact cj) (by rw[jz n2];exact ck) ne e1 e2 sj sk
 mu:=r.mu
 sup:=r.sup
 out:=r.out
 bas:=r.bas
 io0:=λh=>by
  obtain⟨a,b⟩:=r.io0 h;refine⟨a,?_⟩;by_cases e:i=0
  ·subst e;rw[iT] at b;cases b
  ·rw[jz e] at b;exact b
 len:=by rw[XI];exact r.len
end
noncomputable def nv (i:Nat)(g:Ev->SR):Ev->SR:=λρ=>match g ρ with
 | .nx ρ'=>.nx (ρ'.set i none)
 | .bk ρ'=>.bk (ρ'.set i none)
 | .ct ρ'=>.ct (ρ'.set i none)
 | .rt u ρ'=>.rt u (ρ'.set i none)
 |r=>r
section
variable {e:X4}{JF:List aaX}{m m1:Md}{g:Ev->SR}{g1:Ev->R (U×Ev)}{h1:Ev->R (Bool×Ev)}
theorem xp (hi:G.io=true->i≠0){D:km}(h:Oh X.K G m (nv i g) D σ H):Oh X.K (G.un i) m g D σ H:=by
 obtain⟨Z,A,ρ,q,f⟩:=h;obtain⟨A',q'⟩:=q.un hi;refine⟨Z,A',ρ,q',?_⟩;unfold nv at f;cases e:g ρ with
 |nx=>rw[e] at f;exact λA2 σ2 H2 q2=>f A2 σ2 H2 q2.reun
 |bk=>rw[e] at f;exact λA2 σ2 H2 q2=>f A2 σ2 H2 q2.reun
 |ct=>rw[e] at f;exact λA2 σ2 H2 q2=>f A2 σ2 H2 q2.reun
 |rt=>rw[e] at f;exact λA2 σ2 H2 v q2 vm=>f A2 σ2 H2 v q2.reun vm
 |exc=>rw[e] at f;exact f
 |stk=>rw[e] at f;exact f.elim
theorem AX (i:Nat)(h:tQ X (G.un i) m JF g)(hi:G.io=true->i≠0:=by decide):tQ X G m JF (nv i g):=⟨h.un.to λ_ _ _ z=>xp hi z⟩
theorem MT (i:Nat)(h:DS X (G.un i) m st g)(hi:G.io=true->i≠0:=by decide):DS X G m st (nv i g):=⟨h.un.to λ_ _ _ z=>xp hi z⟩
theorem MU (i:Nat)(h:DT X (G.un i) e false h1)(hi:G.io=true->i≠0:=by decide):DT X G e false h1:=⟨h.un.to λσ H Q h00=>by
 obtain⟨Z,A,ρ,q,f⟩:=h00;obtain⟨A',q'⟩:=q.un hi;refine⟨Z,A',ρ,q',?_⟩;cases e:h1 ρ with
 |ok x=>
  obtain⟨c,ρ1⟩:=x;rw[e] at f;intro H' _ _ s1;obtain⟨rfl,sm⟩:=s1 rfl;exact f H' (q.same sm) (dI.same sm) λ_=>⟨rfl,sm⟩
 |exc=>rw[e] at f;exact f.elim
 |stk=>rw[e] at f;exact f.elim⟩
end
end L2
namespace Hc.Ts
noncomputable def eX:Bool->WB->Array WB->Nat->Nat->Nat->StateT WC Sem (Option Nat):=sortPriv% PySem.Builtin.gallop
noncomputable def fQ (left:Bool)(key:WB)(arr:Array WB)(base i:Nat):StateT WC Sem (Option Bool):=do
 let x ←abH arr (base+i)
 if left then lt' x key else return (←lt' key x).map (!·)
theorem zo (left:Bool)(key:WB)(arr:Array WB)(base n hint:Nat):eX left key arr base n hint=(do
 let mut lastofs:=0
 let mut ofs:=1
 let mut lo:=0
 let mut hi:=0
 let some right ←fQ left key arr base hint|return none
 if right then
  let maxofs:=n-hint
  for _ in [0:n] do
   if ofs≥maxofs then break
   let some more ←fQ left key arr base (hint+ofs)|return none
   if !more then break
   lastofs:=ofs
   ofs:=2*ofs+1
  lo:=hint+lastofs+1
  hi:=hint+min ofs maxofs
 else
  let maxofs:=hint+1
  for _ in [0:n] do
   if ofs≥maxofs then break
   let some found ←fQ left key arr base (hint-ofs)|return none
   if found then break
   lastofs:=ofs
   ofs:=2*ofs+1
  lo:=hint+1-min ofs maxofs
  hi:=hint-lastofs
 for _ in [0:n] do
  if lo≥hi then break
  let m:=lo+(hi-lo) / 2
  let some more ←fQ left key arr base m|return none
  if more then lo:=m+1 else hi:=m
 return some hi):=rfl
section
variable {A:W2}
noncomputable def IC (left:Bool)(key:WB)(arr:Array WB)(base n Vm To:Nat):StateT WC Sem (Option Nat):=do
 let mut lo:=Vm
 let mut hi:=To
 for _ in [0:n] do
  if lo≥hi then break
  let m:=lo+(hi-lo) / 2
  let some more ←fQ left key arr base m|return none
  if more then lo:=m+1 else hi:=m
 return some hi
theorem AY {left:Bool}{key:WB}{base lo hi:Nat}{st:WC}{Q:Option Nat->WC->Prop}(b:Nat->Bool)(hb:∀i,i<n->∀Q:Option Bool->WC->Prop,Q (some (b i)) st->wpS M A E s (fQ left key arr base i) Q st)(mono:∀i j,i<=j->j<n->b j=true->b i=true)(h1:lo<=hi)(h2:hi<=n)(hl:∀i,i<lo->b i=true)(hr:∀i,hi<=i->i<n->b i=false)(h:∀k,k<=n->(∀i,i<k->b i=true)->(∀i,k<=i->i<n->b i=false)->Q (some k) st):wpS M A E s (IC left key arr base n lo hi) Q st:=by
 unfold IC;refine Ws (YO (XJ (I:=λx c aK=>aK=st/\∃l r,c=(none,l,r)/\l<=r/\r<=n/\r-l<=n-x/\(∀i,i<l->b i=true)/\∀i,r<=i->i<n->b i=false)
  (Q:=λc aK=>aK=st/\∃k,c=(none,k,k)/\k<=n/\(∀i,i<k->b i=true)/\∀i,k<=i->i<n->b i=false) ?step ?fin ⟨rfl,lo,hi,rfl,h1,h2,(by lia),hl,hr⟩) ?post)
 case fin=>
  rintro c aK ⟨rfl,l,r,rfl,a1,a2,a3,a4,a5⟩;have:l=r:=(by lia)
  subst this;exact⟨rfl,l,rfl,a2,a4,a5⟩
 case step=>
  rintro x c aK _ hx ⟨rfl,l,r,rfl,a1,a2,a3,a4,a5⟩;dsimp only;by_cases c:l≥r
  ·rw[hZ c];have:l=r:=(by lia)
   subst this;exact Wy ⟨rfl,l,rfl,a2,a4,a5⟩
  ·rw[hV c];refine Ws (hb _ (by lia) _ ?_);dsimp only;cases e:b (l+(r-l) / 2) with
   |true=>
    rw[hZ rfl];exact Wy ⟨rfl,_,r,rfl,(by lia),a2,(by lia),λi hi=>mono i _ (by lia) (by lia) e,a5⟩
   |false=>
    rw[hV V5];refine Wy ⟨rfl,l,_,rfl,(by lia),(by lia),(by lia),a4,λi h1 h2=>?_⟩;cases e2:b i with
    |false=>rfl
    |true=>rw[mono _ i h1 h2 e2] at e;cases e
 case post=>
  rintro c aK ⟨rfl,k,rfl,a1,a2,a3⟩;exact Wy (h k a1 a2 a3)
theorem uh {left:Bool}{key:WB}{base hint:Nat}{st:WC}{Q:Option Nat->WC->Prop}(b:Nat->Bool)(hb:∀i,i<n->∀Q:Option Bool->WC->Prop,Q (some (b i)) st->wpS M A E s (fQ left key arr base i) Q st)(mono:∀i j,i<=j->j<n->b j=true->b i=true)(hh:hint<n)(h:∀k,k<=n->(∀i,i<k->b i=true)->(∀i,k<=i->i<n->b i=false)->Q (some k) st):wpS M A E s (eX left key arr base n hint) Q st:=by
 have Ul:∀i j,i<=j->j<n->b i=false->b j=false:=λi j h1 h2 e=>by
  cases e2:b j with
  |false=>rfl
  |true=>rw[mono i j h1 h2 e2] at e;cases e
 rw[zo];refine Ws (hb hint hh _ ?_);dsimp only;cases e0:b hint with
 |true=>
  rw[hZ rfl];refine Ws (YO (XJ (I:=λx c aK=>aK=st/\∃l o,c=(none,l,o)/\l<o/\x+1<=o/\hint+l<n/\b (hint+l)=true)
   (Q:=λc aK=>aK=st/\∃l o,c=(none,l,o)/\l<o/\hint+l<n/\b (hint+l)=true/\(o≥n-hint\/b (hint+o)=false)) ?step ?fin ⟨rfl,0,1,rfl,(by lia),(by lia),hh,e0⟩) ?post)
  case fin=>
   rintro c aK ⟨rfl,l,o,rfl,a1,a2,a3,a4⟩;exact⟨rfl,l,o,rfl,a1,a3,a4,.inl (by lia)⟩
  case step=>
   rintro x c aK _ hx ⟨rfl,l,o,rfl,a1,a2,a3,a4⟩;dsimp only;by_cases c:o≥n-hint
   ·rw[hZ c];exact Wy ⟨rfl,l,o,rfl,a1,a3,a4,.inl c⟩
   ·rw[hV c];refine Ws (hb _ (by lia) _ ?_);dsimp only;cases e:b (hint+o) with
    |true=>
     rw[hV (by decide)];exact Wy ⟨rfl,o,_,rfl,(by lia),(by lia),(by lia),e⟩
    |false=>
     rw[hZ (by decide)];exact Wy ⟨rfl,l,o,rfl,a1,a3,a4,.inr e⟩
  case post=>
   rintro c aK ⟨rfl,l,o,rfl,a1,a3,a4,a5⟩;show wpS _ _ _ _ (IC left key arr base n (hint+l+1) (hint+min o (n-hint))) _ _;refine AY b hb mono (by lia) (by lia) (λi hi=>mono i _ (by lia) a3 a4) (λi h1 h2=>?_) h;rcases a5 with a5|a5
   ·lia
   ·by_cases c:o<=n-hint
    ·rw[XX c] at h1;exact Ul _ i h1 h2 a5
    ·lia
 |false=>
  rw[hV V5];refine Ws (YO (XJ (I:=λx c aK=>aK=st/\∃l o,c=(none,l,o)/\l<o/\x+1<=o/\l<=hint/\b (hint-l)=false)
   (Q:=λc aK=>aK=st/\∃l o,c=(none,l,o)/\l<o/\l<=hint/\b (hint-l)=false/\(o≥hint+1\/b (hint-o)=true)) ?step ?fin ⟨rfl,0,1,rfl,(by lia),(by lia),(by lia),e0⟩) ?post)
  case fin=>
   rintro c aK ⟨rfl,l,o,rfl,a1,a2,a3,a4⟩;exact⟨rfl,l,o,rfl,a1,a3,a4,.inl (by lia)⟩
  case step=>
   rintro x c aK _ hx ⟨rfl,l,o,rfl,a1,a2,a3,a4⟩;dsimp only;by_cases c:o≥hint+1
   ·rw[hZ c];exact Wy ⟨rfl,l,o,rfl,a1,a3,a4,.inl c⟩
   ·rw[hV c];refine Ws (hb _ (by lia) _ ?_);dsimp only;cases e:b (hint-o) with
    |true=>
     rw[hZ rfl];exact Wy ⟨rfl,l,o,rfl,a1,a3,a4,.inr e⟩
    |false=>
     rw[hV V5];exact Wy ⟨rfl,o,_,rfl,(by lia),(by lia),(by lia),e⟩
  case post=>
   rintro c aK ⟨rfl,l,o,rfl,a1,a3,a4,a5⟩;show wpS _ _ _ _ (IC left key arr base n (hint+1-min o (hint+1)) (hint-l)) _ _;refine AY b hb mono (by lia) (by lia) (λi hi=>?_) (λi h1 h2=>Ul _ i h1 h2 a4) h;rcases a5 with a5|a5
   ·lia
   ·by_cases c:o<=hint+1
    ·rw[XX c] at hi;exact mono i _ (by lia) (by lia) a5
    ·lia
end
end Hc.Ts
namespace Hc.Ts
section
variable {O:abZ}(key:WB->O.α)
def gN (l:List WB):Prop:=l.Pairwise λx y=>O.kle (key x) (key y)
structure MI (T o ra rb:List WB):Prop where
 perm:(o++(ra++rb)).Perm T
 so:gN key o
 sa:gN key ra
 sb:gN key rb
 oa:∀x∈o,∀y∈ra,O.kle (key x) (key y)
 ob:∀x∈o,∀y∈rb,O.kle (key x) (key y)
structure MH (T ra rb o:List WB):Prop where
 perm:((ra++rb)++o).Perm T
 so:gN key o
 sa:gN key ra
 sb:gN key rb
 oa:∀x∈ra,∀y∈o,O.kle (key x) (key y)
 ob:∀x∈rb,∀y∈o,O.kle (key x) (key y)
variable {key}
theorem br {r:List WB}:gN key (l++r)↔gN key l/\gN key r/\∀x∈l,∀y∈r,O.kle (key x) (key y):=List.pairwise_append
theorem MI.stepA {T x:List WB}(h:MI key T o (x++ra) rb)(hx:∀a∈x,∀b∈rb,O.kle (key a) (key b)):MI key T (o++x) ra rb:=by
 obtain⟨s1,s2,s3⟩:=br.mp h.sa;refine⟨?_,br.mpr ⟨h.so,s1,λa ha b hb=>h.oa a ha b (Yc _ hb)⟩,s2,h.sb,λa ha b hb=>?_,λa ha b hb=>?_⟩
 ·have e:o++x++(ra++rb)=o++(x++ra++rb):=by simp[Wz]
  rw[e];exact h.perm
 ·rcases WE.mp ha with ha|ha
  ·exact h.oa a ha b (WJ _ hb)
  ·exact s3 a ha b hb
 ·rcases WE.mp ha with ha|ha
  ·exact h.ob a ha b hb
  ·exact hx a ha b hb
theorem MI.stepB {T y:List WB}(h:MI key T o ra (y++rb))(hy:∀b∈y,∀a∈ra,O.kle (key b) (key a)):MI key T (o++y) ra rb:=by
 obtain⟨s1,s2,s3⟩:=br.mp h.sb;refine⟨?_,br.mpr ⟨h.so,s1,λa ha b hb=>h.ob a ha b (Yc _ hb)⟩,h.sa,s2,λa ha b hb=>?_,λa ha b hb=>?_⟩
 ·refine List.Perm.trans ?_ h.perm;have e:o++y++(ra++rb)=o++((y++ra)++rb):=by simp[Wz]
  have e2:o++(ra++(y++rb))=o++((ra++y)++rb):=by simp[Wz]
  rw[e,e2];exact X2 o (XQ rb Xv)
 ·rcases WE.mp ha with ha|ha
  ·exact h.oa a ha b hb
  ·exact hy a ha b hb
 ·rcases WE.mp ha with ha|ha
  ·exact h.ob a ha b (WJ _ hb)
  ·exact s3 a ha b hb
theorem MI.endA {T:List WB}(h:MI key T o ra []):(o++ra).Perm T/\gN key (o++ra):=by
 refine⟨?_,br.mpr ⟨h.so,h.sa,h.oa⟩⟩;have:=h.perm;rw[WN] at this;exact this
theorem MI.endB {T:List WB}(h:MI key T o [] rb):(o++rb).Perm T/\gN key (o++rb):=⟨h.perm,br.mpr ⟨h.so,h.sb,h.ob⟩⟩
theorem MI.last {T:List WB}(h:MI key T o ra rb)(hl:∀b∈rb,∀a∈ra,O.kle (key b) (key a)):(o++(rb++ra)).Perm T/\gN key (o++(rb++ra)):=
 ⟨(X2 o Xv).trans h.perm,br.mpr ⟨h.so,br.mpr ⟨h.sb,h.sa,hl⟩,λa ha b hb=>by
  rcases WE.mp hb with hb|hb
  ·exact h.ob a ha b hb
  ·exact h.oa a ha b hb⟩⟩
theorem MH.stepA {T x:List WB}(h:MH key T (ra++x) rb o)(hx:∀b∈rb,∀a∈x,O.kle (key b) (key a)):MH key T ra rb (x++o):=by
 obtain⟨s1,s2,s3⟩:=br.mp h.sa;refine⟨?_,br.mpr ⟨s2,h.so,λa ha b hb=>h.oa a (WJ _ ha) b hb⟩,s1,h.sb,λa ha b hb=>?_,λa ha b hb=>?_⟩
 ·refine List.Perm.trans ?_ h.perm;have e:ra++rb++(x++o)=(ra++(rb++x))++o:=by simp[Wz]
  have e2:ra++x++rb++o=(ra++(x++rb))++o:=by simp[Wz]
  rw[e,e2];exact XQ o (X2 ra Xv)
 ·rcases WE.mp hb with hb|hb
  ·exact s3 a ha b hb
  ·exact h.oa a (Yc _ ha) b hb
 ·rcases WE.mp hb with hb|hb
  ·exact hx a ha b hb
  ·exact h.ob a ha b hb
theorem MH.stepB {T y:List WB}(h:MH key T ra (rb++y) o)(hy:∀a∈ra,∀b∈y,O.kle (key a) (key b)):MH key T ra rb (y++o):=by
 obtain⟨s1,s2,s3⟩:=br.mp h.sb;refine⟨?_,br.mpr ⟨s2,h.so,λa ha b hb=>h.ob a (WJ _ ha) b hb⟩,h.sa,s1,λa ha b hb=>?_,λa ha b hb=>?_⟩
 ·have e:ra++rb++(y++o)=ra++(rb++y)++o:=by simp[Wz]
  rw[e];exact h.perm
 ·rcases WE.mp hb with hb|hb
  ·exact hy a ha b hb
  ·exact h.oa a ha b hb
 ·rcases WE.mp hb with hb|hb
  ·exact s3 a ha b hb
  ·exact h.ob a (Yc _ ha) b hb
theorem MH.endB {T:List WB}(h:MH key T [] rb o):(rb++o).Perm T/\gN key (rb++o):=⟨h.perm,br.mpr ⟨h.sb,h.so,h.ob⟩⟩
theorem MH.endA {T:List WB}(h:MH key T ra [] o):(ra++o).Perm T/\gN key (ra++o):=by
 refine⟨?_,br.mpr ⟨h.sa,h.so,h.oa⟩⟩;have:=h.perm;rw[WN] at this;exact this
theorem MH.first {T:List WB}(h:MH key T ra rb o)(hl:∀b∈rb,∀a∈ra,O.kle (key b) (key a)):((rb++ra)++o).Perm T/\gN key ((rb++ra)++o):=
 ⟨(XQ o Xv).trans h.perm,br.mpr ⟨br.mpr ⟨h.sb,h.sa,hl⟩,h.so,λa ha b hb=>by
  rcases WE.mp ha with ha|ha
  ·exact h.ob a ha b hb
  ·exact h.oa a ha b hb⟩⟩
end
structure kD (M:Model)(A:W2)(E:Wd->Wr->Prop)(s:Wr)(O:abZ)(key:WB->O.α)(knd:aac)(D:WB->Prop):Prop where
 lt:∀(x y:WB) (st:WC) (Q:Option Bool->WC->Prop),D x->D y->XB st=knd->Q (some (O.blt (key x) (key y))) st->wpS M A E s (lt' x y) Q st
section
variable {A:W2}{O:abZ}{key:WB->O.α}{knd:aac}{D:WB->Prop}
theorem bB {x:WB}{st:WC}{Q:WB->WC->Prop}(h:arr.toList[i]? = some x)(q:Q x st):wpS M A E s (abH arr i) Q st:=by
 have h:arr[i]? = some x:=by rw[←WX];exact h
 rw[elem'_eq,h];exact Wy q
theorem kE (C:kD M A E s O key knd D){kx:WB}{base hint:Nat}{seg:List WB}{st:WC}{Q:Option Nat->WC->Prop}(N6:∀i x,seg[i]? = some x->arr.toList[base+i]? = some x)(hs:gN key seg)(hD:∀x∈seg,D x)(hk:D kx)(kd:XB st=knd)(hh:hint<seg.length)(h:∀k,k<=seg.length->(∀x∈seg.take k,O.kle (key x) (key kx))->(∀x∈seg.drop k,O.klt (key kx) (key x))->Q (some k) st):wpS M A E s (eX false kx arr base seg.length hint) Q st:=by
 have at_:∀i,(hi:i<seg.length)->seg[i]? = some seg[i]:=λi hi=>V4 hi;refine uh (λi=> !(match seg[i]? with|some x=>O.blt (key kx) (key x)|none=>false)) (λi hi Q q=>?_) (λi j tf hj e=>?_) hh λk Lk h1 h2=>h k Lk (λx hx=>?_) λx hx=>?_
 ·rw[at_ i hi] at q;unfold fQ;refine Ws (bB (N6 i _ (at_ i hi)) ?_);rw[hV V5];exact Ws (C.lt _ _ st _ hk (hD _ (WU hi)) kd (Wy q))
 ·have hi:i<seg.length:=(by lia)
  simp only[at_ i hi,at_ j hj,abS] at e ⊢;by_cases c:i=j
  ·subst c;exact e
  ·have:=ZO.mp hs i j hi hj (by lia);exact W0 this e
 ·obtain⟨i,hi,rfl⟩:=Yx.mp hx;rw[Wx] at hi;have:=h1 i (by lia);simp only[at_ i (by lia),abS] at this;rw[aau];exact this
 ·obtain⟨i,hi,rfl⟩:=Yx.mp hx;rw[W9] at hi;have:=h2 (k+i) (by lia) (by lia);simp only[at_ (k+i) (by lia),Bool.not_eq_false'] at this;rw[List.getElem_drop];exact this
theorem kF (C:kD M A E s O key knd D){kx:WB}{base hint:Nat}{seg:List WB}{st:WC}{Q:Option Nat->WC->Prop}(N6:∀i x,seg[i]? = some x->arr.toList[base+i]? = some x)(hs:gN key seg)(hD:∀x∈seg,D x)(hk:D kx)(kd:XB st=knd)(hh:hint<seg.length)(h:∀k,k<=seg.length->(∀x∈seg.take k,O.klt (key x) (key kx))->(∀x∈seg.drop k,O.kle (key kx) (key x))->Q (some k) st):wpS M A E s (eX true kx arr base seg.length hint) Q st:=by
 have at_:∀i,(hi:i<seg.length)->seg[i]? = some seg[i]:=λi hi=>V4 hi;refine uh (λi=>match seg[i]? with|some x=>O.blt (key x) (key kx)|none=>false) (λi hi Q q=>?_) (λi j tf hj e=>?_) hh λk Lk h1 h2=>h k Lk (λx hx=>?_) λx hx=>?_
 ·rw[at_ i hi] at q;unfold fQ;refine Ws (bB (N6 i _ (at_ i hi)) ?_);rw[hZ rfl];exact C.lt _ _ st _ (hD _ (WU hi)) hk kd q
 ·have hi:i<seg.length:=(by lia)
  simp only[at_ i hi,at_ j hj] at e ⊢;by_cases c:i=j
  ·subst c;exact e
  ·have:=ZO.mp hs i j hi hj (by lia);exact KeyOrd.klt_of_kle_of_klt this e
 ·obtain⟨i,hi,rfl⟩:=Yx.mp hx;rw[Wx] at hi;have:=h1 i (by lia);simp only[at_ i (by lia)] at this;rw[aau];exact this
 ·obtain⟨i,hi,rfl⟩:=Yx.mp hx;rw[W9] at hi;have:=h2 (k+i) (by lia) (by lia);simp only[at_ (k+i) (by lia)] at this;rw[List.getElem_drop];exact this
end
end Hc.Ts
namespace Hc.Ts
noncomputable abbrev cP (st:WC)(g:Nat):WC:=SortSt.mk' (XB st) (W5 st) (WZ st) g (ZR st)
noncomputable def bO (g:Nat):StateT WC Sem Unit:=modify λs=>cP s g
noncomputable def qV:Array WB->Array WB->StateT WC Sem (Array WB):=sortPriv% PySem.Builtin.mergeLo
noncomputable abbrev KR:=Option (Array WB)×Array WB×Nat×Nat×Nat×Nat×Nat
noncomputable abbrev Oj:=Option (Array WB)×Array WB×Nat×Nat×Nat×Nat
noncomputable abbrev Rb:=Option (Array WB)×Array WB×Nat×Nat×Nat
noncomputable def fG (a b out:Array WB)(ia ib:Nat):Array WB:=out++a.extract ia a.size++b.extract ib b.size
noncomputable def kG (a b out:Array WB)(ia ib:Nat):Array WB:=out++b.extract ib b.size++a.extract ia a.size
noncomputable def ID (a b out:Array WB)(ia ib g k k1:Nat):StateT WC Sem (ForInStep KR):=do
 let x ←abH a ia
 if (ia+1+1==a.size)=true then pure (.done (some (kG a b (out.push x) (ia+1) ib),out.push x,ia+1,ib,g,k,k1))
 else if (decide (k<7)&&decide (k1<7))=true then pure (.done (none,out.push x,ia+1,ib,g,k,k1))
 else pure (.yield (none,out.push x,ia+1,ib,g,k,k1))
noncomputable def IE (a b out:Array WB)(ia ib g k bc:Nat):StateT WC Sem (ForInStep KR):=do
 let y ←abH b ib
 if (ib+1==b.size)=true then pure (.done (some (fG a b (out.push y) ia (ib+1)),out.push y,ia,ib+1,g,k,bc))
 else do
  let x ←abH a ia
  let some k1 ←eX true x b (ib+1) (b.size-(ib+1)) 0|pure (.done (some (fG a b (out.push y) ia (ib+1)),out.push y,ia,ib+1,g,k,bc))
  if k1>0 then
   if (ib+1+k1==b.size)=true then pure (.done (some (fG a b (out.push y++b.extract (ib+1) (ib+1+k1)) ia (ib+1+k1)),out.push y++b.extract (ib+1) (ib+1+k1),ia,ib+1+k1,g,k,k1))
   else ID a b (out.push y++b.extract (ib+1) (ib+1+k1)) ia (ib+1+k1) g k k1
  else ID a b (out.push y) ia (ib+1) g k k1
noncomputable def IF (a b out:Array WB)(ia ib g ac bc:Nat):StateT WC Sem (ForInStep KR):=do
 bO g
 let y ←abH b ib
 let some k ←eX false y a ia (a.size-ia) 0|pure (.done (some (fG a b out ia ib),out,ia,ib,g,ac,bc))
 if k>0 then
  if (ia+k+1==a.size)=true then pure (.done (some (kG a b (out++a.extract ia (ia+k)) (ia+k) ib),out++a.extract ia (ia+k),ia+k,ib,g,k,bc))
  else if (ia+k==a.size)=true then pure (.done (some (fG a b (out++a.extract ia (ia+k)) (ia+k) ib),out++a.extract ia (ia+k),ia+k,ib,g,k,bc))
  else IE a b (out++a.extract ia (ia+k)) (ia+k) ib g k bc
 else IE a b out ia ib g k bc
noncomputable def Sl (a b:Array WB)(_:Nat)(c:KR):StateT WC Sem (ForInStep KR):=
 if c.2.2.2.2.1>1 then IF a b c.2.1 c.2.2.1 c.2.2.2.1 (c.2.2.2.2.1-1) c.2.2.2.2.2.1 c.2.2.2.2.2.2
 else IF a b c.2.1 c.2.2.1 c.2.2.2.1 c.2.2.2.2.1 c.2.2.2.2.2.1 c.2.2.2.2.2.2
noncomputable def Sn (a b:Array WB)(g:Nat)(_:Nat)(c:Oj):StateT WC Sem (ForInStep Oj):=do
 let y ←abH b c.2.2.2.1
 let x ←abH a c.2.2.1
 let some bWins ←lt' y x|pure (.done (some (fG a b c.2.1 c.2.2.1 c.2.2.2.1),c.2.1,c.2.2.1,c.2.2.2.1,c.2.2.2.2.1,c.2.2.2.2.2))
 if bWins=true then do
   let y ←abH b c.2.2.2.1
   if (c.2.2.2.1+1==b.size)=true then pure (.done (some (fG a b (c.2.1.push y) c.2.2.1 (c.2.2.2.1+1)),c.2.1.push y,c.2.2.1,c.2.2.2.1+1,0,c.2.2.2.2.2+1))
   else if c.2.2.2.2.2+1≥g then pure (.done (none,c.2.1.push y,c.2.2.1,c.2.2.2.1+1,0,c.2.2.2.2.2+1))
   else pure (.yield (none,c.2.1.push y,c.2.2.1,c.2.2.2.1+1,0,c.2.2.2.2.2+1))
 else do
   let x ←abH a c.2.2.1
   if (c.2.2.1+1+1==a.size)=true then pure (.done (some (kG a b (c.2.1.push x) (c.2.2.1+1) c.2.2.2.1),c.2.1.push x,c.2.2.1+1,c.2.2.2.1,c.2.2.2.2.1+1,0))
   else if c.2.2.2.2.1+1≥g then pure (.done (none,c.2.1.push x,c.2.2.1+1,c.2.2.2.1,c.2.2.2.2.1+1,0))
   else pure (.yield (none,c.2.1.push x,c.2.2.1+1,c.2.2.2.1,c.2.2.2.2.1+1,0))
noncomputable def So (a b:Array WB)(_:Nat)(c:Rb):StateT WC Sem (ForInStep Rb):=do
 let d ←forIn [0:a.size+b.size] (none,c.2.1,c.2.2.1,c.2.2.2.1,0,0) (Sn a b c.2.2.2.2)
 match d.1 with
 |some r=>pure (.done (some r,d.2.1,d.2.2.1,d.2.2.2.1,c.2.2.2.2))
 |none=>do
  liftM (rule "list.sort.gallop")
  let e ←forIn [0:a.size+b.size] (none,d.2.1,d.2.2.1,d.2.2.2.1,c.2.2.2.2+1,d.2.2.2.2.1,d.2.2.2.2.2) (Sl a b)
  match e.1 with
  |some r=>pure (.done (some r,e.2.1,e.2.2.1,e.2.2.2.1,e.2.2.2.2.1))
  |none=>do
   bO (e.2.2.2.2.1+1)
   pure (.yield (none,e.2.1,e.2.2.1,e.2.2.2.1,e.2.2.2.2.1+1))
theorem vi (a b:Array WB):qV a b=(do
  liftM (rule "list.sort.merge-lo")
  let y ←abH b 0
  if (1==b.size)=true then pure (fG a b (List.toArray [y]) 0 1)
  else if (0+1==a.size)=true then pure (kG a b (List.toArray [y]) 0 1)
  else do
   let st ←get
   let c ←forIn [0:a.size+b.size] ((none,(List.toArray [y]),0,1,abw st):Rb) (So a b)
   match c.1 with
   |some r=>pure r
   |none=>liftM (aa6 "internal:list.sort.merge-bound")):=by kernel_rfl
section
variable {A:W2}{O:abZ}{key:WB->O.α}{knd:aac}{D:WB->Prop}
theorem pH (a:Array WB)(i:Nat):(a.extract i a.size).toList=a.toList.drop i:=by
 rw[ZG,YW];exact Ye (by simp)
theorem vj (a:Array WB)(i k:Nat):(a.extract i (i+k)).toList=(a.toList.drop i).take k:=by
 rw[ZG,YW,X_]
theorem xq (a b out:Array WB)(ia ib:Nat):(fG a b out ia ib).toList=out.toList++(a.toList.drop ia++b.toList.drop ib):=by
 unfold fG;rw[Xn,Xn,pH,pH,Wz]
theorem FD (a b out:Array WB)(ia ib:Nat):(kG a b out ia ib).toList=out.toList++(b.toList.drop ib++a.toList.drop ia):=by
 unfold kG;rw[Xn,Xn,pH,pH,Wz]
theorem jT (h:i<l.length):l.drop i=[l[i]]++l.drop (i+1):=Yl h
theorem qW (i k:Nat):l.drop i=(l.drop i).take k++l.drop (i+k):=by rw[←abI,Xh]
def pJ (key:WB->O.α)(T:List WB)(r:Array WB):Prop:=r.toList.Perm T/\gN key r.toList
structure LI (key:WB->O.α)(T:List WB)(a b out:Array WB)(ia ib:Nat):Prop where
 ha:ia+1<a.size
 hb:ib<b.size
 mi:MI key T out.toList (a.toList.drop ia) (b.toList.drop ib)
structure LR (key:WB->O.α)(D:WB->Prop)(a b:Array WB):Prop where
 da:∀x∈a.toList,D x
 db:∀x∈b.toList,D x
 last:∀i,i+1=a.size->∀y∈b.toList,∀x,a.toList[i]? = some x->O.kle (key y) (key x)
variable {T:List WB}{a b out:Array WB}{ia ib:Nat}
theorem LR.fin (R:LR key D a b)(h:MI key T out.toList (a.toList.drop ia) (b.toList.drop ib))(e:ia+1=a.size):pJ key T (kG a b out ia ib):=by
 unfold pJ;rw[FD];refine h.last λy hy x hx=>?_;have hl:ia<a.toList.length:=by rw[Wg];lia
 have hn:a.toList.drop (ia+1)=[]:=Ze (by rw[Wg];lia);rw[jT hl,hn,WN,WK] at hx;subst hx;exact R.last ia e y (Yy hy) _ (V4 hl)
theorem AZ (h:MI key T out.toList (a.toList.drop ia) (b.toList.drop ib))(e:ib=b.size):pJ key T (fG a b out ia ib):=by
 have hn:b.toList.drop ib=[]:=Ze (by rw[Wg];lia);unfold pJ;rw[xq];rw[hn] at h ⊢;rw[WN];exact h.endA
theorem P7 (h:MI key T out.toList (a.toList.drop ia) (b.toList.drop ib))(e:ia=a.size):pJ key T (fG a b out ia ib):=by
 have hn:a.toList.drop ia=[]:=Ze (by rw[Wg];lia);unfold pJ;rw[xq];rw[hn] at h ⊢;rw[X7];exact h.endB
theorem jA (h:gN key (l.drop i))(hl:i<l.length):∀x∈l.drop i,O.kle (key l[i]) (key x):=by
 intro x hx;rw[jT hl] at h hx;rcases WE.mp hx with hx|hx
 ·rw[WK] at hx;subst hx;exact XY _
 ·exact (br.mp h).2.2 _ (by simp) x hx
theorem KS (h:MI key T out.toList (a.toList.drop ia) (b.toList.drop ib))(hl:ia<a.toList.length)(hx:∀y∈b.toList.drop ib,O.kle (key a.toList[ia]) (key y)):MI key T (out.push a.toList[ia]).toList (a.toList.drop (ia+1)) (b.toList.drop ib):=by
 rw[ZA];rw[jT hl] at h;exact h.stepA λx sG y hy=>by rw[WK] at sG;subst sG;exact hx y hy
theorem FE (h:MI key T out.toList (a.toList.drop ia) (b.toList.drop ib))(hl:ib<b.toList.length)(hx:∀x∈a.toList.drop ia,O.kle (key b.toList[ib]) (key x)):MI key T (out.push b.toList[ib]).toList (a.toList.drop ia) (b.toList.drop (ib+1)):=by
 rw[ZA];rw[jT hl] at h;exact h.stepB λx sG y hy=>by rw[WK] at sG;subst sG;exact hx y hy
def GE (key:WB->O.α)(T:List WB)(a b:Array WB)(n:Nat)(bX:WC)(c:KR)(st:WC):Prop:=
 (∃g,st=cP bX g)/\((∃r,c.1=some r/\pJ key T r)\/(c.1=none/\LI key T a b c.2.1 c.2.2.1 c.2.2.2.1/\n<=c.2.2.1+c.2.2.2.1))
def GS (key:WB->O.α)(T:List WB)(a b:Array WB)(n:Nat)(bX:WC)(r:ForInStep KR)(st:WC):Prop:=
 match r with
 | .done c=>GE key T a b n bX c st
 | .yield c=>GE key T a b n bX c st/\c.1=none
theorem A4 (R:LR key D a b){k1:Nat}{st bX:WC}(fU:∃g,st=cP bX g)(h:LI key T a b out ia ib)(hn:n<=ia+ib)(hx:∀(hl:ia<a.toList.length),∀y∈b.toList.drop ib,O.kle (key a.toList[ia]) (key y)) :
  wpS M A E s (ID a b out ia ib g k k1) (GS key T a b n bX) st:=by
 have hl:ia<a.toList.length:=by have:=h.ha;rw[Wg];lia
 have m:=KS h.mi hl (hx hl);unfold ID;refine Ws (bB (V4 hl) ?_);by_cases c:ia+1+1=a.size
 ·rw[hZ (by simpa using c)];exact Wy ⟨fU,.inl ⟨_,rfl,R.fin m c⟩⟩
 ·rw[hV (by simpa using c)];have L:LI key T a b (out.push a.toList[ia]) (ia+1) ib:=⟨by have:=h.ha;lia,h.hb,m⟩;by_cases c2:(decide (k<7)&&decide (k1<7))=true
  ·rw[hZ c2];exact Wy ⟨fU,.inr ⟨rfl,L,by simp only;lia⟩⟩
  ·rw[hV c2];exact Wy ⟨⟨fU,.inr ⟨rfl,L,by simp only;lia⟩⟩,rfl⟩
theorem A5 (C:kD M A E s O key knd D)(R:LR key D a b){st bX:WC}(fU:∃g,st=cP bX g)(kd:XB bX=knd)(h:LI key T a b out ia ib)(hn:n<=ia+ib)(hx:∀(hl:ib<b.toList.length),∀x∈a.toList.drop ia,O.kle (key b.toList[ib]) (key x)) :
  wpS M A E s (IE a b out ia ib g k bc) (GS key T a b n bX) st:=by
 have kN:ib<b.toList.length:=by have:=h.hb;rw[Wg];lia
 have pe:ia<a.toList.length:=by have:=h.ha;rw[Wg];lia
 have m:=FE h.mi kN (hx kN);have GU:XB st=knd:=by obtain⟨g,rfl⟩:=fU;exact kd
 unfold IE;refine Ws (bB (V4 kN) ?_);by_cases c:ib+1=b.size
 ·rw[hZ (by simpa using c)];exact Wy ⟨fU,.inl ⟨_,rfl,AZ m c⟩⟩
 ·rw[hV (by simpa using c)];refine Ws (bB (V4 pe) ?_);have cv:b.size-(ib+1)=(b.toList.drop (ib+1)).length:=by rw[W9,Wg]
  rw[cv];refine Ws (kF C (seg:=b.toList.drop (ib+1)) (λi x e=>by rw[abx] at e;exact e) m.sb (λx hx=>R.db x (Yy hx)) (R.da _ (WU pe)) GU (by rw[←cv];have:=h.hb;lia) λk1 Lk p1 p2=>?_);dsimp only;by_cases c1:k1>0
  ·rw[hZ c1];have m2:MI key T (out.push b.toList[ib]++b.extract (ib+1) (ib+1+k1)).toList (a.toList.drop ia) (b.toList.drop (ib+1+k1)):=by
    rw[Xn,vj];have m':=m;rw[qW (l:=b.toList) (ib+1) k1] at m';exact m'.stepB λy hy x sG=>W0 (Xi (p1 y hy)) (jA h.mi.sa pe x sG)
   by_cases c2:ib+1+k1=b.size
   ·rw[hZ (by simpa using c2)];exact Wy ⟨fU,.inl ⟨_,rfl,AZ m2 c2⟩⟩
   ·rw[hV (by simpa using c2)];have:k1<=b.size-(ib+1):=by rw[cv];exact Lk
    refine A4 R fU ⟨h.ha,by have:=h.hb;lia,m2⟩ (by lia) λhl y hy=>?_;rw[←abI] at hy;exact p2 y hy
  ·rw[hV c1];have:k1=0:=(by lia)
   subst this;refine A4 R fU ⟨h.ha,by have:=h.hb;lia,m⟩ (by lia) λhl y hy=>p2 y hy
theorem A6 (C:kD M A E s O key knd D)(R:LR key D a b){ac:Nat}{st bX:WC}(fU:∃g,st=cP bX g)(kd:XB bX=knd)(h:LI key T a b out ia ib)(hn:n<=ia+ib) :
  wpS M A E s (IF a b out ia ib g ac bc) (GS key T a b n bX) st:=by
 have kN:ib<b.toList.length:=by have:=h.hb;rw[Wg];lia
 have pe:ia<a.toList.length:=by have:=h.ha;rw[Wg];lia
 unfold IF bO;have yq:∃g',cP st g=cP bX g':=by obtain⟨g0,rfl⟩:=fU;exact⟨g,rfl⟩
 have GU:XB (cP st g)=knd:=by obtain⟨g0,rfl⟩:=fU;exact kd
 refine Ws (Z0 ?_);refine Ws (bB (V4 kN) ?_);have cv:a.size-ia=(a.toList.drop ia).length:=by rw[W9,Wg]
 rw[cv];refine Ws (kE C (seg:=a.toList.drop ia) (λi x e=>by rw[abx] at e;exact e) h.mi.sa (λx hx=>R.da x (Yy hx)) (R.db _ (WU kN)) GU (by rw[←cv];have:=h.ha;lia) λk hk p1 p2=>?_);dsimp only;by_cases c1:k>0
 ·rw[hZ c1];have m2:MI key T (out++a.extract ia (ia+k)).toList (a.toList.drop (ia+k)) (b.toList.drop ib):=by
   rw[Xn,vj];have m':=h.mi;rw[qW (l:=a.toList) ia k] at m';exact m'.stepA λx hx y hy=>W0 (p1 x hx) (jA h.mi.sb kN y hy)
  by_cases c2:ia+k+1=a.size
  ·rw[hZ (by simpa using c2)];exact Wy ⟨yq,.inl ⟨_,rfl,R.fin m2 c2⟩⟩
  ·rw[hV (by simpa using c2)];by_cases c3:ia+k=a.size
   ·rw[hZ (by simpa using c3)];exact Wy ⟨yq,.inl ⟨_,rfl,P7 m2 c3⟩⟩
   ·rw[hV (by simpa using c3)];have:k<=a.size-ia:=by rw[cv];exact hk
    refine A5 C R yq kd ⟨by have:=h.ha;lia,h.hb,m2⟩ (by lia) λhl x hx=>?_;rw[←abI] at hx;exact Xi (p2 x hx)
 ·rw[hV c1];have:k=0:=(by lia)
  subst this;exact A5 C R yq kd h hn λhl x hx=>Xi (p2 x hx)
theorem MV (C:kD M A E s O key knd D)(R:LR key D a b){c:KR}{st bX:WC}(fU:∃g,st=cP bX g)(kd:XB bX=knd)(h:LI key T a b c.2.1 c.2.2.1 c.2.2.2.1)(hn:n<=c.2.2.1+c.2.2.2.1) :
  wpS M A E s (Sl a b i c) (GS key T a b n bX) st:=by
 unfold Sl;split
 ·exact A6 C R fU kd h hn
 ·exact A6 C R fU kd h hn
theorem MW (C:kD M A E s O key knd D)(R:LR key D a b){c:Oj}{st:WC}{Q:ForInStep Oj->WC->Prop}(kd:XB st=knd)(h:LI key T a b c.2.1 c.2.2.1 c.2.2.2.1)(h1:∀d:Oj,(∃r,d.1=some r/\pJ key T r)\/(d.1=none/\LI key T a b d.2.1 d.2.2.1 d.2.2.2.1/\c.2.2.1+c.2.2.2.1+1=d.2.2.1+d.2.2.2.1)->Q (.done d) st)(h2:∀d:Oj,d.1=none->LI key T a b d.2.1 d.2.2.1 d.2.2.2.1->c.2.2.1+c.2.2.2.1+1=d.2.2.1+d.2.2.2.1->Q (.yield d) st) :
  wpS M A E s (Sn a b g i c) Q st:=by
 obtain⟨r0,out,ia,ib,ac,bc⟩:=c;dsimp only at h h1 h2 ⊢;have kN:ib<b.toList.length:=by have:=h.hb;rw[Wg];lia
 have pe:ia<a.toList.length:=by have:=h.ha;rw[Wg];lia
 unfold Sn;dsimp only;refine Ws (bB (V4 kN) ?_);refine Ws (bB (V4 pe) ?_);refine Ws (C.lt _ _ st _ (R.db _ (WU kN)) (R.da _ (WU pe)) kd ?_);dsimp only;cases e:O.blt (key b.toList[ib]) (key a.toList[ia]) with
 |true=>
  rw[hZ rfl];have m:=FE h.mi kN λx hx=>W0 (Xi e) (jA h.mi.sa pe x hx);refine Ws (bB (V4 kN) ?_);by_cases c:ib+1=b.size
  ·rw[hZ (by simpa using c)];exact Wy (h1 _ (.inl ⟨_,rfl,AZ m c⟩))
  ·rw[hV (by simpa using c)];have L:LI key T a b (out.push b.toList[ib]) ia (ib+1):=⟨h.ha,by have:=h.hb;lia,m⟩;split
   ·exact Wy (h1 _ (.inr ⟨rfl,L,by simp only;lia⟩))
   ·exact Wy (h2 _ rfl L (by simp only;lia))
 |false=>
  rw[hV V5];have m:=KS h.mi pe λy hy=>W0 (show O.kle _ _ from e) (jA h.mi.sb kN y hy);refine Ws (bB (V4 pe) ?_);by_cases c:ia+1+1=a.size
  ·rw[hZ (by simpa using c)];exact Wy (h1 _ (.inl ⟨_,rfl,R.fin m c⟩))
  ·rw[hV (by simpa using c)];have L:LI key T a b (out.push a.toList[ia]) (ia+1) ib:=⟨by have:=h.ha;lia,h.hb,m⟩;split
   ·exact Wy (h1 _ (.inr ⟨rfl,L,by simp only;lia⟩))
   ·exact Wy (h2 _ rfl L (by simp only;lia))
theorem MX (C:kD M A E s O key knd D)(R:LR key D a b){c:Rb}{st bX:WC}(fU:∃g,st=cP bX g)(kd:XB bX=knd)(h:LI key T a b c.2.1 c.2.2.1 c.2.2.2.1) :
  wpS M A E s (So a b i c) (λr aK=>(∃g,aK=cP bX g)/\match r with
   | .done d=>∃r,d.1=some r/\pJ key T r
   | .yield d=>d.1=none/\LI key T a b d.2.1 d.2.2.1 d.2.2.2.1/\c.2.2.1+c.2.2.2.1+1<=d.2.2.1+d.2.2.2.1) st:=by
 obtain⟨r0,out,ia,ib,g0⟩:=c;dsimp only at h ⊢;have GU:XB st=knd:=by obtain⟨g,rfl⟩:=fU;exact kd
 unfold So;dsimp only;have hs:1<=a.size+b.size:=by have:=h.hb;lia
 refine Ws (YO (XJ (I:=λx d aK=>aK=st/\d.1=none/\LI key T a b d.2.1 d.2.2.1 d.2.2.2.1/\ia+ib+x=d.2.2.1+d.2.2.2.1)
  (Q:=λd aK=>aK=st/\((∃r,d.1=some r/\pJ key T r)\/(d.1=none/\LI key T a b d.2.1 d.2.2.1 d.2.2.2.1/\ia+ib+1<=d.2.2.1+d.2.2.2.1))) ?step ?fin ⟨rfl,rfl,h,by simp only;lia⟩) ?post)
 case fin=>
  rintro d aK ⟨rfl,e1,e2,e3⟩;exact⟨rfl,.inr ⟨e1,e2,(by lia)⟩⟩
 case step=>
  rintro x d aK _ hx ⟨rfl,e1,e2,e3⟩;refine MW C R GU e2 (λd' hd=>?_) λd' p1 p2 p3=>?_
  ·rcases hd with hd|⟨p1,p2,p3⟩
   ·exact⟨rfl,.inl hd⟩
   ·exact⟨rfl,.inr ⟨p1,p2,(by lia)⟩⟩
  ·exact⟨rfl,p1,p2,(by lia)⟩
 case post=>
  rintro d aK ⟨rfl,hd⟩;obtain⟨dr,dout,dia,dib,dac,dbc⟩:=d;dsimp only at hd ⊢;rcases hd with⟨r,rfl,hr⟩|⟨rfl,hL,hn⟩
  ·exact Wy ⟨fU,r,rfl,hr⟩
  ·dsimp only;refine Ws (wpS_lift (YI ⟨rfl,?_⟩));refine Ws (YO (XJ (I:=λx d aK=>GE key T a b (ia+ib+1) bX d aK/\d.1=none)
    (Q:=λd aK=>GE key T a b (ia+ib+1) bX d aK) ?_ (λd aK h=>h.1) ⟨⟨fU,.inr ⟨rfl,hL,hn⟩⟩,rfl⟩) ?_)
   ·rintro x d aK _ hx ⟨⟨hs',hd⟩,e1⟩;rcases hd with⟨r,e2,_⟩|⟨_,e3,e4⟩
    ·rw[e1] at e2;cases e2
    ·refine YO (MV C R hs' kd e3 e4) λr N7 hr=>?_;cases r with
     |done d'=>exact hr
     |yield d'=>exact hr
   ·rintro d aK ⟨hs',hd⟩;obtain⟨er,eout,eia,eib,eg,eac,ebc⟩:=d;dsimp only at hd ⊢;rcases hd with⟨r,rfl,hr⟩|⟨rfl,hL2,Ov⟩
    ·exact Wy ⟨hs',r,rfl,hr⟩
    ·dsimp only;unfold bO;refine Ws (Z0 (Wy ⟨?_,rfl,hL2,Ov⟩));obtain⟨g,rfl⟩:=hs';exact⟨_,rfl⟩
theorem zq (C:kD M A E s O key knd D)(R:LR key D a b){st:WC}{Q:Array WB->WC->Prop}(kd:XB st=knd)(sa:gN key a.toList)(sb:gN key b.toList)(ha:0<a.size)(hb:0<b.size)
  (first:∀y,b.toList[0]? = some y->∀x∈a.toList,O.kle (key y) (key x))
  (h:∀r g,r.toList.Perm (a.toList++b.toList)->gN key r.toList->Q r (cP st g)):wpS M A E s (qV a b) Q st:=by
 have kN:0<b.toList.length:=by rw[Wg];exact hb
 have m:MI key (a.toList++b.toList) ((List.toArray [b.toList[0]]):Array WB).toList (a.toList.drop 0) (b.toList.drop 1):=by
  have m0:MI key (a.toList++b.toList) ((List.toArray []):Array WB).toList (a.toList.drop 0) (b.toList.drop 0):=
   ⟨by simp,List.Pairwise.nil,sa,sb,λx hx=>absurd hx (by simp),λx hx=>absurd hx (by simp)⟩
  exact FE m0 kN (λx hx=>first _ (V4 kN) x hx)
 have fin:∀r g,pJ key (a.toList++b.toList) r->Q r (cP st g):=λr g hr=>h r g hr.1 hr.2;rw[vi];refine Ws (wpS_lift (YI ⟨rfl,?_⟩));refine Ws (bB (V4 kN) ?_);by_cases c:1=b.size
 ·rw[hZ (by simpa using c)];exact Wy (fin _ (abw st) (AZ m c))
 ·rw[hV (by simpa using c)];by_cases c2:0+1=a.size
  ·rw[hZ (by simpa using c2)];exact Wy (fin _ (abw st) (R.fin m c2))
  ·rw[hV (by simpa using c2)];refine Ws (wpS_get ?_);refine Ws (YO (XJ (I:=λx d aK=>(∃g,aK=cP st g)/\d.1=none/\LI key (a.toList++b.toList) a b d.2.1 d.2.2.1 d.2.2.2.1/\x<=d.2.2.1+d.2.2.2.1)
    (Q:=λd aK=>(∃g,aK=cP st g)/\∃r,d.1=some r/\pJ key (a.toList++b.toList) r) ?step ?fin ⟨⟨abw st,rfl⟩,rfl,⟨by simp only;lia,by simp only;lia,m⟩,by simp only;lia⟩) ?post)
   case fin=>
    rintro d aK ⟨hs',e1,e2,e3⟩;have:=e2.ha;have:=e2.hb;lia
   case step=>
    rintro x d aK _ hx ⟨hs',e1,e2,e3⟩;refine YO (MX C R hs' kd e2) λr N7 hr=>?_;obtain⟨bK,hr⟩:=hr;cases r with
    |done d'=>exact⟨bK,hr⟩
    |yield d'=>exact⟨bK,hr.1,hr.2.1,by have:=hr.2.2;lia⟩
   case post=>
    rintro d aK ⟨⟨g,rfl⟩,r,e,hr⟩;obtain⟨dr,d'⟩:=d;dsimp only at e ⊢;subst e;exact Wy (fin r g hr)
end
end Hc.Ts
namespace Hc.Ts
noncomputable def qX:Array WB->Array WB->StateT WC Sem (Array WB):=sortPriv% PySem.Builtin.mergeHi
noncomputable abbrev KU:=Option (Array WB)×Nat×Nat×Array WB×Nat×Nat×Nat
noncomputable abbrev Ol:=Option (Array WB)×Nat×Nat×Array WB×Nat×Nat
noncomputable abbrev Rc:=Option (Array WB)×Nat×Nat×Array WB×Nat
noncomputable def fH (a b out:Array WB)(na nb:Nat):Array WB:=a.extract 0 na++b.extract 0 nb++out.reverse
noncomputable def iU (a b out:Array WB)(na nb:Nat):Array WB:=b.extract 0 nb++a.extract 0 na++out.reverse
noncomputable def IG (a b out:Array WB)(na nb g k k1:Nat):StateT WC Sem (ForInStep KU):=do
 let x ←abH a (na-1)
 if (na-1==0)=true then pure (.done (some (fH a b (out.push x) (na-1) nb),na-1,nb,out.push x,g,k,k1))
 else if (decide (k<7)&&decide (k1<7))=true then pure (.done (none,na-1,nb,out.push x,g,k,k1))
 else pure (.yield (none,na-1,nb,out.push x,g,k,k1))
noncomputable def IH (a b out:Array WB)(na nb g k bc:Nat):StateT WC Sem (ForInStep KU):=do
 let y ←abH b (nb-1)
 if (nb-1==1)=true then pure (.done (some (iU a b (out.push y) na (nb-1)),na,nb-1,out.push y,g,k,bc))
 else do
  let x ←abH a (na-1)
  let some mG ←eX true x b 0 (nb-1) (nb-1-1)|pure (.done (some (fH a b (out.push y) na (nb-1)),na,nb-1,out.push y,g,k,bc))
  if nb-1-mG>0 then
   if (mG==1)=true then pure (.done (some (iU a b (out.push y++(b.extract mG (nb-1)).reverse) na mG),na,mG,out.push y++(b.extract mG (nb-1)).reverse,g,k,nb-1-mG))
   else if (mG==0)=true then pure (.done (some (fH a b (out.push y++(b.extract mG (nb-1)).reverse) na mG),na,mG,out.push y++(b.extract mG (nb-1)).reverse,g,k,nb-1-mG))
   else IG a b (out.push y++(b.extract mG (nb-1)).reverse) na mG g k (nb-1-mG)
  else IG a b (out.push y) na (nb-1) g k (nb-1-mG)
noncomputable def II (a b out:Array WB)(na nb g ac bc:Nat):StateT WC Sem (ForInStep KU):=do
 bO g
 let y ←abH b (nb-1)
 let some uH ←eX false y a 0 na (na-1)|pure (.done (some (fH a b out na nb),na,nb,out,g,ac,bc))
 if na-uH>0 then
  if (uH==0)=true then pure (.done (some (fH a b (out++(a.extract uH na).reverse) uH nb),uH,nb,out++(a.extract uH na).reverse,g,na-uH,bc))
  else IH a b (out++(a.extract uH na).reverse) uH nb g (na-uH) bc
 else IH a b out na nb g (na-uH) bc
noncomputable def Sq (a b:Array WB)(_:Nat)(c:KU):StateT WC Sem (ForInStep KU):=
 if c.2.2.2.2.1>1 then II a b c.2.2.2.1 c.2.1 c.2.2.1 (c.2.2.2.2.1-1) c.2.2.2.2.2.1 c.2.2.2.2.2.2
 else II a b c.2.2.2.1 c.2.1 c.2.2.1 c.2.2.2.2.1 c.2.2.2.2.2.1 c.2.2.2.2.2.2
noncomputable def Sr (a b:Array WB)(g:Nat)(_:Nat)(c:Ol):StateT WC Sem (ForInStep Ol):=do
 let y ←abH b (c.2.2.1-1)
 let x ←abH a (c.2.1-1)
 let some aWins ←lt' y x|pure (.done (some (fH a b c.2.2.2.1 c.2.1 c.2.2.1),c.2.1,c.2.2.1,c.2.2.2.1,c.2.2.2.2.1,c.2.2.2.2.2))
 if aWins=true then do
  let x ←abH a (c.2.1-1)
  if (c.2.1-1==0)=true then pure (.done (some (fH a b (c.2.2.2.1.push x) (c.2.1-1) c.2.2.1),c.2.1-1,c.2.2.1,c.2.2.2.1.push x,c.2.2.2.2.1+1,0))
  else if c.2.2.2.2.1+1≥g then pure (.done (none,c.2.1-1,c.2.2.1,c.2.2.2.1.push x,c.2.2.2.2.1+1,0))
  else pure (.yield (none,c.2.1-1,c.2.2.1,c.2.2.2.1.push x,c.2.2.2.2.1+1,0))
 else do
  let y ←abH b (c.2.2.1-1)
  if (c.2.2.1-1==1)=true then pure (.done (some (iU a b (c.2.2.2.1.push y) c.2.1 (c.2.2.1-1)),c.2.1,c.2.2.1-1,c.2.2.2.1.push y,0,c.2.2.2.2.2+1))
  else if c.2.2.2.2.2+1≥g then pure (.done (none,c.2.1,c.2.2.1-1,c.2.2.2.1.push y,0,c.2.2.2.2.2+1))
  else pure (.yield (none,c.2.1,c.2.2.1-1,c.2.2.2.1.push y,0,c.2.2.2.2.2+1))
noncomputable def Ss (a b:Array WB)(_:Nat)(c:Rc):StateT WC Sem (ForInStep Rc):=do
 let d ←forIn [0:a.size+b.size] (none,c.2.1,c.2.2.1,c.2.2.2.1,0,0) (Sr a b c.2.2.2.2)
 match d.1 with
 |some r=>pure (.done (some r,d.2.1,d.2.2.1,d.2.2.2.1,c.2.2.2.2))
 |none=>do
  liftM (rule "list.sort.gallop")
  let e ←forIn [0:a.size+b.size] (none,d.2.1,d.2.2.1,d.2.2.2.1,c.2.2.2.2+1,d.2.2.2.2.1,d.2.2.2.2.2) (Sq a b)
  match e.1 with
  |some r=>pure (.done (some r,e.2.1,e.2.2.1,e.2.2.2.1,e.2.2.2.2.1))
  |none=>do
   bO (e.2.2.2.2.1+1)
   pure (.yield (none,e.2.1,e.2.2.1,e.2.2.2.1,e.2.2.2.2.1+1))
theorem vk (a b:Array WB):qX a b=(do
  liftM (rule "list.sort.merge-hi")
  let x ←abH a (a.size-1)
  if (a.size-1==0)=true then pure (fH a b (List.toArray [x]) (a.size-1) b.size)
  else if (b.size==1)=true then pure (iU a b (List.toArray [x]) (a.size-1) b.size)
  else do
   let st ←get
   let c ←forIn [0:a.size+b.size] ((none,a.size-1,b.size,(List.toArray [x]),abw st):Rc) (Ss a b)
   match c.1 with
   |some r=>pure r
   |none=>liftM (aa6 "internal:list.sort.merge-bound")):=by kernel_rfl
section
variable {A:W2}{O:abZ}{key:WB->O.α}{knd:aac}{D:WB->Prop}
theorem vn (a:Array WB)(n:Nat):(a.extract 0 n).toList=a.toList.take n:=by
 rw[ZG,YW];rfl
theorem vo (a:Array WB)(i n:Nat):(a.extract i n).toList=(a.toList.take n).drop i:=by
 rw[ZG,YW,List.drop_take]
theorem xt (a b out:Array WB)(na nb:Nat):(fH a b out na nb).toList=(a.toList.take na++b.toList.take nb)++out.toList.reverse:=by
 unfold fH;rw[Xn,Xn,vn,vn,ZH]
theorem CO (a b out:Array WB)(na nb:Nat):(iU a b out na nb).toList=(b.toList.take nb++a.toList.take na)++out.toList.reverse:=by
 unfold iU;rw[Xn,Xn,vn,vn,ZH]
theorem nA (h0:0<n)(h:n-1<l.length):l.take n=l.take (n-1)++[l[n-1]]:=by
 obtain⟨m,rfl⟩:∃m,n=m+1:=⟨n-1,(by lia)⟩;simp only[Nat.add_sub_cancel] at h ⊢;exact XD h
theorem qY (h:k<=n):l.take n=l.take k++(l.take n).drop k:=by
 conv=>lhs;rw[←Xh k (l.take n)]
 rw[List.take_take,XX h]
structure HI (key:WB->O.α)(T:List WB)(a b out:Array WB)(na nb:Nat):Prop where
 a0:0<na
 a1:na<=a.size
 b0:1<nb
 b1:nb<=b.size
 mh:MH key T (a.toList.take na) (b.toList.take nb) out.toList.reverse
structure HR (key:WB->O.α)(D:WB->Prop)(a b:Array WB):Prop where
 da:∀x∈a.toList,D x
 db:∀x∈b.toList,D x
 first:∀y,b.toList[0]? = some y->∀x∈a.toList,O.kle (key y) (key x)
variable {T:List WB}{a b out:Array WB}{na nb:Nat}
theorem HR.fin (R:HR key D a b)(h:MH key T (a.toList.take na) (b.toList.take nb) out.toList.reverse)(e:nb=1):pJ key T (iU a b out na nb):=by
 unfold pJ;rw[CO];refine h.first λy hy x hx=>?_
 subst e;cases hb:b.toList with
 |nil=>rw[hb] at hy;cases hy
 |cons z r=>
  rw[hb] at hy;have:y=z:=by simpa using hy
  subst this;exact R.first y (by rw[hb];rfl) x (Xr hx)
theorem vp (h:MH key T (a.toList.take na) (b.toList.take nb) out.toList.reverse)(e:na=0):pJ key T (fH a b out na nb):=by
 subst e;unfold pJ;rw[xt];rw[List.take_zero] at h ⊢;rw[X7];exact h.endB
theorem MY (h:MH key T (a.toList.take na) (b.toList.take nb) out.toList.reverse)(e:nb=0):pJ key T (fH a b out na nb):=by
 subst e;unfold pJ;rw[xt];rw[List.take_zero] at h ⊢;rw[WN];exact h.endA
theorem gq (h:gN key (l.take n))(h0:0<n)(hl:n-1<l.length):∀x∈l.take n,O.kle (key x) (key l[n-1]):=by
 intro x hx;rw[nA h0 hl] at h hx;rcases WE.mp hx with hx|hx
 ·exact (br.mp h).2.2 x hx _ (by simp)
 ·rw[WK] at hx;subst hx;exact XY _
theorem zu (h:MH key T (a.toList.take na) (b.toList.take nb) out.toList.reverse)(h0:0<na)(hl:na-1<a.toList.length)(hx:∀y∈b.toList.take nb,O.kle (key y) (key a.toList[na-1])):MH key T (a.toList.take (na-1)) (b.toList.take nb) (out.push a.toList[na-1]).toList.reverse:=by
 rw[ZA,ZT];rw[nA h0 hl] at h;exact h.stepA λy hy x sG=>by rw[WK] at sG;subst sG;exact hx y hy
theorem FF (h:MH key T (a.toList.take na) (b.toList.take nb) out.toList.reverse)(h0:0<nb)(hl:nb-1<b.toList.length)(hx:∀x∈a.toList.take na,O.kle (key x) (key b.toList[nb-1])):MH key T (a.toList.take na) (b.toList.take (nb-1)) (out.push b.toList[nb-1]).toList.reverse:=by
 rw[ZA,ZT];rw[nA h0 hl] at h;exact h.stepB λx sG y hy=>by rw[WK] at hy;subst hy;exact hx x sG
def HE (key:WB->O.α)(T:List WB)(a b:Array WB)(n:Nat)(bX:WC)(c:KU)(st:WC):Prop:=
 (∃g,st=cP bX g)/\((∃r,c.1=some r/\pJ key T r)\/(c.1=none/\HI key T a b c.2.2.2.1 c.2.1 c.2.2.1/\c.2.1+c.2.2.1<=n))
def HS (key:WB->O.α)(T:List WB)(a b:Array WB)(n:Nat)(bX:WC)(r:ForInStep KU)(st:WC):Prop:=
 match r with
 | .done c=>HE key T a b n bX c st
 | .yield c=>HE key T a b n bX c st/\c.1=none
theorem A7 (R:HR key D a b){k1:Nat}{st bX:WC}(fU:∃g,st=cP bX g)(h:HI key T a b out na nb)(hn:na+nb<=n)(hx:∀(hl:na-1<a.toList.length),∀y∈b.toList.take nb,O.kle (key y) (key a.toList[na-1])) :
  wpS M A E s (IG a b out na nb g k k1) (HS key T a b n bX) st:=by
 have hl:na-1<a.toList.length:=by have:=h.a0;have:=h.a1;rw[Wg];lia
 have m:=zu h.mh h.a0 hl (hx hl);unfold IG;refine Ws (bB (V4 hl) ?_);by_cases c:na-1=0
 ·rw[hZ (by simpa using c)];exact Wy ⟨fU,.inl ⟨_,rfl,vp m c⟩⟩
 ·rw[hV (by simpa using c)];have L:HI key T a b (out.push a.toList[na-1]) (na-1) nb:=⟨(by lia),by have:=h.a1;lia,h.b0,h.b1,m⟩;by_cases c2:(decide (k<7)&&decide (k1<7))=true
  ·rw[hZ c2];exact Wy ⟨fU,.inr ⟨rfl,L,by simp only;lia⟩⟩
  ·rw[hV c2];exact Wy ⟨⟨fU,.inr ⟨rfl,L,by simp only;lia⟩⟩,rfl⟩
theorem A8 (C:kD M A E s O key knd D)(R:HR key D a b){st bX:WC}(fU:∃g,st=cP bX g)(kd:XB bX=knd)(h:HI key T a b out na nb)(hn:na+nb<=n)(hx:∀(hl:nb-1<b.toList.length),∀x∈a.toList.take na,O.kle (key x) (key b.toList[nb-1])) :
  wpS M A E s (IH a b out na nb g k bc) (HS key T a b n bX) st:=by
 have kN:nb-1<b.toList.length:=by have:=h.b0;have:=h.b1;rw[Wg];lia
 have pe:na-1<a.toList.length:=by have:=h.a0;have:=h.a1;rw[Wg];lia
 have b0:=h.b0;have b1:=h.b1;have a0:=h.a0;have a1:=h.a1;have m:=FF h.mh (by lia) kN (hx kN);have GU:XB st=knd:=by obtain⟨g,rfl⟩:=fU;exact kd
 unfold IH;refine Ws (bB (V4 kN) ?_);by_cases c:nb-1=1
 ·rw[hZ (by simpa using c)];exact Wy ⟨fU,.inl ⟨_,rfl,R.fin m c⟩⟩
 ·rw[hV (by simpa using c)];refine Ws (bB (V4 pe) ?_);have cv:(b.toList.take (nb-1)).length=nb-1:=by rw[Wx,Wg];lia
  have GV:=λQ=>kF C (Q:=Q) (kx:=a.toList[na-1]) (arr:=b) (base:=0) (hint:=nb-1-1) (seg:=b.toList.take (nb-1)) (st:=st) (λi x e=>by
   rw[Zm];rw[aad] at e;split at e
   ·exact e
   ·cases e) m.sb (λx hx=>R.db x (Xr hx)) (R.da _ (WU pe)) GU (by rw[cv];lia)
  rw[cv] at GV;refine Ws (GV _ λmG Lk p1 p2=>?_);dsimp only;rw[List.take_take,XX Lk] at p1;by_cases c1:nb-1-mG>0
  ·rw[hZ c1];have m2:MH key T (a.toList.take na) (b.toList.take mG) (out.push b.toList[nb-1]++(b.extract mG (nb-1)).reverse).toList.reverse:=by
    rw[Xn,ZH,ZT,List.reverse_reverse,vo];have m':=m;rw[qY (l:=b.toList) (n:=nb-1) (k:=mG) (by lia)] at m';exact m'.stepB λx sG y hy=>W0 (gq h.mh.sa a0 pe x sG) (p2 y hy)
   by_cases c2:mG=1
   ·rw[hZ (by simpa using c2)];exact Wy ⟨fU,.inl ⟨_,rfl,R.fin m2 c2⟩⟩
   ·rw[hV (by simpa using c2)];by_cases c3:mG=0
    ·rw[hZ (by simpa using c3)];exact Wy ⟨fU,.inl ⟨_,rfl,MY m2 c3⟩⟩
    ·rw[hV (by simpa using c3)];refine A7 R fU ⟨a0,a1,(by lia),(by lia),m2⟩ (by lia) λhl y hy=>Xi (p1 y hy)
  ·rw[hV c1];have:mG=nb-1:=(by lia)
   subst this;refine A7 R fU ⟨a0,a1,(by lia),(by lia),m⟩ (by lia) λhl y hy=>Xi (p1 y hy)
theorem A9 (C:kD M A E s O key knd D)(R:HR key D a b){ac:Nat}{st bX:WC}(fU:∃g,st=cP bX g)(kd:XB bX=knd)(h:HI key T a b out na nb)(hn:na+nb<=n) :
  wpS M A E s (II a b out na nb g ac bc) (HS key T a b n bX) st:=by
 have kN:nb-1<b.toList.length:=by have:=h.b0;have:=h.b1;rw[Wg];lia
 have pe:na-1<a.toList.length:=by have:=h.a0;have:=h.a1;rw[Wg];lia
 have b0:=h.b0;have b1:=h.b1;have a0:=h.a0;have a1:=h.a1;unfold II bO;have yq:∃g',cP st g=cP bX g':=by obtain⟨g0,rfl⟩:=fU;exact⟨g,rfl⟩
 have GU:XB (cP st g)=knd:=by obtain⟨g0,rfl⟩:=fU;exact kd
 refine Ws (Z0 ?_);refine Ws (bB (V4 kN) ?_);have cv:(a.toList.take na).length=na:=by rw[Wx,Wg];lia
 have GV:=λQ=>kE C (Q:=Q) (kx:=b.toList[nb-1]) (arr:=a) (base:=0) (hint:=na-1) (seg:=a.toList.take na) (st:=cP st g) (λi x e=>by
   rw[Zm];rw[aad] at e;split at e
   ·exact e
   ·cases e) h.mh.sa (λx hx=>R.da x (Xr hx)) (R.db _ (WU kN)) GU (by rw[cv];lia)
 rw[cv] at GV;refine Ws (GV _ λuH hk p1 p2=>?_);dsimp only;rw[List.take_take,XX hk] at p1;by_cases c1:na-uH>0
 ·rw[hZ c1];have m2:MH key T (a.toList.take uH) (b.toList.take nb) (out++(a.extract uH na).reverse).toList.reverse:=by
   rw[Xn,ZH,ZT,List.reverse_reverse,vo];have m':=h.mh;rw[qY (l:=a.toList) (n:=na) (k:=uH) (by lia)] at m';exact m'.stepA λy hy x hx=>W0 (gq h.mh.sb (by lia) kN y hy) (Xi (p2 x hx))
  by_cases c2:uH=0
  ·rw[hZ (by simpa using c2)];exact Wy ⟨yq,.inl ⟨_,rfl,vp m2 c2⟩⟩
  ·rw[hV (by simpa using c2)];exact A8 C R yq kd ⟨(by lia),(by lia),b0,b1,m2⟩ (by lia) λhl x hx=>p1 x hx
 ·rw[hV c1];have:uH=na:=(by lia)
  subst this;exact A8 C R yq kd h hn λhl x hx=>p1 x hx
theorem MZ (C:kD M A E s O key knd D)(R:HR key D a b){c:KU}{st bX:WC}(fU:∃g,st=cP bX g)(kd:XB bX=knd)(h:HI key T a b c.2.2.2.1 c.2.1 c.2.2.1)(hn:c.2.1+c.2.2.1<=n) :
  wpS M A E s (Sq a b i c) (HS key T a b n bX) st:=by
 unfold Sq;split
 ·exact A9 C R fU kd h hn
 ·exact A9 C R fU kd h hn
theorem M3 (C:kD M A E s O key knd D)(R:HR key D a b){c:Ol}{st:WC}{Q:ForInStep Ol->WC->Prop}(kd:XB st=knd)(h:HI key T a b c.2.2.2.1 c.2.1 c.2.2.1)(h1:∀d:Ol,(∃r,d.1=some r/\pJ key T r)\/(d.1=none/\HI key T a b d.2.2.2.1 d.2.1 d.2.2.1/\c.2.1+c.2.2.1=d.2.1+d.2.2.1+1)->Q (.done d) st)(h2:∀d:Ol,d.1=none->HI key T a b d.2.2.2.1 d.2.1 d.2.2.1->c.2.1+c.2.2.1=d.2.1+d.2.2.1+1->Q (.yield d) st) :
  wpS M A E s (Sr a b g i c) Q st:=by
 obtain⟨r0,na,nb,out,ac,bc⟩:=c;dsimp only at h h1 h2 ⊢;have kN:nb-1<b.toList.length:=by have:=h.b0;have:=h.b1;rw[Wg];lia
 have pe:na-1<a.toList.length:=by have:=h.a0;have:=h.a1;rw[Wg];lia
 have b0:=h.b0;have b1:=h.b1;have a0:=h.a0;have a1:=h.a1;unfold Sr;dsimp only;refine Ws (bB (V4 kN) ?_);refine Ws (bB (V4 pe) ?_);refine Ws (C.lt _ _ st _ (R.db _ (WU kN)) (R.da _ (WU pe)) kd ?_);dsimp only;cases e:O.blt (key b.toList[nb-1]) (key a.toList[na-1]) with
 |true=>
  rw[hZ rfl];have m:=zu h.mh a0 pe λy hy=>W0 (gq h.mh.sb (by lia) kN y hy) (Xi e);refine Ws (bB (V4 pe) ?_);by_cases c:na-1=0
  ·rw[hZ (by simpa using c)];exact Wy (h1 _ (.inl ⟨_,rfl,vp m c⟩))
  ·rw[hV (by simpa using c)];have L:HI key T a b (out.push a.toList[na-1]) (na-1) nb:=⟨(by lia),(by lia),b0,b1,m⟩;split
   ·exact Wy (h1 _ (.inr ⟨rfl,L,by simp only;lia⟩))
   ·exact Wy (h2 _ rfl L (by simp only;lia))
 |false=>
  rw[hV V5];have m:=FF h.mh (by lia) kN λx hx=>W0 (gq h.mh.sa a0 pe x hx) (show O.kle _ _ from e);refine Ws (bB (V4 kN) ?_);by_cases c:nb-1=1
  ·rw[hZ (by simpa using c)];exact Wy (h1 _ (.inl ⟨_,rfl,R.fin m c⟩))
  ·rw[hV (by simpa using c)];have L:HI key T a b (out.push b.toList[nb-1]) na (nb-1):=⟨a0,a1,(by lia),(by lia),m⟩;split
   ·exact Wy (h1 _ (.inr ⟨rfl,L,by simp only;lia⟩))
   ·exact Wy (h2 _ rfl L (by simp only;lia))
theorem M4 (C:kD M A E s O key knd D)(R:HR key D a b){c:Rc}{st bX:WC}(fU:∃g,st=cP bX g)(kd:XB bX=knd)(h:HI key T a b c.2.2.2.1 c.2.1 c.2.2.1) :
  wpS M A E s (Ss a b i c) (λr aK=>(∃g,aK=cP bX g)/\match r with
   | .done d=>∃r,d.1=some r/\pJ key T r
   | .yield d=>d.1=none/\HI key T a b d.2.2.2.1 d.2.1 d.2.2.1/\d.2.1+d.2.2.1+1<=c.2.1+c.2.2.1) st:=by
 obtain⟨r0,na,nb,out,g0⟩:=c;dsimp only at h ⊢;have GU:XB st=knd:=by obtain⟨g,rfl⟩:=fU;exact kd
 have b0:=h.b0;have b1:=h.b1;have a0:=h.a0;have a1:=h.a1;unfold Ss;dsimp only;have hs:1<=a.size+b.size:=(by lia)
 refine Ws (YO (XJ (I:=λx d aK=>aK=st/\d.1=none/\HI key T a b d.2.2.2.1 d.2.1 d.2.2.1/\na+nb=d.2.1+d.2.2.1+x)
  (Q:=λd aK=>aK=st/\((∃r,d.1=some r/\pJ key T r)\/(d.1=none/\HI key T a b d.2.2.2.1 d.2.1 d.2.2.1/\d.2.1+d.2.2.1+1<=na+nb))) ?step ?fin ⟨rfl,rfl,h,by simp only;lia⟩) ?post)
 case fin=>
  rintro d aK ⟨rfl,e1,e2,e3⟩;exact⟨rfl,.inr ⟨e1,e2,(by lia)⟩⟩
 case step=>
  rintro x d aK _ hx ⟨rfl,e1,e2,e3⟩;refine M3 C R GU e2 (λd' hd=>?_) λd' p1 p2 p3=>?_
  ·rcases hd with hd|⟨p1,p2,p3⟩
   ·exact⟨rfl,.inl hd⟩
   ·exact⟨rfl,.inr ⟨p1,p2,(by lia)⟩⟩
  ·exact⟨rfl,p1,p2,(by lia)⟩
 case post=>
  rintro d aK ⟨rfl,hd⟩;obtain⟨dr,dna,dnb,dout,dac,dbc⟩:=d;dsimp only at hd ⊢;rcases hd with⟨r,rfl,hr⟩|⟨rfl,hL,hn⟩
  ·exact Wy ⟨fU,r,rfl,hr⟩
  ·dsimp only;refine Ws (wpS_lift (YI ⟨rfl,?_⟩));refine Ws (YO (XJ (I:=λx d aK=>HE key T a b (na+nb-1) bX d aK/\d.1=none)
    (Q:=λd aK=>HE key T a b (na+nb-1) bX d aK) ?_ (λd aK h=>h.1) ⟨⟨fU,.inr ⟨rfl,hL,by simp only;lia⟩⟩,rfl⟩) ?_)
   ·rintro x d aK _ hx ⟨⟨hs',hd⟩,e1⟩;rcases hd with⟨r,e2,_⟩|⟨_,e3,e4⟩
    ·rw[e1] at e2;cases e2
    ·refine YO (MZ C R hs' kd e3 e4) λr N7 hr=>?_;cases r with
     |done d'=>exact hr
     |yield d'=>exact hr
   ·rintro d aK ⟨hs',hd⟩;obtain⟨er,ena,enb,eout,eg,eac,ebc⟩:=d;dsimp only at hd ⊢;rcases hd with⟨r,rfl,hr⟩|⟨rfl,hL2,Ov⟩
    ·exact Wy ⟨hs',r,rfl,hr⟩
    ·dsimp only;unfold bO;refine Ws (Z0 (Wy ⟨?_,rfl,hL2,by simp only;lia⟩));obtain⟨g,rfl⟩:=hs';exact⟨_,rfl⟩
theorem zw (C:kD M A E s O key knd D)(R:HR key D a b){st:WC}{Q:Array WB->WC->Prop}(kd:XB st=knd)(sa:gN key a.toList)(sb:gN key b.toList)(ha:0<a.size)(hb:0<b.size)
  (last:∀i,i+1=a.size->∀y∈b.toList,∀x,a.toList[i]? = some x->O.kle (key y) (key x))
  (h:∀r g,r.toList.Perm (a.toList++b.toList)->gN key r.toList->Q r (cP st g)):wpS M A E s (qX a b) Q st:=by
 have pe:a.size-1<a.toList.length:=by rw[Wg];lia
 have ta:a.toList.take a.size=a.toList:=Ye (by simp);have tb:b.toList.take b.size=b.toList:=Ye (by simp);have m:MH key (a.toList++b.toList) (a.toList.take (a.size-1)) (b.toList.take b.size) ((List.toArray [a.toList[a.size-1]]):Array WB).toList.reverse:=by
  have m0:MH key (a.toList++b.toList) (a.toList.take a.size) (b.toList.take b.size) ((List.toArray []):Array WB).toList.reverse:=by
   rw[ta,tb];exact⟨by simp,List.Pairwise.nil,sa,sb,λx _ y hy=>absurd hy (by simp),λx _ y hy=>absurd hy (by simp)⟩
  exact zu m0 ha pe (λy hy=>last (a.size-1) (by lia) y (Xr hy) _ (V4 pe))
 have fin:∀r g,pJ key (a.toList++b.toList) r->Q r (cP st g):=λr g hr=>h r g hr.1 hr.2;rw[vk];refine Ws (wpS_lift (YI ⟨rfl,?_⟩));refine Ws (bB (V4 pe) ?_);by_cases c:a.size-1=0
 ·rw[hZ (by simpa using c)];exact Wy (fin _ (abw st) (vp m c))
 ·rw[hV (by simpa using c)];by_cases c2:b.size=1
  ·rw[hZ (by simpa using c2)];exact Wy (fin _ (abw st) (R.fin m c2))
  ·rw[hV (by simpa using c2)];refine Ws (wpS_get ?_);refine Ws (YO (XJ (I:=λx d aK=>(∃g,aK=cP st g)/\d.1=none/\HI key (a.toList++b.toList) a b d.2.2.2.1 d.2.1 d.2.2.1/\d.2.1+d.2.2.1+x<=a.size+b.size)
    (Q:=λd aK=>(∃g,aK=cP st g)/\∃r,d.1=some r/\pJ key (a.toList++b.toList) r) ?step ?fin ⟨⟨abw st,rfl⟩,rfl,⟨by simp only;lia,by simp only;lia,by simp only;lia,by simp only;lia,m⟩,by simp only;lia⟩) ?post)
   case fin=>
    rintro d aK ⟨hs',e1,e2,e3⟩;have:=e2.a0;have:=e2.b0;lia
   case step=>
    rintro x d aK _ hx ⟨hs',e1,e2,e3⟩;refine YO (M4 C R hs' kd e2) λr N7 hr=>?_;obtain⟨bK,hr⟩:=hr;cases r with
    |done d'=>exact⟨bK,hr⟩
    |yield d'=>exact⟨bK,hr.1,hr.2.1,by have:=hr.2.2;lia⟩
   case post=>
    rintro d aK ⟨⟨g,rfl⟩,r,e,hr⟩;obtain⟨dr,d'⟩:=d;dsimp only at e ⊢;subst e;exact Wy (fin r g hr)
end
end Hc.Ts
namespace Hc.Ts
noncomputable def jU (l:List WB)(sa:Nat)(a:Array WB):Array WB:=l.zipIdx.foldl (λa (p,j)=>a.setIfInBounds (sa+j) p) a
noncomputable def M5 (x y:Array WB)(sa na nb:Nat):StateT WC Sem Bool:=do
 let merged ←if na<=nb then qV x y else qX x y
 modify λs=>setArr s (jU merged.toList sa (W5 s))
 let s ←get
 pure (ZR s).isNone
theorem xu (i:Nat):mergeAt' i=(do
 let st ←get
 let (some (p,n,pw),some (q,m,_)):=((WZ st)[i]?,(WZ st)[i+1]?)|aa6 "internal:list.sort.pending"
 set (setPending st (((WZ st).setIfInBounds i (p,n+m,pw)).eraseIdxIfInBounds (i+1)))
 let some k ←eX false (←abH (W5 st) q) (W5 st) p n 0|return false
 let (p,n):=(p+k,n-k)
 if n==0 then return true
 let some m ←eX true (←abH (W5 st) (p+n-1)) (W5 st) q m (m-1)|return false
 if m==0 then return true
 M5 ((W5 st).extract p q) ((W5 st).extract q (q+m)) p n m):=by kernel_rfl
section
variable {A:W2}{O:abZ}{key:WB->O.α}{knd:aac}{D:WB->Prop}
theorem qZ:∀(l m P S:List WB) (n sa:Nat) (a:Array WB),m.length=l.length->sa+n=P.length->a.toList=P++(m++S)->((l.zipIdx n).foldl (λa (p,j)=>a.setIfInBounds (sa+j) p) a).toList=P++(l++S)
 | [],m,P,S,n,sa,a,h1,h2,h3=>by
  have:m=[]:=WM h1;subst this;exact h3
 |p::l,[],P,S,n,sa,a,h1,h2,h3=>by cases h1
 |p::l,q::m,P,S,n,sa,a,h1,h2,h3=>by
  rw[List.zipIdx_cons,Ya];have h4:(a.setIfInBounds (sa+n) p).toList=(P++[p])++(m++S):=by
   rw[abf,h3,h2,ZP,List.set_append_right _ _ (Wf _),Nat.sub_self,W7];simp
  have:=qZ l m (P++[p]) S (n+1) sa (a.setIfInBounds (sa+n) p) (by simpa using h1) (by rw[V9,Xu];lia) h4;rw[this];simp
theorem CP {m P S:List WB}{sa:Nat}{a:Array WB}(h1:m.length=l.length)(h2:sa=P.length)(h3:a.toList=P++(m++S)):(jU l sa a).toList=P++(l++S):=
 qZ l m P S 0 sa a h1 (by lia) h3
theorem IJ (C:kD M A E s O key knd D){P x y S:List WB}{sa:Nat}{st:WC}{Q:Bool->WC->Prop}{ax ay:Array WB}{na nb:Nat}(ex:ax.toList=x)(ey:ay.toList=y)(hf:ZR st=none)(kd:XB st=knd)(ha:(W5 st).toList=P++((x++y)++S))(hs:sa=P.length)
  (dx:∀p∈x,D p) (dy:∀p∈y,D p) (sx:gN key x) (sy:gN key y) (x0:0<x.length) (y0:0<y.length)
  (first:∀q,y[0]? = some q->∀p∈x,O.kle (key q) (key p)) (last:∀i,i+1=x.length->∀q∈y,∀p,x[i]? = some p->O.kle (key q) (key p))
  (h:∀z g,z.Perm (x++y)->gN key z->Q true (cP (setArr st (P++(z++S)).toArray) g)):wpS M A E s (M5 ax ay sa na nb) Q st:=by
 subst ex;subst ey;have fin:∀(r:Array WB) (g:Nat),r.toList.Perm (ax.toList++ay.toList)->gN key r.toList->wpS M A E s (do
   modify λs=>setArr s (jU r.toList sa (W5 s))
   let s ←get
   pure (ZR s).isNone) Q (cP st g):=by
  intro r g hp hr;refine Ws (Z0 ?_);refine Ws (wpS_get (Wy ?_));have e1:jU r.toList sa (W5 st)=(P++(r.toList++S)).toArray:=by
   apply Array.ext';rw[CP (m:=ax.toList++ay.toList) hp.length_eq.symm hs ha]
  have e2:(ZR (setArr (cP st g) (jU r.toList sa (W5 (cP st g))))).isNone=true:=by
   show (ZR st).isNone=true;rw[hf];rfl
  rw[e2];have e3:setArr (cP st g) (jU r.toList sa (W5 (cP st g)))=cP (setArr st (P++(r.toList++S)).toArray) g:=by
   rw[←e1]
  rw[e3];exact h r.toList g hp hr
 unfold M5;dsimp only;split
 ·refine Ws ?_;exact zq C ⟨dx,dy,λi hi=>last i (by rw[Wg];exact hi)⟩ kd sx sy (by simpa using x0) (by simpa using y0) first fin
 ·refine Ws ?_;exact zw C ⟨dx,dy,first⟩ kd sx sy (by simpa using x0) (by simpa using y0) (λi hi=>last i (by rw[Wg];exact hi)) fin
theorem IK {σ:Type}{st aK:σ}{Q:PUnit->σ->Prop}(h:Q ⟨⟩ aK):wpS M A E s (set aK:StateT σ Sem PUnit) Q st:=by
 unfold wpS;rw[StateT.run_set];exact V8 ⟨rfl,h⟩
theorem vq {P x R:List WB}(h:l=P++(x++R))(i:Nat)(p:WB)(e:x[i]? = some p):l[P.length+i]? = some p:=by
 have hi:i<x.length:=by
  rcases aaH i x.length with h|h
  ·exact h
  ·rw[Zs h] at e;cases e
 rw[h,Xw (Yt _ _),X_,XS hi,e]
noncomputable def ui (p:Array (Nat×Nat×Nat))(i sa n pw:Nat):Array (Nat×Nat×Nat):=(p.setIfInBounds i (sa,n,pw)).eraseIdxIfInBounds (i+1)
theorem zx (C:kD M A E s O key knd D){P x y S:List WB}{pw pw2:Nat}{st:WC}{Q:Bool->WC->Prop}(hf:ZR st=none)(kd:XB st=knd)(ha:(W5 st).toList=P++(x++(y++S)))(h1:(WZ st)[i]? = some (P.length,x.length,pw))(h2:(WZ st)[i+1]? = some (P.length+x.length,y.length,pw2))(dx:∀p∈x,D p)(dy:∀p∈y,D p)(sx:gN key x)(sy:gN key y)(x0:0<x.length)(y0:0<y.length)(h:∀z g,z.Perm (x++y)->gN key z->Q true (cP (setArr (setPending st (ui (WZ st) i P.length (x.length+y.length) pw)) (P++(z++S)).toArray) g)):wpS M A E s (mergeAt' i) Q st:=by
 have all:∀(hz:gN key (x++y)),Q true (setPending st (ui (WZ st) i P.length (x.length+y.length) pw)):=by
  intro hz;have:=h (x++y) (abw st) (X6 _) hz;have e:(P++(x++y++S)).toArray=W5 st:=by
   apply Array.ext';rw[ha,Wz]
  rw[e] at this;exact this
 have Oy:(W5 st).toList=(P++x)++(y++S):=by rw[ha,Wz]
 rw[xu];refine Ws (wpS_get ?_);rw[h1,h2];dsimp only;refine Ws (IK ?_);have ey:(W5 st).toList[P.length+x.length]? = some y[0]:=by
  have:=vq Oy 0 y[0] (V4 y0);rw[V9] at this;exact this
 refine Ws (bB ey ?_);refine Ws (kE C (seg:=x) (λi p e=>vq ha i p e) sx dx (dy _ (WU y0)) kd x0 λk hk p1 p2=>?_);dsimp only;have yh:∀q∈y,O.kle (key y[0]) (key q):=by
  have:=jA (l:=y) (i:=0) (key:=key) (by simpa using sy) y0;simpa using this
 by_cases c:x.length-k=0
 ·rw[hZ (by simpa using c)];refine Wy (all ?_);have:x.take k=x:=Ye (by lia);rw[this] at p1;exact br.mpr ⟨sx,sy,λp hp q hq=>W0 (p1 p hp) (yh q hq)⟩
 ·rw[hV (by simpa using c)];have Rt:x.length-1<x.length:=(by lia)
  have Vn:(W5 st).toList[P.length+k+(x.length-k)-1]? = some x[x.length-1]:=by
   have:=vq ha (x.length-1) _ (V4 Rt);rw[show P.length+k+(x.length-k)-1=P.length+(x.length-1) by lia];exact this
  refine Ws (bB Vn ?_);refine Ws (kF C (seg:=y) (λi p e=>by have:=vq Oy i p e;rw[V9] at this;exact this) sy dy (dx _ (WU Rt)) kd (by lia) λnb Vo q1 q2=>?_);dsimp only;have Ll:∀p∈x,O.kle (key p) (key x[x.length-1]):=by
   have:=gq (l:=x) (n:=x.length) (key:=key) (by rw[YK];exact sx) x0 Rt;rw[YK] at this;exact this
  by_cases c2:nb=0
  ·rw[hZ (by simpa using c2)];refine Wy (all ?_);subst c2;exact br.mpr ⟨sx,sy,λp hp q hq=>W0 (Ll p hp) (q2 q hq)⟩
  ·rw[hV (by simpa using c2)];have xs:x=x.take k++x.drop k:=(Xh k x).symm;have ys:y=y.take nb++y.drop nb:=(Xh nb y).symm;obtain⟨sx1,sx2,sx3⟩:=br.mp (xs▸sx);obtain⟨sy1,sy2,sy3⟩:=br.mp (ys▸sy);refine IJ C (P:=P++x.take k) (x:=x.drop k) (y:=y.take nb) (S:=y.drop nb++S) ?ex ?ey hf kd ?ha ?hs (λp hp=>dx p (Yy hp)) (λp hp=>dy p (Xr hp)) sx2 sy1 (by rw[W9];lia) (by rw[Wx];lia) ?first ?last λz g hz sz=>?_
   case ex=>
    rw[vo,Oy];rw[show P.length+x.length=(P++x).length by rw[V9]];rw[List.take_left,List.drop_append,Ze (by lia),X_];rfl
   case ey=>
    rw[vj,Oy];rw[show P.length+x.length=(P++x).length by rw[V9],List.drop_left,List.take_append_of_le_length Vo]
   case ha=>
    show (W5 st).toList=_;rw[ha]
    conv=>lhs;rw[xs,ys]
    simp only[Wz]
   case hs=>rw[V9,Wx];lia
   case first=>
    intro q hq p hp;have:(y.take nb)[0]? = y[0]? := by rw[aad,hZ (by lia)]
    rw[this,V4 y0] at hq;injection hq with hq
    subst hq;exact Xi (p2 p hp)
   case last=>
    intro i hi q hq p hp;rw[W9] at hi;rw[abx,show k+i=x.length-1 by lia,V4 Rt] at hp;injection hp with hp
    subst hp;exact Xi (q1 q hq)
   have mz:∀r∈z,r∈x.drop k\/r∈y.take nb:=λr hr=>WE.mp (hz.mem_iff.mp hr);have jf:(x.take k++(z++y.drop nb)).Perm (x++y):=by
    have e:x++y=x.take k++((x.drop k++y.take nb)++y.drop nb):=by
     conv=>lhs;rw[xs,ys]
     simp only[Wz]
    rw[e];exact X2 _ (XQ _ hz)
   have Vp:gN key (x.take k++(z++y.drop nb)):=by
    refine br.mpr ⟨sx1,br.mpr ⟨sz,sy2,λp hp q hq=>?_⟩,λp hp q hq=>?_⟩
    ·rcases mz p hp with hp|hp
     ·exact W0 (Ll p (Yy hp)) (q2 q hq)
     ·exact sy3 p hp q hq
    ·rcases WE.mp hq with hq|hq
     ·rcases mz q hq with hq|hq
      ·exact sx3 p hp q hq
      ·exact W0 (p1 p hp) (yh q (Xr hq))
     ·exact W0 (p1 p hp) (yh q (Yy hq))
   have:=h _ g jf Vp;have e:P++(x.take k++(z++y.drop nb)++S)=P++x.take k++(z++(y.drop nb++S)):=by simp only[Wz]
   rw[e] at this;exact this
end
end Hc.Ts
namespace Hc.Ts
noncomputable def A_ (lo n m:Nat):StateT WC Sem AscSt:=forIn [n:m] ((none,n):AscSt) λ_ c=>do
 let some sm ←ltAt' (lo+c.2) (lo+c.2-1)|pure (.done (some none,c.2))
 if sm=true then pure (.done (none,c.2)) else pure (.yield (none,c.2+1))
noncomputable def Ba (lo n m:Nat):StateT WC Sem (Option Nat):=do
 aaW lo (lo+n)
 let c ←A_ lo n m
 match c.1 with
 |some r=>pure r
 |none=>pure (some c.2)
noncomputable def KW (lo:Nat)(c:DescSt):StateT WC Sem (ForInStep DescSt):=do
 let some sm ←ltAt' (lo+c.2.1) (lo+c.2.1-1)|pure (.done (some none,c.2.1,c.2.2))
 if sm=true then
  if c.2.2>0 then do
   aaW (lo+c.2.1-(c.2.2+1)) (lo+c.2.1)
   pure (.yield (none,c.2.1+1,0))
  else pure (.yield (none,c.2.1+1,0))
 else do
  let some lg ←ltAt' (lo+c.2.1-1) (lo+c.2.1)|pure (.done (some none,c.2.1,c.2.2))
  if lg=true then pure (.done (none,c.2.1,c.2.2)) else pure (.yield (none,c.2.1+1,c.2.2+1))
noncomputable def FG (lo n m:Nat):StateT WC Sem DescSt:=forIn [n:m] ((none,n,0):DescSt) λ_ c=>KW lo c
noncomputable def Bb (lo n m:Nat):StateT WC Sem (Option Nat):=do
 liftM (rule "list.sort.descending-run")
 let c ←FG lo (n+1) m
 match c.1 with
 |some r=>pure r
 |none=>
  if c.2.2>0 then do
   aaW (lo+c.2.1-(c.2.2+1)) (lo+c.2.1)
   Ba lo c.2.1 m
  else Ba lo c.2.1 m
theorem xv (lo m:Nat):countRun' lo m=(do
  let c ←A_ lo 1 m
  match c.1 with
  |some r=>pure r
  |none=>
   if (c.2==m)=true then pure (some c.2)
   else if c.2>1 then do
    let some rs ←ltAt' lo (lo+c.2-1)|pure none
    if rs=true then pure (some c.2)
    else do
     aaW lo (lo+c.2)
     Bb lo c.2 m
   else Bb lo c.2 m):=by kernel_rfl
section
variable {A:W2}{O:abZ}{key:WB->O.α}{knd:aac}{D:WB->Prop}{lo:Nat}{a0:Array WB}{bX:WC}
noncomputable def kx (key:WB->O.α)(l:Array WB)(i:Nat):O.α:=key ((l[i]?).getD (Value.none,Value.none))
theorem xw {l m:Array WB}(h:l[i]? = m[j]?):kx key l i=kx key m j:=by unfold kx;rw[h]
theorem zy {l:Array WB}(hm:lo+m<=l.size)(k:Nat):kx key (mirror l (lo+n) (lo+m) ((lo+m-(lo+n)) / 2)) (lo+k)=if n<=k/\k<m then kx key l (lo+(n+m-1-k)) else kx key l (lo+k):=by
 have e:=getElem?_mirror_all (i:=lo+n) hm (lo+k);by_cases c:n<=k/\k<m
 ·rw[hZ (by lia)] at e;rw[hZ c];exact xw (e.trans (by congr 1;lia))
 ·rw[hV (by lia)] at e;rw[hV c];exact xw e
theorem fm {l:Array WB}(hm:lo+m<=l.size)(he:∀k,n<=k->k<m->kx key l (lo+k)=kx key l (lo+m-1))(k:Nat):kx key (mirror l (lo+n) (lo+m) ((lo+m-(lo+n)) / 2)) (lo+k)=kx key l (lo+k):=by
 rw[zy hm];split
 ·rename_i c;rw[he _ (by lia) (by lia),he k c.1 c.2]
 ·rfl
theorem FH {l:Array WB}{p d:Nat}(hp:lo+p<l.size)(hd:d<=p)(k:Nat):kx key (bubble l (lo+p) d) (lo+k)=if k=p-d then kx key l (lo+p) else if p-d<k/\k<=p then kx key l (lo+(k-1)) else kx key l (lo+k):=by
 have e:=getElem?_bubble hp d (by lia) (lo+k);by_cases c:k=p-d
 ·rw[hZ (by lia)] at e;rw[hZ c];exact xw e
 ·rw[hV (by lia)] at e;rw[hV c];by_cases c2:p-d<k/\k<=p
  ·rw[hZ (by lia)] at e;rw[hZ c2];exact xw (e.trans (by congr 1;lia))
  ·rw[hV (by lia)] at e;rw[hV c2];exact xw e
def Dh (key:WB->O.α)(lo:Nat)(l:Array WB)(n:Nat):Prop:=∀i j,i<=j->j<n->O.kle (kx key l (lo+i)) (kx key l (lo+j))
def Om (key:WB->O.α)(lo:Nat)(l:Array WB)(n:Nat):Prop:=∀i j,i<=j->j<n->O.kle (kx key l (lo+j)) (kx key l (lo+i))
structure SB (lo:Nat)(a0:Array WB)(bX st:WC):Prop where
 perm:(W5 st).Perm a0
 same:∀k,k<lo->(W5 st)[k]? = a0[k]?
 rest:st=setArr bX (W5 st)
theorem SB.size {st:WC}(h:SB lo a0 bX st):(W5 st).size=a0.size:=h.perm.size_eq
theorem SB.put {st:WC}(h:SB lo a0 bX st){l:Array WB}(hp:l.Perm (W5 st))(hs:∀k,k<lo->l[k]? = (W5 st)[k]?):SB lo a0 bX (setArr st l):=by
 refine⟨hp.trans h.perm,λk hk=>(hs k hk).trans (h.same k hk),?_⟩;have:=h.rest;generalize W5 st=z at this;subst this;rfl
theorem SB.mir {st:WC}(h:SB lo a0 bX st)(hm:lo+m<=a0.size):SB lo a0 bX (setArr st (mirror (W5 st) (lo+n) (lo+m) ((lo+m-(lo+n)) / 2))):=by
 refine h.put (mirror_perm _ _ _ _) λk hk=>?_;rw[getElem?_mirror_all (by rw[h.size];exact hm),hV (by lia)]
theorem SB.bub {st:WC}(h:SB lo a0 bX st){p d:Nat}(hp:lo+p<a0.size)(hd:d<=p):SB lo a0 bX (setArr st (bubble (W5 st) (lo+p) d)):=by
 refine h.put (bubble_perm _ _ _) λk hk=>?_;rw[getElem?_bubble (by rw[h.size];exact hp) d (by lia),hV (by lia),hV (by lia)]
theorem SB.kind {st:WC}(h:SB lo a0 bX st)(kd:XB bX=knd):XB st=knd:=by rw[h.rest];exact kd
theorem q_ (C:kD M A E s O key knd D){st:WC}{Q:Option Bool->WC->Prop}(kd:XB bX=knd)(hD:∀p∈a0.toList,D p)(hB:SB lo a0 bX st)(hi:i<a0.size)(hj:j<a0.size)(h:Q (some (O.blt (kx key (W5 st) i) (kx key (W5 st) j))) st):wpS M A E s (ltAt' i j) Q st:=by
 have fd:∀i,i<a0.size->∃p,(W5 st)[i]? = some p/\D p/\kx key (W5 st) i=key p:=λi hi=>by
  have Lm:i<(W5 st).size:=by rw[hB.size];exact hi
  refine⟨(W5 st)[i],getElem?_pos _ i Lm,hD _ ((abg.mp hB.perm).mem_iff.mp (by simp)),?_⟩;unfold kx;rw[getElem?_pos _ i Lm];rfl
 obtain⟨p,e1,d1,k1⟩:=fd i hi;obtain⟨q,e2,d2,k2⟩:=fd j hj;rw[k1,k2] at h;rw[ltAt'_eq];refine Ws (wpS_get ?_);dsimp only;rw[elem'_eq,elem'_eq,e1,e2];refine Ws (Wy (Ws (Wy ?_)));exact C.lt p q st Q d1 d2 (hB.kind kd) h
theorem vt {st:WC}{Q:Unit->WC->Prop}(h:Q () (setArr st (mirror (W5 st) i j ((j-i) / 2)))):wpS M A E s (aaW i j) Q st:=by
 rw[reverseSlice'_eq];exact Z0 h
theorem xx (C:kD M A E s O key knd D){st:WC}{Q:AscSt->WC->Prop}(kd:XB bX=knd)(hD:∀p∈a0.toList,D p)(hm:lo+m<=a0.size)(n1:1<=n)(nm:n<=m)(hB:SB lo a0 bX st)(ha:Dh key lo (W5 st) n)(h:∀r,n<=r->r<=m->Dh key lo (W5 st) r->(r=m\/O.klt (kx key (W5 st) (lo+r)) (kx key (W5 st) (lo+r-1)))->Q (none,r) st):wpS M A E s (A_ lo n m) Q st:=by
 unfold A_;refine XJ (I:=λx c aK=>aK=st/\c=(none,x)/\Dh key lo (W5 st) x) ?go ?out ⟨rfl,rfl,ha⟩
 case out=>
  rintro c aK ⟨rfl,rfl,Dj⟩;have e:max n m=m:=(by lia)
  rw[e] at Dj ⊢;exact h m nm (Wf _) Dj (.inl rfl)
 case go=>
  rintro x c aK h1 h2 ⟨rfl,rfl,Dj⟩;dsimp only;refine Ws (q_ C kd hD hB (by lia) (by lia) ?_);dsimp only;cases e:O.blt (kx key (W5 aK) (lo+x)) (kx key (W5 aK) (lo+x-1)) with
  |true=>
   rw[hZ rfl];exact Wy (h x h1 (by lia) Dj (.inr e))
  |false=>
   rw[hV V5];refine Wy ⟨rfl,rfl,λi j tf hj=>?_⟩;by_cases c1:j<x
   ·exact Dj i j tf c1
   ·have:j=x:=(by lia)
    subst this;by_cases c2:i=j
    ·subst c2;exact XY _
    ·have:=Dj i (j-1) (by lia) (by lia);rw[show lo+(j-1)=lo+j-1 by lia] at this;exact W0 this e
theorem xy (C:kD M A E s O key knd D){st:WC}{Q:Option Nat->WC->Prop}(kd:XB bX=knd)(hD:∀p∈a0.toList,D p)(hm:lo+m<=a0.size)(n1:1<=n)(nm:n<=m)(hB:SB lo a0 bX st)(hd:Om key lo (W5 st) n)(h:∀r aK,SB lo a0 bX aK->1<=r->r<=m->Dh key lo (W5 aK) r->Q (some r) aK):wpS M A E s (Ba lo n m) Q st:=by
 unfold Ba;refine Ws (vt ?_);have Oz:=hB.mir (n:=0) (m:=n) (by lia);have hz:lo+n<=(W5 st).size:=by rw[hB.size];lia
 rw[aby] at Oz;refine Ws (xx C kd hD hm n1 nm Oz (λi j tf hj=>?_) λr r1 r2 r3 _=>Wy (h r _ Oz (by lia) r2 r3));have e1:=zy (key:=key) (lo:=lo) (n:=0) hz i;have e2:=zy (key:=key) (lo:=lo) (n:=0) hz j;rw[aby,hZ (by lia)] at e1 e2;rw[e1,e2];exact hd _ _ (by lia) (by lia)
theorem FI (C:kD M A E s O key knd D){st:WC}{Q:DescSt->WC->Prop}(kd:XB bX=knd)(hD:∀p∈a0.toList,D p)(hm:lo+m<=a0.size)(n1:1<=n)(nm:n<=m)(hB:SB lo a0 bX st)(hd:Om key lo (W5 st) n)(h:∀r q aK,SB lo a0 bX aK->n<=r->r<=m->Om key lo (W5 aK) r->q+1<=r->(∀i,r-(q+1)<=i->i<r->kx key (W5 aK) (lo+i)=kx key (W5 aK) (lo+r-1))->Q (none,r,q) aK):wpS M A E s (FG lo n m) Q st:=by
 unfold FG;refine XJ (I:=λx c aK=>∃q,c=(none,x,q)/\SB lo a0 bX aK/\Om key lo (W5 aK) x/\q+1<=x/\∀i,x-(q+1)<=i->i<x->kx key (W5 aK) (lo+i)=kx key (W5 aK) (lo+x-1)) ?go ?out
  ⟨0,rfl,hB,hd,(by lia),λi a1 a2=>by congr 1;lia⟩
 case out=>
  rintro c aK ⟨q,rfl,b1,b2,b3,b4⟩;have e:max n m=m:=(by lia)
  rw[e] at b2 b3 b4 ⊢;exact h m q aK b1 nm (Wf _) b2 b3 b4
 case go=>
  rintro x c aK h1 h2 ⟨q,rfl,b1,b2,b3,b4⟩;have hz:lo+x<=(W5 aK).size:=by rw[b1.size];lia
  unfold KW;dsimp only;refine Ws (q_ C kd hD b1 (by lia) (by lia) ?_);dsimp only;cases e:O.blt (kx key (W5 aK) (lo+x)) (kx key (W5 aK) (lo+x-1)) with
  |true=>
   rw[hZ rfl];have nx:∀l:Array WB,(∀k,kx key l (lo+k)=kx key (W5 aK) (lo+k))->Om key lo l (x+1):=by
    intro l hl i j tf hj;rw[hl,hl];by_cases c1:j<x
    ·exact b2 i j tf c1
    ·have:j=x:=(by lia)
     subst this;by_cases c2:i=j
     ·subst c2;exact XY _
     ·have:=b2 i (j-1) (by lia) (by lia);rw[show lo+(j-1)=lo+j-1 by lia] at this;exact W0 (Xi e) this
   by_cases c:q>0
   ·rw[hZ c];refine Ws (vt ?_);have e3:lo+x-(q+1)=lo+(x-(q+1)):=(by lia)
    rw[e3];refine Wy ⟨0,rfl,b1.mir (by lia),nx _ (fm hz b4),(by lia),λi a1 a2=>?_⟩;congr 1;lia
   ·rw[hV c];exact Wy ⟨0,rfl,b1,nx _ (λ_=>rfl),(by lia),λi a1 a2=>by congr 1;lia⟩
  |false=>
   rw[hV V5];refine Ws (q_ C kd hD b1 (by lia) (by lia) ?_);dsimp only;cases e2:O.blt (kx key (W5 aK) (lo+x-1)) (kx key (W5 aK) (lo+x)) with
   |true=>
    rw[hZ rfl];exact Wy (h x q aK b1 h1 (by lia) b2 b3 b4)
   |false=>
    rw[hV V5];have eq:kx key (W5 aK) (lo+x)=kx key (W5 aK) (lo+x-1):=KeyOrd.kle_antisymm e2 e;refine Wy ⟨q+1,rfl,b1,λi j tf hj=>?_,(by lia),λi a1 a2=>?_⟩
    ·by_cases c1:j<x
     ·exact b2 i j tf c1
     ·have:j=x:=(by lia)
      subst this;by_cases c2:i=j
      ·subst c2;exact XY _
      ·rw[eq];have:=b2 i (j-1) (by lia) (by lia);rw[show lo+(j-1)=lo+j-1 by lia] at this;exact this
    ·rw[show lo+(x+1)-1=lo+x by lia];by_cases c1:i=x
     ·subst c1;rfl
     ·rw[eq];exact b4 i (by lia) (by lia)
theorem xA (C:kD M A E s O key knd D){st:WC}{Q:Option Nat->WC->Prop}(kd:XB bX=knd)(hD:∀p∈a0.toList,D p)(hm:lo+m<=a0.size)(nm:n+1<=m)(hB:SB lo a0 bX st)(hd:Om key lo (W5 st) (n+1))(h:∀r aK,SB lo a0 bX aK->1<=r->r<=m->Dh key lo (W5 aK) r->Q (some r) aK):wpS M A E s (Bb lo n m) Q st:=by
 unfold Bb;refine Ws (wpS_lift (YI ⟨rfl,?_⟩));refine Ws (FI C kd hD hm (by lia) nm hB hd λr q aK b1 r1 r2 b2 b3 b4=>?_);dsimp only;have hz:lo+r<=(W5 aK).size:=by rw[b1.size];lia
 by_cases c:q>0
 ·rw[hZ c];refine Ws (vt ?_);have e3:lo+r-(q+1)=lo+(r-(q+1)):=(by lia)
  rw[e3];refine xy C kd hD hm (by lia) r2 (b1.mir (by lia)) (λi j tf hj=>?_) h;have e1:=fm (key:=key) hz b4 i;have e2:=fm (key:=key) hz b4 j;rw[e1,e2];exact b2 i j tf hj
 ·rw[hV c];exact xy C kd hD hm (by lia) r2 b1 b2 h
theorem xB (C:kD M A E s O key knd D){st:WC}{Q:Option Nat->WC->Prop}(kd:XB bX=knd)(hD:∀p∈a0.toList,D p)(hm:lo+m<=a0.size)(m1:1<=m)(hB:SB lo a0 bX st)(h:∀r aK,SB lo a0 bX aK->1<=r->r<=m->Dh key lo (W5 aK) r->Q (some r) aK):wpS M A E s (countRun' lo m) Q st:=by
 rw[xv];refine Ws (xx C kd hD hm (Wf 1) m1 hB (λi j tf hj=>by rw[show i=j by lia];exact XY _) λn n1 n2 ha ho=>?_);dsimp only;by_cases c:n=m
 ·rw[hZ (by simpa using c)];exact Wy (h n st hB n1 n2 ha)
 ·rw[hV (by simpa using c)];have hl:=ho.resolve_left c;by_cases c2:n>1
  ·rw[hZ c2];refine Ws (q_ C kd hD hB (by lia) (by lia) ?_);dsimp only;cases e:O.blt (kx key (W5 st) lo) (kx key (W5 st) (lo+n-1)) with
   |true=>
    rw[hZ rfl];exact Wy (h n st hB n1 n2 ha)
   |false=>
    rw[hV V5];have hz:lo+n<=(W5 st).size:=by rw[hB.size];lia
    have al:∀k,0<=k->k<n->kx key (W5 st) (lo+k)=kx key (W5 st) (lo+n-1):=by
     intro k _ hk;have p1:=ha 0 k (by lia) hk;have p2:=ha k (n-1) (by lia) (by lia);rw[show lo+(n-1)=lo+n-1 by lia] at p2;exact KeyOrd.kle_antisymm p2 (W0 (show O.kle _ (kx key (W5 st) lo) from e) p1)
    refine Ws (vt ?_);have Oz:=hB.mir (n:=0) (m:=n) (by lia);rw[aby] at Oz;refine xA C kd hD hm (by lia) Oz (λi j tf hj=>?_) h;have e1:=fm (key:=key) (n:=0) hz al i;have e2:=fm (key:=key) (n:=0) hz al j;rw[aby] at e1 e2;rw[e1,e2];by_cases c3:j<n
    ·rw[al i (by lia) (by lia),al j (by lia) c3];exact XY _
    ·have:j=n:=(by lia)
     subst this;by_cases c4:i=j
     ·subst c4;exact XY _
     ·rw[al i (by lia) (by lia)];exact Xi hl
  ·rw[hV c2];have:n=1:=(by lia)
   subst this;refine xA C kd hD hm (by lia) hB (λi j tf hj=>?_) h;by_cases c4:i=j
   ·subst c4;exact XY _
   ·have To:i=0:=(by lia)
    have Vq:j=1:=(by lia)
    subst To;subst Vq;exact Xi hl
theorem zz (C:kD M A E s O key knd D){st:WC}{ok:Nat}{Q:Bool->WC->Prop}(kd:XB bX=knd)(hD:∀p∈a0.toList,D p)(hn:lo+n<=a0.size)(hok:ok<=n)(hB:SB lo a0 bX st)(ha:Dh key lo (W5 st) ok)(h:∀aK,SB lo a0 bX aK->Dh key lo (W5 aK) n->Q true aK):wpS M A E s (binarySort' lo n ok) Q st:=by
 rw[binarySort'_eq];refine Ws (YO (XJ (I:=λk c aK=>c=(none,())/\SB lo a0 bX aK/\Dh key lo (W5 aK) (min k n))
  (Q:=λc aK=>c=(none,())/\SB lo a0 bX aK/\Dh key lo (W5 aK) n) ?go ?out ?uH) ?end_)
 case end_=>
  rintro c aK ⟨rfl,b1,b2⟩;exact Wy (h aK b1 b2)
 case uH=>
  refine⟨rfl,hB,λi j tf hj=>?_⟩;by_cases c:ok=0
  ·rw[show i=j by lia];exact XY _
  ·exact ha i j tf (by lia)
 case out=>
  rintro c aK ⟨e,b1,b2⟩;have e2:min (max (max ok 1) n) n=n:=(by lia)
  rw[e2] at b2;exact⟨e,b1,b2⟩
 case go=>
  rintro k c zZ Lk OB ⟨rfl,b1,b2⟩;have e1:min k n=k:=(by lia)
  rw[e1] at b2;have hk:lo+k<a0.size:=(by lia)
  refine Ws (YO (XJ (I:=λx c j3=>j3=zZ/\∃l r,c=(none,l,r)/\l<=r/\r<=k/\r-l<=k-x/\
    (∀i,i<l->O.kle (kx key (W5 zZ) (lo+i)) (kx key (W5 zZ) (lo+k)))/\∀i,r<=i->i<k->O.klt (kx key (W5 zZ) (lo+k)) (kx key (W5 zZ) (lo+i)))
   (Q:=λc j3=>j3=zZ/\∃l,c=(none,l,l)/\l<=k/\(∀i,i<l->O.kle (kx key (W5 zZ) (lo+i)) (kx key (W5 zZ) (lo+k)))/\∀i,l<=i->i<k->O.klt (kx key (W5 zZ) (lo+k)) (kx key (W5 zZ) (lo+i))) ?go2 ?out2 ?at2) ?end2)
  case at2=>exact⟨rfl,0,k,rfl,(by lia),(by lia),(by lia),λi hi=>(by lia),λi a1 a2=>(by lia)⟩
  case out2=>
   rintro c j3 ⟨rfl,l,r,rfl,q1,q2,q3,q4,q5⟩;have:l=r:=(by lia)
   subst this;exact⟨rfl,l,rfl,q2,q4,q5⟩
  case go2=>
   rintro x c j3 _ hx ⟨rfl,l,r,rfl,q1,q2,q3,q4,q5⟩;dsimp only;by_cases c:l≥r
   ·rw[hZ c];have:l=r:=(by lia)
    subst this;exact Wy ⟨rfl,l,rfl,q2,q4,q5⟩
   ·rw[hV c];refine Ws (q_ C kd hD b1 hk (by lia) ?_);cases e:O.blt (kx key (W5 j3) (lo+k)) (kx key (W5 j3) (lo+(l+r) / 2)) with
    |true=>
     simp only[if_true];exact Wy ⟨rfl,l,(l+r) / 2,rfl,(by lia),(by lia),(by lia),q4,λi a1 a2=>KeyOrd.klt_of_klt_of_kle e (b2 _ _ a1 a2)⟩
    |false=>
     simp only[Xj,if_false];exact Wy ⟨rfl,(l+r) / 2+1,r,rfl,(by lia),(by lia),(by lia),λi a1=>W0 (b2 i ((l+r) / 2) (by lia) (by lia)) (show O.kle _ _ from e),q5⟩
  case end2=>
   rintro c j3 ⟨rfl,l,rfl,q2,q4,q5⟩;dsimp only;rw[moveDown'_eq];have e2:lo+k-(lo+l)=k-l:=(by lia)
   refine Ws (Z0 (Wy ⟨rfl,?_,?_⟩))
   ·rw[e2];exact b1.bub hk (by lia)
   ·rw[show min (k+1) n=k+1 by lia];have hz:lo+k<(W5 j3).size:=by rw[b1.size];exact hk
    intro i j tf hj;show O.kle (kx key (bubble (W5 j3) (lo+k) (lo+k-(lo+l))) (lo+i)) (kx key (bubble (W5 j3) (lo+k) (lo+k-(lo+l))) (lo+j));rw[e2,FH hz (by lia),FH hz (by lia),show k-(k-l)=l by lia]
    repeat' split
    all_goals first
     | (exfalso;lia)
     |exact XY _
     |exact q4 _ (by lia)
     |exact Xi (q5 _ (by lia) (by lia))
     |exact b2 _ _ (by lia) (by lia)
end
end Hc.Ts
namespace Hc.Ts
noncomputable def vx (lo n:Nat):StateT WC Sem (ForInStep (Option Unit×Nat)):=do
 modify λst=>setPending st ((WZ st).push (lo,n,0))
 pure (.yield (none,lo+n))
noncomputable def Su (pw:Nat)(_:Nat)(_:Option Unit×Unit):StateT WC Sem (ForInStep (Option Unit×Unit)):=do
 let st ←get
 let some (_,_,G4):=(if (WZ st).size>1 then (WZ st)[(WZ st).size-2]? else none)|pure (.done (none,()))
 if G4<=pw then pure (.done (none,())) else do
  let r ←mergeAt' ((WZ st).size-2)
  if (!r)=true then pure (.done (some (),())) else pure (.yield (none,()))
noncomputable def Sv (pw:Nat)(st:WC):WC:=setPending st ((WZ st).modify ((WZ st).size-1) λx=>match x with|(p,n,_)=>(p,n,pw))
noncomputable def KY (size lo n pw:Nat):StateT WC Sem (ForInStep (Option Unit×Nat)):=do
 let c ←forIn [0:size] ((none,()):Option Unit×Unit) (Su pw)
 match c.1 with
 |some r=>pure (.done (some r,lo))
 |none=>do
  modify (Sv pw)
  vx lo n
noncomputable def Rf (size lo n:Nat):StateT WC Sem (ForInStep (Option Unit×Nat)):=do
 let st ←get
 let some (p1,n1,_):=(WZ st).back? | vx lo n
 KY size lo n (power' size (2*p1+n1) (2*p1+n1+n1+n) size)
noncomputable def Sw (size nO:Nat)(_:Nat)(c:Option Unit×Nat):StateT WC Sem (ForInStep (Option Unit×Nat)):=
 if c.2≥size then pure (.done (none,c.2)) else do
  let some n ←countRun' c.2 (size-c.2)|pure (.done (some (),c.2))
  if n<nO then do
   liftM (rule "list.sort.binary-insertion")
   let r ←binarySort' c.2 (min (size-c.2) nO) n
   if (!r)=true then pure (.done (some (),c.2)) else Rf size c.2 (min (size-c.2) nO)
  else Rf size c.2 n
noncomputable def Sz (p:Array (Nat×Nat×Nat)):Nat:=
 if Option.any (λx=>decide (x<(p[p.size-2+1]?).elim 0 λx=>x.2.1)) (if p.size-2>0 then Option.map (λx=>x.2.1) p[p.size-2-1]? else none)=true then p.size-2-1 else p.size-2
noncomputable def T3 (_:Nat)(_:Option Unit×Unit):StateT WC Sem (ForInStep (Option Unit×Unit)):=do
 let st ←get
 if (WZ st).size<=1 then pure (.done (none,())) else do
  let r ←mergeAt' (Sz (WZ st))
  if (!r)=true then pure (.done (some (),())) else pure (.yield (none,()))
theorem vy:sortRuns'=(do
  let st ←get
  let c ←forIn [0:(W5 st).size] ((none,0):Option Unit×Nat) (Sw (W5 st).size (minRun' (W5 st).size (W5 st).size 0))
  match c.1 with
  |some r=>pure r
  |none=>do
   let d ←forIn [0:(W5 st).size] ((none,()):Option Unit×Unit) T3
   match d.1 with
   |some r=>pure r
   |none=>pure ()):=by kernel_rfl
section
variable {A:W2}{O:abZ}{key:WB->O.α}{knd:aac}{D:WB->Prop}
def rf (key:WB->O.α):Nat->List (List WB)->List (Nat×Nat×Nat)->Prop
 |_,[],[]=>True
 |p,g::gs,e::es=>e.1=p/\e.2.1=g.length/\0<g.length/\gN key g/\rf key (p+g.length) gs es
 |_,_,_=>False
theorem rf.len:∀{p:Nat} {gs:List (List WB)} {es:List (Nat×Nat×Nat)},rf key p gs es->gs.length=es.length/\gs.length<=gs.flatten.length
 |_,[],[],_=>⟨rfl,Wf _⟩
 |p,g::gs,e::es,h=>by
  obtain⟨h1,h2⟩:=rf.len h.2.2.2.2;have:=h.2.2.1;rw[W4,V9,Wl,Wl];lia
theorem rf.app:∀{p:Nat} {gs:List (List WB)} {es:List (Nat×Nat×Nat)} {gs2:List (List WB)} {es2:List (Nat×Nat×Nat)},rf key p gs es->rf key (p+gs.flatten.length) gs2 es2->rf key p (gs++gs2) (es++es2)
 |_,[],[],_,_,_,h2=>h2
 |p,g::gs,e::es,gs2,es2,h,h2=>by
  refine⟨h.1,h.2.1,h.2.2.1,h.2.2.2.1,rf.app h.2.2.2.2 ?_⟩;rw[W4,V9,←Y6] at h2;exact h2
theorem rf.split:∀{i p:Nat} {gs:List (List WB)} {es:List (Nat×Nat×Nat)},rf key p gs es->i+1<es.length->∃g1 x y g2 e1 pw pw2 e2,gs=g1++x::y::g2/\es=e1++(p+g1.flatten.length,x.length,pw)::(p+g1.flatten.length+x.length,y.length,pw2)::e2/\e1.length=i/\rf key p g1 e1/\0<x.length/\gN key x/\0<y.length/\gN key y/\rf key (p+g1.flatten.length+x.length+y.length) g2 e2
 |0,p,x::y::g2,(a,b,pw)::(c,d,pw2)::e2,h,_=>by
  obtain⟨h1,h2,h3,h4,k1,k2,k3,k4,h5⟩:=h;dsimp only at h1 h2 k1 k2;subst h1;subst h2;subst k1;subst k2;exact⟨[],x,y,g2,[],pw,pw2,e2,rfl,rfl,rfl,trivial,h3,h4,k3,k4,h5⟩
 |0,p,[x],[e],h,hl=>absurd hl (by simp)
 |0,p,[],[],h,hl=>absurd hl (by simp)
 |0,p,[x],_::_::_,h,hl=>h.2.2.2.2.elim
 |0,p,_::_::_,[e],h,hl=>h.2.2.2.2.elim
 |i+1,p,[],[],h,hl=>absurd hl (by simp)
 |i+1,p,g::gs,e::es,h,hl=>by
  obtain⟨g1,x,y,g2,e1,pw,pw2,e2,q1,q2,q3,q4,q5⟩:=rf.split h.2.2.2.2 (i:=i) (by simpa using hl);refine⟨g::g1,x,y,g2,e::e1,pw,pw2,e2,by rw[q1];rfl,?_,by rw[Wl,q3],⟨h.1,h.2.1,h.2.2.1,h.2.2.2.1,q4⟩,?_⟩
  ·rw[q2,W4,V9,←Y6];rfl
  ·rw[W4,V9,←Y6];exact q5
theorem rf.power {f:Nat×Nat×Nat->Nat×Nat×Nat}(hf:∀e,(f e).1=e.1/\(f e).2.1=e.2.1):∀{i p:Nat} {gs:List (List WB)} {es:List (Nat×Nat×Nat)},rf key p gs es->rf key p gs (es.modify i f)
 |_,_,[],[],_=>by rw[List.modify_nil];exact trivial
 |0,p,g::gs,e::es,h=>by
  rw[List.modify_zero_cons];exact⟨(hf e).1.trans h.1,(hf e).2.trans h.2.1,h.2.2⟩
 |i+1,p,g::gs,e::es,h=>by
  rw[List.modify_succ_cons];exact⟨h.1,h.2.1,h.2.2.1,h.2.2.2.1,rf.power hf h.2.2.2.2⟩
structure SI (key:WB->O.α)(knd:aac)(a0:Array WB)(lo:Nat)(rest:List WB)(st:WC):Prop where
 failed:ZR st=none
 kind:XB st=knd
 perm:(W5 st).toList.Perm a0.toList
 segs:∃gs:List (List WB),(W5 st).toList=gs.flatten++rest/\gs.flatten.length=lo/\rf key 0 gs (WZ st).toList
variable {a0:Array WB}{lo:Nat}{rest:List WB}
theorem SI.size {st:WC}(h:SI key knd a0 lo rest st):lo+rest.length=a0.size:=by
 obtain⟨gs,e,l,_⟩:=h.segs;have:=h.perm.length_eq;rw[e,V9,l,Wg] at this;exact this
theorem SI.few {st:WC}(h:SI key knd a0 lo rest st):(WZ st).size<=lo:=by
 obtain⟨gs,e,l,p⟩:=h.segs;have h1:=p.len;have h2:(WZ st).toList.length=(WZ st).size:=Wg;lia
theorem SI.merge (C:kD M A E s O key knd D)(hD:∀p∈a0.toList,D p){st:WC}(h:SI key knd a0 lo rest st)(hi:i+1<(WZ st).size){Q:Bool->WC->Prop}(q:∀aK,SI key knd a0 lo rest aK->(WZ aK).size+1=(WZ st).size->Q true aK):wpS M A E s (mergeAt' i) Q st:=by
 obtain⟨gs,e,l,p⟩:=h.segs;obtain⟨g1,x,y,g2,e1,pw,pw2,e2,q1,q2,q3,q4,x0,sx,y0,sy,q5⟩:=p.split (i:=i) (by rw[Wg];exact hi);rw[Zm] at q2 q5;subst q3;have ea:(W5 st).toList=g1.flatten++(x++(y++(g2.flatten++rest))):=by
  rw[e,q1,YE,W4,W4];simp only[Wz]
 have mem:∀p∈(W5 st).toList,D p:=λp hp=>hD p (h.perm.mem_iff.mp hp);refine zx C (pw:=pw) (pw2:=pw2) h.failed h.kind ea ?_ ?_ (λp hp=>mem p (by rw[ea];simp[hp])) (λp hp=>mem p (by rw[ea];simp[hp])) sx sy x0 y0 λz g hz sz=>q _ ?_ ?_
 ·rw[←WX,q2,Xw (Wf _),Nat.sub_self];rfl
 ·rw[←WX,q2,Xw (Yt _ 1),X_];rfl
 all_goals
  have ep:(ui (WZ st) e1.length g1.flatten.length (x.length+y.length) pw).toList=e1++(g1.flatten.length,x.length+y.length,pw)::e2:=by
   unfold ui;rw[Array.toList_eraseIdxIfInBounds,abf,q2,List.set_append_right _ _ (Wf _),Nat.sub_self,W7,List.eraseIdx_append_of_length_le (Yt _ 1),X_];rfl
 ·refine⟨h.failed,h.kind,?_,g1++z::g2,?_,?_,?_⟩
  ·show (g1.flatten++(z++(g2.flatten++rest))).Perm a0.toList;refine List.Perm.trans ?_ h.perm;rw[ea];refine X2 _ ?_;rw[←Wz x];exact XQ _ hz
  ·show g1.flatten++(z++(g2.flatten++rest))=_;rw[YE,W4];simp only[Wz]
  ·rw[←l,q1,YE,YE,W4,W4,W4];have:=hz.length_eq;rw[V9] at this;simp only[V9];lia
  ·show rf key 0 _ (ui (WZ st) e1.length g1.flatten.length (x.length+y.length) pw).toList;have hl:z.length=x.length+y.length:=by rw[hz.length_eq,V9]
   rw[ep];refine q4.app ⟨by rw[Zm],hl.symm,by rw[hl];lia,sz,?_⟩;rw[Zm,hl,←Y6];exact q5
 ·show (ui (WZ st) e1.length g1.flatten.length (x.length+y.length) pw).size+1=_;rw[←Wg,ep,←Wg (xs:=WZ st),q2];simp only[V9,Wl];lia
theorem M6 (C:kD M A E s O key knd D)(hD:∀p∈a0.toList,D p){st:WC}(h:SI key knd a0 lo rest st){pw:Nat}{c:Option Unit×Unit}{Q:ForInStep (Option Unit×Unit)->WC->Prop}(q1:∀aK,SI key knd a0 lo rest aK->Q (.done (none,())) aK)(q2:∀aK,SI key knd a0 lo rest aK->Q (.yield (none,())) aK):wpS M A E s (Su pw i c) Q st:=by
 unfold Su;refine Ws (wpS_get ?_);by_cases c1:(WZ st).size>1
 ·rw[hZ c1,getElem?_pos (WZ st) _ (by lia)];obtain⟨a,b,G4⟩:=(WZ st)[(WZ st).size-2];dsimp only;split
  ·exact Wy (q1 st h)
  ·refine Ws (h.merge C hD (by lia) λaK h' _=>?_);rw[hV (by decide)];exact Wy (q2 aK h')
 ·rw[hV c1];exact Wy (q1 st h)
theorem uj {st:WC}(h:SI key knd a0 lo rest st){Q:ForInStep (Option Unit×Nat)->WC->Prop}(n1:1<=n)(n2:n<=rest.length)(sr:gN key (rest.take n))(q:∀aK,SI key knd a0 (lo+n) (rest.drop n) aK->Q (.yield (none,lo+n)) aK):wpS M A E s (vx lo n) Q st:=by
 unfold vx;refine Ws (Z0 (Wy (q _ ?_)));obtain⟨gs,e,l,p⟩:=h.segs;have hl:(rest.take n).length=n:=by rw[Wx];lia
 refine⟨h.failed,h.kind,h.perm,gs++[rest.take n],?_,?_,?_⟩
 ·show (W5 st).toList=_;rw[e,YE,Wz];congr 1;rw[W4,List.flatten_nil,WN,Xh]
 ·rw[YE,V9,l,W4,List.flatten_nil,WN,hl]
 ·show rf key 0 _ ((WZ st).push (lo,n,0)).toList;rw[ZA];exact p.app ⟨by rw[Zm,l],hl.symm,(by lia),sr,trivial⟩
theorem FJ (C:kD M A E s O key knd D)(hD:∀p∈a0.toList,D p){st:WC}(h:SI key knd a0 lo rest st){size:Nat}{Q:ForInStep (Option Unit×Nat)->WC->Prop}(n1:1<=n)(n2:n<=rest.length)(sr:gN key (rest.take n))(q:∀aK,SI key knd a0 (lo+n) (rest.drop n) aK->Q (.yield (none,lo+n)) aK):wpS M A E s (Rf size lo n) Q st:=by
 unfold Rf;refine Ws (wpS_get ?_);cases e:(WZ st).back? with
 |none=>exact uj h n1 n2 sr q
 |some v=>
  obtain⟨p1,m1,w⟩:=v;dsimp only;unfold KY;refine Ws (YO (XJ (I:=λx c aK=>c=(none,())/\SI key knd a0 lo rest aK) (Q:=λc aK=>c=(none,())/\SI key knd a0 lo rest aK) ?go (λ_ _ z=>z) ⟨rfl,h⟩) ?fin)
  case go=>
   rintro x c aK _ _ ⟨rfl,h'⟩;exact M6 C hD h' (λj3 z=>⟨rfl,z⟩) λj3 z=>⟨rfl,z⟩
  case fin=>
   rintro c aK ⟨rfl,h'⟩;dsimp only;refine Ws (Z0 (uj ?_ n1 n2 sr q));obtain⟨gs,e,l,p⟩:=h'.segs;refine⟨h'.failed,h'.kind,h'.perm,gs,e,l,?_⟩;show rf key 0 gs ((WZ aK).modify _ _).toList;rw[Array.toList_modify];refine rf.power (λe=>?_) p;exact⟨rfl,rfl⟩
theorem IL {l:Array WB}{P R:List WB}(e:l.toList=P++R)(h:Dh key P.length l n):gN key (R.take n):=by
 refine ZO.mpr λi j hi hj tf=>?_;rw[Wx] at hi hj;have at_:∀k,(hk:k<R.length)->kx key l (P.length+k)=key R[k]:=λk hk=>by
  unfold kx;rw[←WX,e,Xw (Yt _ _),X_,V4 hk];rfl
 have:=h i j (by lia) (by lia);rw[at_ i (by lia),at_ j (by lia)] at this;rw[aau,aau];exact this
theorem SI.run {bX st:WC}(h:SI key knd a0 lo rest bX)(b:SB lo (W5 bX) bX st):∃r,SI key knd a0 lo r st/\r.length=rest.length/\∀n,Dh key lo (W5 st) n->gN key (r.take n):=by
 obtain⟨gs,e,l,p⟩:=h.segs;have hp:=abg.mp b.perm;have hl:lo<=(W5 st).toList.length:=by rw[hp.length_eq,e,V9,l];lia
 have ht:(W5 st).toList.take lo=gs.flatten:=by
  apply aar;intro k;rw[aad];split
  ·rename_i c;rw[WX,b.same k c,←WX,e,XS (by lia)]
  ·rename_i c;rw[Zs (by lia)]
 have e2:(W5 st).toList=gs.flatten++(W5 st).toList.drop lo:=by
  conv=>lhs;rw[←Xh lo (W5 st).toList,ht]
 refine⟨(W5 st).toList.drop lo,⟨?_,?_,hp.trans h.perm,gs,e2,l,?_⟩,?_,λn hn=>?_⟩
 ·rw[b.rest];exact h.failed
 ·rw[b.rest];exact h.kind
 ·rw[b.rest];exact p
 ·have:=hp.length_eq;rw[e,V9,l] at this;rw[W9];lia
 ·subst l;exact IL e2 hn
theorem M7 (C:kD M A E s O key knd D)(hD:∀p∈a0.toList,D p){st:WC}{nO:Nat}{c:Option Unit×Nat}(h:SI key knd a0 c.2 rest st){Q:ForInStep (Option Unit×Nat)->WC->Prop}(q1:SI key knd a0 a0.size [] st->c.2=a0.size->Q (.done (none,a0.size)) st)(q2:∀n r aK,1<=n->SI key knd a0 (c.2+n) r aK->Q (.yield (none,c.2+n)) aK):wpS M A E s (Sw a0.size nO i c) Q st:=by
 obtain⟨c1,lo⟩:=c;dsimp only at h q1 q2;have hs:=h.size;unfold Sw;dsimp only;by_cases c2:lo≥a0.size
 ·rw[hZ c2];have e1:lo=a0.size:=(by lia)
  have e2:rest=[]:=WM (by lia);subst e1;subst e2;exact Wy (q1 h rfl)
 ·rw[hV c2];have Um:∀p∈(W5 st).toList,D p:=λp hp=>hD p (h.perm.mem_iff.mp hp);have hz:(W5 st).size=a0.size:=by have:=h.perm.length_eq;rwa [Wg,Wg] at this
  have b0:SB lo (W5 st) st st:=⟨Array.Perm.refl _,λ_ _=>rfl,rfl⟩;refine Ws (xB C h.kind Um (by lia) (by lia) b0 λn aK b1 n1 n2 ha=>?_);dsimp only;by_cases c3:n<nO
  ·rw[hZ c3];refine Ws (wpS_lift (YI ⟨rfl,?_⟩));refine Ws (zz C h.kind Um (by lia) (by lia) b1 ha λj3 b2 Oy=>?_);rw[hV (by decide)];obtain⟨r,h',hl,hr⟩:=h.run b2;exact FJ C hD h' (by lia) (by lia) (hr _ Oy) λG7 h3=>q2 _ _ G7 (by lia) h3
  ·rw[hV c3];obtain⟨r,h',hl,hr⟩:=h.run b1;exact FJ C hD h' n1 (by lia) (hr _ ha) λG7 h3=>q2 _ _ G7 n1 h3
theorem M8 {p:Array (Nat×Nat×Nat)}(h:¬p.size<=1):Sz p+1<p.size:=by
 unfold Sz;generalize (Option.any _ _)=z;cases z with
 |true=>rw[hZ rfl];lia
 |false=>rw[hV V5];lia
theorem xC (C:kD M A E s O key knd D)(hD:∀p∈a0.toList,D p){st:WC}(hk:XB st=knd)(hf:ZR st=none)(ha:W5 st=a0)(hp:WZ st=(List.toArray [])){Q:Unit->WC->Prop}
  (q:∀aK,ZR aK=none->(W5 aK).toList.Perm a0.toList->gN key (W5 aK).toList->Q () aK):wpS M A E s sortRuns' Q st:=by
 rw[vy];refine Ws (wpS_get ?_);rw[ha];have h0:SI key knd a0 0 a0.toList st:=⟨hf,hk,by rw[ha],[],by rw[ha];rfl,rfl,by rw[hp];exact trivial⟩;refine Ws (YO (XJ (I:=λx c aK=>c.1=none/\x<=c.2/\∃r,SI key knd a0 c.2 r aK) (Q:=λc aK=>c.1=none/\SI key knd a0 a0.size [] aK) ?go ?out ⟨rfl,Wf _,_,h0⟩) ?post)
 case out=>
  rintro⟨c1,lo⟩ aK ⟨e,hx,r,h⟩;dsimp only at e hx h;have hs:=h.size;have e1:lo=a0.size:=(by lia)
  have e2:r=[]:=WM (by lia);subst e1;subst e2;exact⟨e,h⟩
 case go=>
  rintro x c aK _ hx ⟨e,Rr,r,h⟩;refine M7 C hD h (λh1 h2=>⟨rfl,h1⟩) λn r j3 n1 h2=>⟨rfl,?_,r,h2⟩;show x+1<=c.2+n;lia
 case post=>
  rintro⟨c1,lo⟩ aK ⟨e,h⟩;dsimp only at e ⊢;subst e;dsimp only;refine Ws (YO (XJ (I:=λx c aK=>c=(none,())/\SI key knd a0 a0.size [] aK/\(WZ aK).size+x<=a0.size) (Q:=λc aK=>c=(none,())/\SI key knd a0 a0.size [] aK/\(WZ aK).size<=1) ?_ ?_ ⟨rfl,h,by have:=h.few;lia⟩) ?_)
  ·rintro x c j3 _ hx ⟨rfl,h2,h3⟩;unfold T3;refine Ws (wpS_get ?_);by_cases c:(WZ j3).size<=1
   ·rw[hZ c];exact Wy ⟨rfl,h2,c⟩
   ·rw[hV c];refine Ws (h2.merge C hD (M8 c) λG7 h4 h5=>?_);rw[hV (by decide)];exact Wy ⟨rfl,h4,(by lia)⟩
  ·rintro c j3 ⟨rfl,h2,h3⟩;exact⟨rfl,h2,(by lia)⟩
  ·rintro c j3 ⟨rfl,h2,h3⟩;refine Wy (q j3 h2.failed h2.perm ?_);obtain⟨gs,e,l,p⟩:=h2.segs;rw[e,WN]
   match gs,(WZ j3).toList,p,(show (WZ j3).toList.length<=1 by rw[Wg];exact h3) with
   | [],_,_,_=>exact List.Pairwise.nil
   | [g],[e1],p,_=>
    rw[W4,List.flatten_nil,WN];exact p.2.2.2.1
   |g::g2::gs,[e1],p,_=>exact p.2.2.2.2.elim
   |g::gs,e1::e2::es,p,hl=>exact absurd hl (by simp)
end
end Hc.Ts
namespace Hc.Ts
section
variable {w:Xt}{A:W2}{O:abZ}{key:WB->O.α}{knd:aac}{D:WB->Prop}
theorem uk {vs:List Wd}(h:l.Perm (vs.zip vs)):(l.map (·.2)).Perm vs/\∀p∈l,p=(p.2,p.2):=by
 have e:(vs.zip vs).map (·.2)=vs:=by
  induction vs with
  |nil=>rfl
  |cons v r ih=>rw[List.zip_cons_cons,V_,List.map_snd_zip (by simp)]
 refine⟨by have:=h.map (·.2);rwa [e] at this,λp hp=>?_⟩;have hp:=h.mem_iff.mp hp;clear h e
 induction vs with
 |nil=>cases hp
 |cons v r ih=>
  rw[List.zip_cons_cons,Wn] at hp;rcases hp with hp|hp
  ·subst hp;rfl
  ·exact ih hp
theorem FK {vs:List Wd}{P:Fin->Wr->Prop}(ho:s.heap.get? a=some (abv "list" vs.toArray n))(hz:vs.length<=1000000)(hk:2<=vs.length->∀(h6:Y5) (Q:aac->Wr->Prop),(∀b o,b≠a->s.heap.get? b=some o->h6.get? b=some o)->Q knd {s with heap:=h6}->Wv (WI prog w) A (keyKind' vs.toArray) Q E {s with heap:=h6})(hC:2<=vs.length->∀h6:Y5,(∀b o,b≠a->s.heap.get? b=some o->h6.get? b=some o)->kD (WI prog w) A E {s with heap:=h6} O key knd D)(hD:∀v∈vs,D (v,v))(h:∀out:List Wd,out.Perm vs->out.Pairwise (λx y=>O.kle (key (x,x)) (key (y,y)))->P (.done (.ret .none)) {s with heap:=sortedHeap s.heap a vs out.toArray}) :
  Wv (WI prog w) A (Builtin.«list.sort» ⟨[.ref a],[]⟩) P E s:=by
 have G8:vs.length<=Wa:=by rw[Yg];lia
 have la:a<s.heap.objs.size:=Wq ho;rw[list_sort_plain];refine V3 (listItems_at ho rfl (V3 (listUpdate_at ho rfl ?_ (hsz:=by rw[Wb];exact G8))));obtain⟨e1,o1⟩:∃e1,(s.heap.update a (Zx λ_=>(List.toArray []))).get? a=some (abv "list" (List.toArray []) e1):=⟨_,get?_update_seq ho (λ_=>(List.toArray []))⟩;refine V3 (seqEpoch_at o1 rfl (V3 (wpAny_newTuple (V3 (wpAny_newList (Xp ?_))) (by simpa using G8))));have kp:∀b o,b≠a->s.heap.get? b=some o->(((s.heap.update a (Zx λ_=>(List.toArray []))).push (abv "tuple" vs.toArray 0)).push (abv "list" (List.toArray []) 0)).get? b=some o:=λb o hb e=>
  V7 _ (V7 _ ((Heap.get?_update_ne _ _ _ _ hb).trans e))
 have o6:(((s.heap.update a (Zx λ_=>(List.toArray []))).push (abv "tuple" vs.toArray 0)).push (abv "list" (List.toArray []) 0)).get? a=some (abv "list" (List.toArray []) e1):=V7 _ (V7 _ o1);change Wv (WI prog w) A _ P E {s with heap:=((s.heap.update a (Zx λ_=>(List.toArray []))).push (abv "tuple" vs.toArray 0)).push (abv "list" (List.toArray []) 0)};dsimp only;have fin:∀aK:WC,ZR aK=none->(W5 aK).toList.Perm (pairsOf vs).toList->gN key (W5 aK).toList->Wv (WI prog w) A (do
   let touched:=(←seqEpoch a) != e1
   Builtin.List.listUpdate (.ref a) λ_=>(W5 aK).map (·.2)
   if let some e:=ZR aK then rule "list.sort.comparison-raised";throw e
   if touched then rule "list.sort.modified";raiseError "ValueError" "list modified during sort"
   ret .none) P E {s with heap:=((s.heap.update a (Zx λ_=>(List.toArray []))).push (abv "tuple" vs.toArray 0)).push (abv "list" (List.toArray []) 0)}:=by
  intro aK f1 f2 f3;rw[pairsOf_toList] at f2;obtain⟨m1,m2⟩:=uk f2;refine V3 (seqEpoch_at o6 rfl (V3 (listUpdate_at o6 rfl ?_ (hsz2:=by
   rw[Array.size_map,←Wg,f2.length_eq,List.length_zip,abu];lia))))
  rw[f1];simp only[bne_self_eq_false,Xj,if_false];refine V8 ?_;have e:(W5 aK).map (·.2)=((W5 aK).toList.map (·.2)).toArray:=by apply Array.ext';simp
  rw[e];refine h _ m1 (abT.mpr (List.Pairwise.imp_of_mem (λ{x y} hx hy r=>?_) f3));rw[←m2 x hx,←m2 y hy];exact r
 by_cases h2:vs.length<2
 ·rw[hZ (by rw[Wb];exact h2),hZ (by rw[Wb];exact h2)];refine V3 (V8 ?_);rw[StateT.run_pure];refine V3 (V8 ?_);refine fin (SortSt.mk' general' (vs.toArray.zip vs.toArray) (List.toArray []) 7 none) rfl (X6 _) ?_;change gN key (pairsOf vs).toList;rw[pairsOf_toList]
  match vs,h2 with
  | [],_=>exact List.Pairwise.nil
  | [v],_=>exact aab _ _
  |_::_::_,h2=>exact absurd h2 (by simp)
 ·rw[hV (by rw[Wb];exact h2),hV (by rw[Wb];exact h2)];refine V3 (hk (by lia) _ _ kp ?_);refine V3 (Xg (xC (hC (by lia) _ kp) (a0:=pairsOf vs) (λp hp=>?_) (st:=SortSt.mk' knd (vs.toArray.zip vs.toArray) (List.toArray []) 7 none) rfl rfl rfl rfl
   (Q:=λ_ aK=>ZR aK=none/\(W5 aK).toList.Perm (pairsOf vs).toList/\gN key (W5 aK).toList) λaK a1 a2 a3=>⟨a1,a2,a3⟩) ?_ λ_ _ e=>e)
  ·rw[pairsOf_toList] at hp;obtain⟨m1,m2⟩:=uk (X6 (vs.zip vs));rw[m2 p hp];exact hD _ (m1.mem_iff.mp (W8 hp))
  ·rintro⟨⟨⟩,aK⟩ s' ⟨rfl,f1,f2,f3⟩;exact fin aK f1 f2 f3
end
end Hc.Ts
namespace Hc.Ts
open PySem.W
noncomputable def gr:List Int->List Int->Bool
 | [],[]=>false
 | [],_::_=>true
 |_::_,[]=>false
 |x::xs,y::ys=>if x=y then gr xs ys else decide (x<y)
theorem oI:∀a,gr a a=false
 | []=>rfl
 |x::xs=>by unfold gr;rw[hZ rfl];exact oI xs
theorem rg:∀a b c,gr a b=true->gr b c=true->gr a c=true
 | [],[],_,h,_=>by cases h
 | [],_::_,[],_,h=>by cases h
 | [],_::_,_::_,_,_=>rfl
 |_::_,[],_,h,_=>by cases h
 |_::_,_::_,[],_,h=>by cases h
 |x::xs,y::ys,z::zs,h1,h2=>by
  unfold gr at h1 h2 ⊢;by_cases e1:x=y
  ·subst e1;rw[hZ rfl] at h1;by_cases e2:x=z
   ·subst e2;rw[hZ rfl] at h2 ⊢;exact rg xs ys zs h1 h2
   ·rw[hV e2] at h2 ⊢;exact h2
  ·rw[hV e1] at h1;have h1:=of_decide_eq_true h1;by_cases e2:y=z
   ·subst e2;rw[hV e1];exact hG h1
   ·rw[hV e2] at h2;have h2:=of_decide_eq_true h2;rw[hV (by lia)];exact hG (by lia)
theorem xD:∀a b c,gr a c=true->gr a b=true\/gr b c=true
 | [],[],_::_,_=>.inr rfl
 | [],_::_,_::_,_=>.inl rfl
 | [],_,[],h=>by cases h
 |_::_,_,[],h=>by cases h
 |_::_,[],_::_,_=>.inr rfl
 |x::xs,y::ys,z::zs,h=>by
  unfold gr at h ⊢;by_cases e:x=z
  ·subst e;rw[hZ rfl] at h;by_cases e2:x=y
   ·subst e2;rw[hZ rfl,hZ rfl];exact xD xs ys zs h
   ·rw[hV e2,hV (λq=>e2 q.symm),decide_eq_true_eq,decide_eq_true_eq];lia
  ·rw[hV e] at h;have h:=of_decide_eq_true h;by_cases e2:x=y
   ·subst e2;exact .inr (by rw[hV e];exact hG h)
   ·by_cases e3:y=z
    ·subst e3;exact .inl (by rw[hV e];exact hG h)
    ·rw[hV e2,hV e3,decide_eq_true_eq,decide_eq_true_eq];lia
theorem kH:∀a b,gr a b=false->gr b a=false->a=b
 | [],[],_,_=>rfl
 | [],_::_,h,_=>by cases h
 |_::_,[],_,h=>by cases h
 |x::xs,y::ys,h1,h2=>by
  unfold gr at h1 h2;by_cases e:x=y
  ·subst e;rw[hZ rfl] at h1 h2;rw[kH xs ys h1 h2]
  ·rw[hV e] at h1;rw[hV (λq=>e q.symm)] at h2;have h1:=of_decide_eq_false h1;have h2:=of_decide_eq_false h2;lia
noncomputable def IM:abZ:=⟨List Int,gr,oI,rg,xD,kH⟩
noncomputable def vz (h:Y5)(v:Wd):List Int:=match v with
 | .ref a=>match h.get? a with
  |some o=>match o.data with
   | .seq ao _=>ao.toList.map numOf
   |_=>[]
  |none=>[]
 |_=>[]
def xE (h:Y5)(v:Wd):Prop:=∃a ao ns,v=.ref a/\h.IsTuple a ao/\aa2 ao.toList ns/\ns≠[]
theorem xF:∀{vs:List Wd} {ns:List Int},aa2 vs ns->vs.map numOf=ns
 |_,_,.nil=>rfl
 |_,_,.cons n t r=>by rw[V_,xF r];rfl
theorem lY {ao:Array Wd}(t:h.IsTuple a ao)(i:aa2 ao.toList ns):vz h (.ref a)=ns:=by
 obtain⟨o,e,_,n,d⟩:=t;unfold vz;dsimp only;rw[e];dsimp only;rw[d];exact xF i
section
variable {w:Xt}{A:W2}{b fin:Bool}{Q:Bool->Wr->Prop}
theorem xG:∀{xs ys:List Wd} {ns ms:List Int} {i:Nat},aa2 xs ns->aa2 ys ms->fin=decide (ns.length<ms.length)->Q (gr ns ms) s->KatLex prog w A b fin Q (xs.zip ys) i s
 |_,_,_,_,i,.nil,.nil,hf,h=>by subst hf;exact kat_nil h
 |_,_,_,_,i,.nil,.cons m t r,hf,h=>by subst hf;exact kat_nil (by rw[show decide (([]:List Int).length<(m::_).length)=true from hG (by simp)];exact h)
 |_,_,_,_,i,.cons n t r,.nil,hf,h=>by subst hf;exact kat_nil (by rw[show decide ((n::_).length<([]:List Int).length)=false from hJ (by simp)];exact h)
 |_,_,_,_,i,.cons n t r,.cons m u q,hf,h=>by
  refine kat_cons (wpAny_eqBool_int ?_);unfold gr at h;by_cases e:n=m
  ·subst e;rw[hZ rfl] at h;rw[beq_self_eq_true];refine kat_yes (xG r q ?_ h);rw[hf];simp
  ·rw[hV e] at h;rw[show (n==m)=false from beq_eq_false_iff_ne.mpr e];refine kat_no ?_;cases hb:(b&&i==0) with
   |true=>exact oneLt_int h
   |false=>exact kat_one _ _ (lt_int h)
theorem IP {hp:Y5}(keep:∀v,xE hp v->xE s.heap v/\vz s.heap v=vz hp v):kD (WI prog w) A E s IM (λx=>vz hp x.1) (tuples' true) (λx=>xE hp x.1) where
 lt:=λx y st Q dx dy kd q=>by
  obtain⟨k1,k2⟩:=keep _ dx;obtain⟨k3,k4⟩:=keep _ dy;obtain⟨a,xs,ns,e1,t1,i1,_⟩:=k1;obtain⟨c,ys,ms,e2,t2,i2,_⟩:=k3;rw[←k2,←k4,e1,e2,lY t1 i1,lY t2 i2] at q;rw[lt'_eq];refine Ws (wpS_get ?_);rw[kd,e1,e2];obtain⟨o1,g1,_,n1,d1⟩:=t1;obtain⟨o2,g2,_,n2,d2⟩:=t2;refine Ws (wpS_lift (YN (kat_lt g1 d1 g2 d2 (xG i1 i2 ?_ ⟨rfl,?_⟩))))
  ·rw[←i1.length,←i2.length,Wg,Wg]
  ·exact Wy q
end
end Hc.Ts
namespace Hc.Dw
open PySem.W PySem.Calls
section
variable {w:Xt}{A:W2}{d r I:Ww}
theorem M9 (hh:A.handled=none)(GP:d≠I):Walks prog w A I [I,d] [I] ds.size (λi v=>∃e,ds[i]? = some e/\v=e.key) (λi h=>h.IsKeyIter I d i ds.size ep/\iu h d ds ep) where
 sub:=λb hb=>by simp at hb;simp[hb]
 frame:=λ_ _ _ st hk=>⟨st.1.at λo e=>hk I (by simp) o e,st.2.at λo e=>hk d (by simp) o e⟩
 item:=λi s Q E hi st hQ=>KO st.1 st.2 hi λh' t' sb=>hQ _ h' s.toks ⟨_,getElem?_pos ds i hi,rfl⟩ ⟨t',st.2.at λo e=>sb.extBut _ _ GP e⟩ λb o hb e=>sb.extBut b o (λh=>hb (by simp[h])) e
 done:=λs Q E st hQ=>KP hh st.1 st.2 (Wf _) λh' eb=>hQ h' s.toks λb o hb e=>eb b o (λh=>hb (by simp[h])) e
 self:=λ_ _ _ _ st hQ=>wpAny_pyIter_keyiter st.1 hQ
theorem FN (hh:A.handled=none)(GP:d≠I):Walks prog w A I [I,d] [I] ds.size (λi v=>∃e,ds[i]? = some e/\v=e.val) (λi h=>h.IsValIter I d i ds.size ep/\iu h d ds ep) where
 sub:=λb hb=>by simp at hb;simp[hb]
 frame:=λ_ _ _ st hk=>⟨st.1.at λo e=>hk I (by simp) o e,st.2.at λo e=>hk d (by simp) o e⟩
 item:=λi s Q E hi st hQ=>P1 st.1 st.2 hi λh' t' sb=>hQ _ h' s.toks ⟨_,getElem?_pos ds i hi,rfl⟩ ⟨t',st.2.at λo e=>sb.extBut _ _ GP e⟩ λb o hb e=>sb.extBut b o (λh=>hb (by simp[h])) e
 done:=λs Q E st hQ=>P2 hh st.1 st.2 (Wf _) λh' eb=>hQ h' s.toks λb o hb e=>eb b o (λh=>hb (by simp[h])) e
 self:=λ_ _ _ _ st hQ=>wpAny_pyIter_valiter st.1 hQ
theorem P8 (lo:(d==XM)=false):KdlSrc prog w "dict" d d ds.size (λi v=>∃e,ds[i]? = some e/\v=e.key) (λh=>iu h d ds ep) where
 type:=λ_ hm=>hm.ty
 there:=λ_ hm=>⟨hm.lt,hm.lt⟩
 keep:=λ_ _ hm hk=>hm.at λo e=>hk d (.inl rfl) o e
 notList:=by decide
 notTuple:=by decide
 hint:=λ_ _ _ _ hm hq=>kdl_hint_dict hm.ty hq
 iter:=λ_ s hh hm=>⟨_,_,(λ_ _ hq=>KN lo hm hq),M9 hh (WA hm.lt),⟨⟨_,Wj _ rfl,rfl,rfl⟩,hm.at λo e=>V7 _ e⟩⟩
theorem xH {P:Nat->Wd->Prop}{OK:Y5->Prop}(K:KdlSrc prog w T r d n P OK)(hh:A.handled=none)(hok:OK s.heap)(hn:n<=Wa){Q:List Wd->Wr->Prop}(q:∀h' tk cg,(∀b o,s.heap.get? b=some o->h'.get? b=some o)->ItemsOf P cg n->Q cg.toList {s with heap:=h',toks:=tk}):Wv (WI prog w) A (collect (.ref r)) Q E s:=by
 have lt:=K.there _ hok;unfold collect;refine V3 (wpAny_runValue (Y2 PySem.F.entry_proto_collect ?_));rw[Yw PySem.F.plain_proto_collect _];change Wv _ A.in1 (newList [] >>= λl=>again (.builtin "list.__iadd__" ⟨[l,.ref r],[]⟩)) _ _ s;refine V3 (WR (V8 ⟨plainId_quiet PySem.F.plain_list_iadd _,Y2 PySem.F.entry_list_iadd ?_⟩));rw[Yw PySem.F.plain_list_iadd _];have hS:(s.heap.push {cls:=.type "list",data:=.seq ([]:List Wd).toArray}).get? s.heap.objs.size=some {cls:=.type "list",data:=.seq (List.toArray []) 0}:=Wj _ rfl;change Wv _ A.in1 (aa5 (.ref s.heap.objs.size) (.ref r) (.ref s.heap.objs.size)) _ _ _;refine kdl_extend (A:=A) (R:=λx s'=>match x with
  | .ok (.ret v)=>Wv (WI prog w) A (match v with
   | .ref a=>do match (←load a).data with
    | .seq xs _=>pure xs.toList
    |_=>aa6 "internal:collect"
   |_=>aa6 "internal:collect") Q E s'
  | .ok _=>False
  | .error e=>E e s') (s:={s with heap:=s.heap.push {cls:=.type "list",data:=.seq ([]:List Wd).toArray}}) K hh (K.keep _ _ hok λb _ o e=>V7 _ e) _ (ZW lt.1) (ZW lt.2) _ 0 hS (λh' tk cg c' k' QG pd=>?_) hn
 change Wv _ A (load s.heap.objs.size >>= _) _ _ _;refine V3 (wpAny_load QG ?_);exact V8 (q h' tk cg (λb o e=>k' b o (WA (Wq e)) (V7 _ e)) pd)
end
end Hc.Dw
namespace L2
open Hc.Dw Hc.Ts
noncomputable def P9:V->Int
 | .int i=>i
 |_=>0
noncomputable def iw (H:Hp)(b:Ww):List Int:=match H b with
 |some (.tup xs)=>xs.map P9
 |_=>[]
theorem xI (ns:List Int):(ns.map V.int).map P9=ns:=by
 induction ns with
 |nil=>rfl
 |cons n r ih=>rw[V_,V_,ih];rfl
def M_ (K:Wc)(H:Hp)(p:Ww)(bs:List Ww):Prop:=eF K H p (bs.map V.ref)\/eZ K H p (bs.map V.ref)\/∃ep es,H p=some (DN p ep es)/\es.map (·.2.1)=bs
theorem nB:∀{bs:List Ww} {ao:List Wd},aP (bs.map V.ref) ao->ao=bs.map Value.ref
 | [],_,.nil=>rfl
 |b::bs,_,.cons r t=>by rw[V_,nB t];cases r;rfl
theorem uo:∀(bs:List Ww),aP (bs.map V.ref) (bs.map Value.ref)
 | []=>.nil
 |b::bs=>.cons rfl (uo bs)
theorem CQ {bs:List Ww}{out:List Wd}(h:out.Perm (bs.map Value.ref)):∃nP:List Ww,out=nP.map Value.ref/\nP.Perm bs:=by
 let g:Wd->Ww:=λv=>match v with
  | .ref a=>a
  |_=>0
 refine⟨out.map g,?_,?_⟩
 ·rw[WG]
  conv=>lhs;rw[←List.map_id out]
  apply Xm;intro v hv;obtain⟨b,_,rfl⟩:=WY.mp (h.mem_iff.mp hv);rfl
 ·have:=h.map g;rw[WG] at this;have e:bs.map (g∘Value.ref)=bs:=by
   conv=>rhs;rw[←List.map_id bs]
   apply Xm;intro b _;rfl
  rw[e] at this;exact this
theorem IQ (I:av X pins σ H s)(h:H b=some (.tup (ns.map V.int)))(n:ns≠[]):xE s.heap (.ref b)/\vz s.heap (.ref b)=iw H b:=by
 obtain⟨_,ao,rv,it,_⟩:=I.hok b _ h;have ia:=kr rv;refine⟨⟨b,ao.toArray,ns,rfl,it,by simpa using ia,n⟩,?_⟩;rw[lY it (by simpa using ia)];unfold iw;rw[h];exact (xI ns).symm
theorem uq {v:Wd}(t:xE h v)(k:∀b ao,h.IsTuple b ao->h'.IsTuple b ao):xE h' v/\vz h' v=vz h v:=by
 obtain⟨a,ao,ns,rfl,q,i,n⟩:=t;refine⟨⟨a,ao,ns,rfl,k a ao q,i,n⟩,?_⟩;rw[lY q i,lY (k a ao q) i]
theorem Bc {h:Y5}:∀{vs:List Wd},(∀v∈vs,xE h v)->∃fs,PySem.W.KatTups h vs fs/\fs.length=vs.length/\∀f∈fs,∃n t,f=.int n t
 | [],_=>⟨[],.nil,rfl,λf hf=>by cases hf⟩
 |v::vs,hv=>by
  obtain⟨fs,k1,k2,k3⟩:=Bc (vs:=vs) λu hu=>hv u (Wh _ hu);obtain⟨a,ao,ns,rfl,⟨o,e,c,n,d⟩,i,ne⟩:=hv v Wi;have:∃m t r,ao.toList=.int m t::r:=by
   generalize ao.toList=l at i;cases i with
   |nil=>exact absurd rfl ne
   |cons m t r=>exact⟨m,t,_,rfl⟩
  obtain⟨m,t,r,el⟩:=this;refine⟨.int m t::fs,.cons e c d (by rw[←WX,el];rfl) k1,by rw[Wl,Wl,k2],λf hf=>?_⟩;rcases Wn.mp hf with rfl|hf
  ·exact⟨m,t,rfl⟩
  ·exact k3 f hf
noncomputable def P_:Wd->Ww
 | .ref a=>a
 |_=>0
theorem zA {O:abZ}{bs:List Ww}{Q:VK}(kf:Ww->O.α)(knd:aac)(I:av X pins σ H s)(hz:bs.length<=1000000)(hu:X.A.units+64<XG)(kk:∀(A:W2) (E:Wd->Wr->Prop) (oM:List Ww) (s6:Wr) (Q6:aac->Wr->Prop),oM.Perm bs->2<=oM.length->(∀b o,s.heap.get? b=some o->s6.heap.get? b=some o)->Q6 knd s6->Wv (WI X.prog X.w) A (keyKind' (oM.map Value.ref).toArray) Q6 E s6)(kc:2<=bs.length->∀(A:W2) (E:Wd->Wr->Prop) (s6:Wr),A.units<XG->(∀b o,s.heap.get? b=some o->s6.heap.get? b=some o)->kD (WI X.prog X.w) A E s6 O (λx=>kf (P_ x.1)) knd (λx=>∃b∈bs,x.1=.ref b))(col:∀(Q:List Wd->Wr->Prop) (E:Wd->Wr->Prop),(∀h1 tk (oM:List Ww),oM.Perm bs->(∀b o,s.heap.get? b=some o->h1.get? b=some o)->Q (oM.map Value.ref) {s with heap:=h1,toks:=tk})->Wv (WI X.prog X.w) X.A.in1 (collect (.ref p)) Q E s)(q:∀(l:Ww) (nP:List Ww),H l=none->nP.Perm bs->nP.Pairwise (λx y=>O.blt (kf y) (kf x)=false)->Q (.ref l) (bL H l (.lst (nP.map V.ref)))) :
  Wv (WI X.prog X.w) X.A (call (.builtin "sorted") [.ref p]) (EP X pins σ Q) X.xe s:=by
 refine ZK kind_sorted plain_sorted entry_sorted (args_sorted1 _) ?_;unfold Builtin.«sorted»;refine V3 (m:=checkCount "sorted" 1 1 _) (V8 ?_);refine V3 (col _ _ λh1 tk oM C8 k1=>?_);have hz:oM.length<=1000000:=by rw[C8.length_eq];exact hz
 have G8:oM.length<=Wa:=by rw[Yg];lia
 have I1:av X pins σ H {s with heap:=h1,toks:=tk}:=I.kept (t':=tk) k1;refine V3 (wpAny_newList ?_ (by rw[V6];exact G8));have Le:(h1.push {cls:=.type "list",data:=.seq (oM.map Value.ref).toArray}).get? h1.objs.size=some (abv "list" (oM.map Value.ref).toArray 0):=Wj _ rfl;have kt:∀(h6:Y5),(∀b o,b≠h1.objs.size->(h1.push {cls:=.type "list",data:=.seq (oM.map Value.ref).toArray}).get? b=some o->h6.get? b=some o)->∀b o,s.heap.get? b=some o->h6.get? b=some o:=λh6 k6 b o e=>
  k6 b o (WA (Wq (k1 b o e))) (V7 _ (k1 b o e))
 refine V3 (Xp (Xe slot_list_sort ⟨_,Le,rfl⟩ entry_list_sort (FK (s:={s with heap:=h1.push {cls:=.type "list",data:=.seq (oM.map Value.ref).toArray},toks:=tk}) (O:=O) (key:=λx=>kf (P_ x.1)) (knd:=knd) (D:=λx=>∃b∈bs,x.1=.ref b) Le (by rw[V6];exact hz)
  (λh2 h6 Q6 k6 q6=>kk _ _ oM _ _ C8 (by rw[V6] at h2;exact h2) (kt h6 k6) q6) (λh2 h6 k6=>kc (by rw[V6] at h2;rw[←C8.length_eq];exact h2) _ _ _ (by show X.A.units+1+1<XG;lia) (kt h6 k6)) (λv hv=>by
   obtain⟨b,hb,rfl⟩:=WY.mp hv;exact⟨b,C8.mem_iff.mp hb,rfl⟩) λout hp hw=>⟨_,rfl,?_⟩) (args_list_sort _)))
 obtain⟨nP,e,G5⟩:=CQ hp;subst e;obtain⟨ee,he⟩:=sortedHeap_at (out:=(nP.map Value.ref).toArray) Le;have keep:∀b o,h1.get? b=some o->(sortedHeap (h1.push {cls:=.type "list",data:=.seq (oM.map Value.ref).toArray}) h1.objs.size (oM.map Value.ref) (nP.map Value.ref).toArray).get? b=some o:=λb o e=>by
  have hb:=Wq e;rw[sortedHeap_old (WA hb) (by rw[YT];exact aaq hb)];exact V7 _ e
 have GO:(nP.map V.ref).length<=Wa:=by rw[V6,G5.length_eq];exact G8
 refine V8 ⟨_,rfl,.ref h1.objs.size,_,I1.laid (t':=tk) keep (Wf _) (show bh X.prog X.w _ _ _ (.lst _) from ⟨GO,nP.map Value.ref,ee,uo nP,by simpa using he⟩),rfl,q _ nP (I1.hok.fresh (Wf _)) (G5.trans C8) ?_⟩;exact abT.mp hw
theorem xJ {bs:List Ww}{Q:VK}(I:av X pins σ H s)(hz:bs.length<=1000000)(hu:X.A.units+64<XG)(tu:∀b∈bs,∃ns:List Int,H b=some (.tup (ns.map V.int))/\ns≠[])(col:∀(Q:List Wd->Wr->Prop) (E:Wd->Wr->Prop),(∀h1 tk (oM:List Ww),oM.Perm bs->(∀b o,s.heap.get? b=some o->h1.get? b=some o)->Q (oM.map Value.ref) {s with heap:=h1,toks:=tk})->Wv (WI X.prog X.w) X.A.in1 (collect (.ref p)) Q E s)(q:∀(l:Ww) (nP:List Ww),H l=none->nP.Perm bs->nP.Pairwise (λx y=>gr (iw H y) (iw H x)=false)->Q (.ref l) (bL H l (.lst (nP.map V.ref)))) :
  Wv (WI X.prog X.w) X.A (call (.builtin "sorted") [.ref p]) (EP X pins σ Q) X.xe s:=by
 have tI:∀b∈bs,xE s.heap (.ref b)/\vz s.heap (.ref b)=iw H b:=λb hb=>by
  obtain⟨ns,e,ne⟩:=tu b hb;exact IQ I e ne
 have kt:∀(h6:Y5),(∀b o,s.heap.get? b=some o->h6.get? b=some o)->∀b ao,s.heap.IsTuple b ao->h6.IsTuple b ao:=λh6 k6 b ao ⟨o,e,z⟩=>⟨o,k6 b o e,z⟩;refine zA (O:=IM) (iw H) (tuples' true) I hz hu (λA E oM s6 Q6 C8 h2 k6 q6=>?_) (λ_ A E s6 hA k6=>?_) col q
 ·obtain⟨fs,f1,f2,f3⟩:=Bc (h:=s6.heap) (vs:=oM.map Value.ref) λv hv=>by
   obtain⟨b,hb,rfl⟩:=WY.mp hv;exact (uq (tI b (C8.mem_iff.mp hb)).1 (kt _ k6)).1
  exact PySem.W.kat_kind (T:=.type "int") f1 (by rw[f2,V6];lia) (λv hv=>by
   obtain⟨n,t,rfl⟩:=f3 v hv;exact PySem.W.Looks.of_pure rfl) (by decide) q6
 ·have c:=IP (prog:=X.prog) (w:=X.w) (A:=A) (E:=E) (s:=s6) (hp:=s.heap) λv hv=>uq hv (kt _ k6);refine⟨λx y st Q dx dy kd qq=>?_⟩;obtain⟨b,hb,e1⟩:=dx;obtain⟨d,hd,e2⟩:=dy;refine c.lt x y st Q (by rw[e1];exact (tI b hb).1) (by rw[e2];exact (tI d hd).1) kd ?_;rw[e1,e2,(tI b hb).2,(tI d hd).2];rw[e1,e2] at qq;exact qq
theorem vA (hc:X.calm=true)(hu:X.A.units+64<XG):cU X (.builtin "sorted") (λxs H Q=>∃(p:Ww) (bs:List Ww),xs=[.ref p]/\M_ X.K H p bs/\bs.length<=1000000/\(∀b∈bs,∃ns:List Int,H b=some (.tup (ns.map V.int))/\ns≠[])/\
  ∀(l:Ww) (nP:List Ww),H l=none->nP.Perm bs->nP.Pairwise (λx y=>gr (iw H y) (iw H x)=false)->Q (.ref l) (bL H l (.lst (nP.map V.ref)))):=by
 intro pins s σ H xs us Q I r h;obtain⟨p,bs,rfl,QI,hz,tu,q⟩:=h;obtain⟨u,rfl,rx⟩:=gT r;cases rx;have G8:bs.length<=Wa:=by rw[Yg];lia
 have col:∀(Q:List Wd->Wr->Prop) (E:Wd->Wr->Prop),(∀h1 tk (oM:List Ww),oM.Perm bs->(∀b o,s.heap.get? b=some o->h1.get? b=some o)->Q (oM.map Value.ref) {s with heap:=h1,toks:=tk})->Wv (WI X.prog X.w) X.A.in1 (collect (.ref p)) Q E s:=by
  intro Q E hq;rcases QI with hs|hs|⟨ep,es,hs,rfl⟩
  ·obtain⟨ao,rv,pl,_⟩:=I.list hs;obtain⟨o,e,c,n,d⟩:=pl.isList;have e2:=nB rv;subst e2;exact abQ p (.inl rfl) e c d (λh1 k1=>by simpa using hq h1 s.toks bs (X6 _) k1) (by rw[Wb,V6];exact G8)
  ·obtain⟨ao,rv,pl,_⟩:=I.tuple hs;obtain⟨o,e,c,n,d⟩:=pl;have e2:=nB rv;subst e2;exact abQ p (.inr rfl) e c d (λh1 k1=>by simpa using hq h1 s.toks bs (X6 _) k1) (by rw[Wb,V6];exact G8)
  ·obtain⟨lo,ds,rd,n,at_⟩:=I.rawD hs;refine xH (A:=X.A.in1) (P8 lo) (I.ok.hd hc) rd (by rw[n];rw[V6] at G8;exact G8) λh1 tk cg k1 ia=>?_;have e:cg.toList=(es.map (·.2.1)).map Value.ref:=by
    apply aar;intro i;rw[WX,WG,Wu];by_cases hi:i<cg.size
    ·rw[getElem?_pos cg i hi];obtain⟨en,e1,e2⟩:=ia.2 i _ (getElem?_pos cg i hi);have Lm:i<ds.size:=by rw[←ia.1];exact hi
     rw[getElem?_pos ds i Lm] at e1;cases e1;obtain⟨x,m,ek,_⟩:=at_ i Lm;rw[m,e2,ek];rfl
    ·rw[getElem?_neg cg i hi,Zs (by rw[←n,←ia.1];lia)];rfl
   rw[e];exact hq h1 tk _ (X6 _) k1
 exact xJ I hz hu tu col q
end L2
namespace Hc.Dw
theorem vB:typeLookup (.type "list") "keys"=pure none:=by rw[typeLookup_type,builtinLookup_eq_fast];kernel_rfl
section
variable {w:Xt}{A:W2}{o:Obj}
theorem vC {g:Array GenState}{d:Drawn}{t:Nat}{os:OsState}{tk:Tok}{xs:Array Wd}{Q:Fin->Wr->Prop}(hx:h.get? a=some {cls:=.type "list",data:=.seq xs n})(hh:A.handled=none)(hE:∀h' t' e,Heap.NewAttrErr h h' e (.ref a) "keys"->E (.ref e) ⟨h',g,d,t',os⟩):Wv (WI prog w) A (Builtin.«object.__getattribute__» ⟨[.ref a,.str "keys" tk],[]⟩) Q E ⟨h,g,d,t,os⟩:=by
 have ty:(⟨h,g,d,t,os⟩:Wr).TypeIs (.ref a) "list":=⟨_,hx,rfl⟩;have f4:=vB
 repeat (any_goals (first|assumption|wp_step))
 exact wpAny_raiseAttrError hh hE
theorem Na {xs:Array Wd}{Q:Option Wd->Wr->Prop}(hx:s.heap.get? a=some {cls:=.type "list",data:=.seq xs n})(hh:A.handled=none)(q:∀h' tk,(∀b o,s.heap.get? b=some o->h'.get? b=some o)->Q none {s with heap:=h',toks:=tk}):Wv (WI prog w) A (getAttr? (.ref a) "keys") Q E s:=by
 obtain⟨hp,g,d,tk,os⟩:=s;have hT:∀NY,(⟨hp,g,d,NY,os⟩:Wr).TypeIs (.ref a) "list":=λ_=>⟨_,hx,rfl⟩;have f1:=sub_AttributeError;have f3:=F.slot_list_getattribute.lookup;have f4:=F.slot_list_getattribute.bind (.ref a);have f5:=am_list_getattr_none;unfold getAttr? getAttrBy? getAttrBy
 repeat (any_goals (first|assumption|exact hT _|((with_reducible show Wv _ _ (call (Value.builtin "list.__getattribute__") _ _) _ _ _);fail)|wp_step))
 refine aaR F.slot_list_getattribute.plain am_entry_list_getattribute (F.slot_list_getattribute.check _ _ _ _ _ _ _ _ (hT _) (F.args_list_getattribute_2 _ _) (vC hx hh λh' t' e ne=>?_));obtain⟨t2,u2,he⟩:=ne.there;change Wv _ _ (getattributeRaised _ _ _ _ _ _ _) _ _ _;unfold getattributeRaised
 repeat (any_goals (first|assumption|wp_step))
 exact q _ _ ne.keeps
end
end Hc.Dw
namespace Hc.Dw
section
open PySem.W PyProof.Rows L2
theorem kg:entryFor table "dict.update.loop"=some Builtin.«dict.update.loop»:=entryFor_of_fast (by kernel_rfl)
theorem eY:plainId "dict.update.loop"=true:=by decide+kernel
theorem TK.keep' {k:List U}(x:TK h k b)(kp:∀c ao,h.IsTuple c ao->h'.IsTuple c ao):TK h' k b:=by
 obtain⟨l,ao,t,z⟩:=x;exact⟨l,ao,kp _ _ t,z.keep kp⟩
noncomputable def ef (xs:List (List U×Ww×Wd))(ao:List (List U×Ww×Wd)):List (List U×Ww×Wd):=ao.foldl (λxs e=>storedH xs e.1 e.2.1 e.2.2) xs
theorem xK {xs:List (List U×Ww×Wd)}{k:List U}{v:Wd}:(storedH xs k b v).length<=xs.length+1:=by
 unfold storedH;split
 ·rw[V6];lia
 ·rw[V9,Xu];exact Wf _
variable {w:Xt}{A:W2}{d l:Ww}
def zB (h:Y5)(v:Wd)(e:List U×Ww×Wd):Prop:=∃T,v=.ref T/\h.IsTuple T (List.toArray [.ref e.2.1,e.2.2])/\TK h e.1 e.2.1
theorem FO {c:Ww}{ao:Array Wd}{o:Obj}(t:h.IsTuple c ao)(q:h.get? b=some o)(n:o.cls≠.type "tuple"):c≠b:=λe=>by
 subst e;obtain⟨o',q',z,_⟩:=t;rw[q] at q';cases q';exact n z
theorem lZ {es:List (List U×Ww×Wd)}(hi:i<es.length):ef [] (es.take (i+1))=storedH (ef [] (es.take i)) es[i].1 es[i].2.1 es[i].2.2:=by
 unfold ef;rw[XD hi,abU];rfl
theorem IS {h0:Y5}{vs:List Wd}{es:List (List U×Ww×Wd)}{R:Result->Wr->Prop}(hh:A.handled=none)(hu:A.units+40<XG)(hl:h0.IsList l vs.toArray)(hp:∀(i:Nat) v,vs[i]? = some v->∃e,es[i]? = some e/\zB h0 v e)(n:vs.length=es.length)(hz:es.length<=1000000)
  (nt:∀b ao,h0.IsTuple b ao->b≠d/\b≠it) (nl:l≠d/\l≠it) (nd:d≠it) :
  ∀(m i:Nat) (s:Wr),es.length-i=m->i<=es.length->s.heap.IsListIter it l i->s.heap.DictOfH (ff prog w) d (ef [] (es.take i))->(∀b o,b≠d->b≠it->h0.get? b=some o->s.heap.get? b=some o)->(ef [] (es.take i)).length<=i->
   (∀h' tk,h'.DictOfH (ff prog w) d (ef [] es)->(∀b o,b≠d->b≠it->h0.get? b=some o->h'.get? b=some o)->R (.ok (.ret .none)) {s with heap:=h',toks:=tk})->
   abD (WI prog w) A (.builtin "dict.update.loop" ⟨[.ref d,.ref it,aag i,.none],[]⟩) R s:=by
 intro m
 induction m with
 |zero=>
  intro i s hm hi st dd kp Vr hR;have e:i=es.length:=(by lia)
  subst e;rw[YK] at dd;have Ln:s.heap.IsList l vs.toArray:=by obtain⟨o,q,r⟩:=hl;exact⟨o,kp l o nl.1 nl.2 q,r⟩
  refine Y2 kg ?_;rw[Yw eY _];change Wv _ A.in1 (aaN (.ref it) >>= _) _ _ s;refine V3 (wpAny_pyNext_list_end hh st Ln (by simp;lia) λh' eb=>?_);change Wv _ A.in1 (Builtin.Dict.addKeywords d [] >>= λ_=>ret .none) _ _ _;refine V3 (V8 (V8 ?_));refine hR h' s.toks ?_ λb o b1 b2 z=>eb b o b2 (kp b o b1 b2 z);obtain⟨o,ds,ep,q1,q2,q3,q4,q5,q6⟩:=dd;obtain⟨oi,i1,i2,_⟩:=id st;refine⟨o,ds,ep,eb d o nd q1,q2,q3,q4,λx hx=>TK.keep' (q5 x hx) λc ao tc=>?_,q6⟩;have GP:=FO tc i1 (by rw[i2];decide);obtain⟨oc,z1,z2⟩:=tc;exact⟨oc,eb c oc GP z1,z2⟩
 |succ m ih=>
  intro i s hm hi st dd kp Vr hR;have lt:i<es.length:=(by lia)
  have Ln:s.heap.IsList l vs.toArray:=by obtain⟨o,q,r⟩:=hl;exact⟨o,kp l o nl.1 nl.2 q,r⟩
  have hv:i<vs.length:=(by lia)
  obtain⟨e,he,T,ev,tT,tk⟩:=hp i vs[i] (V4 hv);rw[V4 lt] at he;injection he with he
  have kT:∀b ao,h0.IsTuple b ao->s.heap.IsTuple b ao:=λb ao h00=>by
   obtain⟨o,q,r⟩:=h00;obtain⟨b1,b2⟩:=nt b ao ⟨o,q,r⟩;exact⟨o,kp b o b1 b2 q,r⟩
  refine Y2 kg ?_;rw[Yw eY _];change Wv _ A.in1 (aaN (.ref it) >>= _) _ _ s;refine V3 (wpAny_pyNext_list_item st Ln (x:=vs[i]) (by simp[hv]) λh1 zZ Tp=>?_);obtain⟨oi,i1,i2,_⟩:=id st;have k1:∀b ao,s.heap.IsTuple b ao->h1.IsTuple b ao:=λb ao tb=>by
   have GP:=FO tb i1 (by rw[i2];decide);obtain⟨oc,z1,z2⟩:=tb;exact⟨oc,Tp.extBut b oc GP z1,z2⟩
  have Vs:h1.DictOfH (ff prog w) d (ef [] (es.take i)):=by
   obtain⟨o,ds,ep,q1,q2,q3,q4,q5,q6⟩:=dd;exact⟨o,ds,ep,Tp.extBut d o nd q1,q2,q3,q4,λx hx=>TK.keep' (q5 x hx) k1,q6⟩
  rw[ev];have Vt:h1.IsTuple T (List.toArray [.ref e.2.1,e.2.2]):=k1 _ _ (kT _ _ tT);obtain⟨oT,g1,g2,nT,g3⟩:=id Vt;refine V3 (Xp (V3 (wpAny_tryCatch ?_)));unfold Builtin.Dict.pairItems;refine V3 (aaB (T:="tuple") ⟨_,g1,g2⟩ ?_);rw[hZ (by decide)];refine V3 (Yk g1 g3 (V8 ?_));change Wv _ A.in1 (holding [.ref e.2.1,e.2.2] (dictSet d (.ref e.2.1) e.2.2)) _ _ _;refine Xp (wpAny_dictSet_heap (knd:=ff prog w) (by show A.units+1+20<XG;lia) (TK.keep' tk λb ao z=>k1 b ao (kT b ao z)) Vs (λh2 OA Uo=>?_) (by rw[Yg];lia));refine V8 ⟨plainId_quiet eY _,?_⟩;have e1:((i:Int)+1)=((i+1:Nat):Int):=(by lia)
  change abD _ A (.builtin "dict.update.loop" ⟨[.ref d,.ref it,aag ((i:Int)+1),.none],[]⟩) _ _;rw[e1];refine ih (i+1) _ (by lia) (by lia) ?_ ?_ (λb o b1 b2 z=>?_) ?_ λh' NY q1 q2=>hR h' NY q1 q2
  ·obtain⟨o1,s1,s2⟩:=zZ;exact⟨o1,Uo.extBut it o1 nd.symm s1,s2⟩
  ·rw[lZ lt,he];exact OA
  ·exact Uo.extBut b o b1 (Tp.extBut b o b2 (kp b o b1 b2 z))
  ·rw[lZ lt];exact WD xK (by lia)
end
end Hc.Dw
namespace Hc.Dw
open PySem.W L2
section
variable {w:Xt}{A:W2}{l:Ww}
theorem CS {vs:List Wd}{n0:Nat}{es:List (List U×Ww×Wd)}(hh:A.handled=none)(hu:A.units+64<XG)(hl:s.heap.get? l=some {cls:=.type "list",data:=.seq vs.toArray n0})(hp:∀(i:Nat) v,vs[i]? = some v->∃e,es[i]? = some e/\zB s.heap v e)(n:vs.length=es.length)(hz:es.length<=1000000)(q:∀h' tk,h'.DictOfH (ff prog w) s.heap.objs.size (ef [] es)->(∀b o,s.heap.get? b=some o->h'.get? b=some o)->Q (.ref s.heap.objs.size) {s with heap:=h',toks:=tk}) :
  Wv (WI prog w) A (call (.type "dict") [.ref l]) Q E s:=by
 refine callType_codes (Q₁:=λobj s₁=>obj=.ref s.heap.objs.size/\s₁={s with heap:=s.heap.push {cls:=.type "dict",data:=.dict (List.toArray [])}}) F.kt_called_dict (F.kt_typeCall_dict_1 _) PySem.F.entry_dict_init (kt_code_dict_new _ ⟨rfl,rfl⟩) ?_;rintro obj s₁ ⟨rfl,rfl⟩;have od:(s.heap.push {cls:=.type "dict",data:=.dict (List.toArray [])}).get? s.heap.objs.size=some {cls:=.type "dict",data:=.dict (List.toArray [])}:=Wj _ rfl;have ty:(⟨s.heap.push {cls:=.type "dict",data:=.dict (List.toArray [])},s.gens,s.drawn,s.toks,s.os⟩:Wr).TypeIs (.ref s.heap.objs.size) "dict":=⟨_,od,rfl⟩;have ol:(s.heap.push {cls:=.type "dict",data:=.dict (List.toArray [])}).get? l=some {cls:=.type "list",data:=.seq vs.toArray n0}:=V7 _ hl;refine⟨ty,PySem.F.args_dict_init_2 _ _,?_⟩;unfold Builtin.«dict.__init__»;refine V3 ?_;unfold Builtin.Dict.selfAndRest;refine V3 (aaE ty ?_);change Wv _ _ (pure (s.heap.objs.size,[Value.ref l])) _ _ _;refine V8 ?_;change Wv _ _ (Builtin.Dict.updateFrom "dict.__init__" s.heap.objs.size (.ref l) [] .none) _ _ _;unfold Builtin.Dict.updateFrom;refine V3 (aaB (T:="list") ⟨_,ol,rfl⟩ ?_);rw[hZ (by decide)];refine V3 (Na ol hh λh2 tk k2=>?_);rw[hZ (by rfl)];refine V3 (YI (V3 ?_));have l2:h2.IsList l vs.toArray:=⟨_,k2 _ _ ol,rfl,_,rfl⟩;refine aak l2 ?_;refine V8 ⟨plainId_quiet eY _,?_⟩;have ge:s.heap.objs.size<h2.objs.size:=Wq (k2 _ _ od);have k3:∀b o,s.heap.get? b=some o->(h2.push {cls:=.type "list_iterator",data:=.fields (List.toArray [.ref l,.int 0 0])}).get? b=some o:=λb o z=>V7 _ (k2 b o (V7 _ z));refine IS (A:=A.in1) (h0:=s.heap) hh (by show A.units+1+40<XG;lia) ⟨_,hl,rfl,_,rfl⟩ hp n hz (λb ao t=>?_) ?_ ?_ es.length 0 _ (by lia) (Yi _) ⟨_,Wj _ rfl,rfl,rfl⟩ ?_ (λb o _ _ z=>k3 b o z) (Wf _) λh' NY q1 q2=>?_
 ·obtain⟨o,z,_⟩:=t;have:=Wq z;exact⟨WA this,WA (Nat.lt_trans this ge)⟩
 ·have:=Wq hl;exact⟨WA this,WA (Nat.lt_trans this ge)⟩
 ·exact WA ge
 ·exact⟨_,(List.toArray []),0,V7 _ (k2 _ _ od),⟨rfl,rfl,rfl⟩,rfl,rfl,(λx hx=>by cases hx),YV⟩
 ·refine⟨rfl,q h' NY q1 λb o z=>?_⟩;have:=Wq z;exact q2 b o (WA this) (WA (Nat.lt_trans this ge)) z
end
end Hc.Dw
namespace L2
open Hc.Dw Hc.Ts
noncomputable def ag (ns:List Int):U:=.tup (ns.map .int)
noncomputable def IT:U->Option (List Int)
 | .tup xs=>match fL xs with
  |some (n::ns)=>some (n::ns)
  |_=>none
 |_=>none
noncomputable def rj:List U->Option (List (List Int))
 | []=>some []
 |u::us=>match IT u,rj us with
  |some ns,some pf=>some (ns::pf)
  |_,_=>none
noncomputable def CT (x:List Int):List (List Int)->List (List Int)
 | []=>[x]
 |y::r=>if gr y x=true then y::CT x r else x::y::r
noncomputable def l0 (l:List (List Int)):List (List Int):=l.foldr CT []
theorem nC (x:List Int):∀l,(CT x l).Perm (x::l)
 | []=>.refl _
 |y::r=>by
  unfold CT;split
  ·exact ((nC x r).cons y).trans (.swap x y r)
  ·exact .refl _
theorem gu:∀l,(l0 l).Perm l
 | []=>.refl _
 |x::l=>(nC x _).trans ((gu l).cons x)
def Qa (l:List (List Int)):Prop:=l.Pairwise λx y=>gr y x=false
theorem Be (x:List Int):∀{l},Qa l->Qa (CT x l)
 | [],_=>aab _ _
 |y::r,h=>by
  obtain⟨h1,h2⟩:=X9.mp h;unfold CT;split
  ·rename_i c;refine X9.mpr ⟨λz hz=>?_,Be x h2⟩;rcases Wn.mp ((nC x r).mem_iff.mp hz) with rfl|hz
   ·exact KeyOrd.klt_asymm (O:=IM) c
   ·exact h1 z hz
  ·rename_i c;have c:gr y x=false:=by simpa using c
   refine X9.mpr ⟨λz hz=>?_,h⟩;rcases Wn.mp hz with rfl|hz
   ·exact c
   ·exact W0 (O:=IM) (a:=x) (b:=y) (c:=z) c (h1 z hz)
theorem l4:∀l,Qa (l0 l)
 | []=>List.Pairwise.nil
 |x::l=>Be x (l4 l)
theorem vD:∀{l m:List (List Int)},l.Perm m->Qa l->Qa m->l=m
 | [],m,p,_,_=>(List.nil_perm.mp p).symm
 |x::l,[],p,_,_=>absurd p.length_eq (by simp)
 |x::l,y::m,p,h1,h2=>by
  obtain⟨a1,a2⟩:=X9.mp h1;obtain⟨b1,b2⟩:=X9.mp h2;have e:x=y:=by
   have hx:x∈y::m:=p.mem_iff.mp Wi;have hy:y∈x::l:=p.mem_iff.mpr Wi;rcases Wn.mp hx with rfl|hx
   ·rfl
   ·rcases Wn.mp hy with rfl|hy
    ·rfl
    ·exact kH x y (b1 x hx) (a1 y hy)
  subst e;rw[vD (p.cons_inv) a2 b2]
theorem IU (h:IT u=some ns):u=ag ns/\ns≠[]:=by
 unfold IT at h;split at h
 ·split at h
  ·rename_i xs n r e;cases h;rw[lF e];exact⟨rfl,by simp⟩
  ·cases h
 ·cases h
theorem l5:∀{us:List U} {pf:List (List Int)},rj us=some pf->us=pf.map ag/\∀ns∈pf,ns≠[]
 | [],_,h=>by cases h;exact⟨rfl,λns hn=>by cases hn⟩
 |u::us,pf,h=>by
  unfold rj at h;split at h
  ·rename_i ns r e1 e2;cases h;obtain⟨e3,n3⟩:=IU e1;obtain⟨e4,n4⟩:=l5 e2;refine⟨by rw[V_,←e3,←e4],λz hz=>?_⟩;rcases Wn.mp hz with rfl|hz
   ·exact n3
   ·exact n4 z hz
  ·cases h
theorem Nb (h:Rp K H A (ag ns) v):∃b,v=.ref b/\H b=some (.tup (ns.map V.int))/\ns.length<=Wa:=by
 unfold ag Rp at h;obtain⟨b,ys,e,q,l,r⟩:=h;rw[r.toI] at q;exact⟨b,e,q,by simpa using l⟩
theorem Nc (q:H b=some (.tup (ns.map V.int)))(l:ns.length<=Wa):Rp K H A (ag ns) (.ref b):=by
 unfold ag Rp;exact⟨b,_,rfl,q,by simpa using l,lG ns⟩
theorem Bf (q:H b=some (.tup (ns.map V.int))):iw H b=ns:=by unfold iw;rw[q];exact xI ns
theorem l6:∀{pf:List (List Int)} {xs:List V},aA K H A (pf.map ag) xs->∃bs:List Ww,xs=bs.map V.ref/\bs.map (iw H)=pf/\∀b∈bs,H b=some (.tup ((iw H b).map V.int))/\(iw H b).length<=Wa
 | [],xs,h=>by rw[Ym] at h;unfold aA at h;subst h;exact⟨[],rfl,rfl,λb hb=>by cases hb⟩
 |ns::pf,xs,h=>by
  rw[V_] at h;unfold aA at h;obtain⟨x,r,rfl,h1,h2⟩:=h;obtain⟨b,rfl,q,l⟩:=Nb h1;obtain⟨bs,rfl,e,z⟩:=l6 h2;refine⟨b::bs,rfl,by rw[V_,e,Bf q],λc hc=>?_⟩;rcases Wn.mp hc with rfl|hc
  ·rw[Bf q];exact⟨q,l⟩
  ·exact z c hc
theorem FP {bs:List Ww}(h:∀b∈bs,H b=some (.tup ((iw H b).map V.int))/\(iw H b).length<=Wa):aA K H A ((bs.map (iw H)).map ag) (bs.map V.ref):=by
 induction bs with
 |nil=>exact aA.nil
 |cons b bs ih=>exact aA.cons (Nc (h b Wi).1 (h b Wi).2) (ih λc hc=>h c (Wh _ hc))
noncomputable def iV (us:List U):R U:=match rj us with
 |some pf=>if pf.length<=1000000 then .ok (.lst ((l0 pf).map ag)) else .stk
 |none=>.stk
noncomputable def zC:List U->R U:=λus=>match us with
 | [.lst xs]=>iV xs
 | [.tup xs]=>iV xs
 | [.dct ks _]=>if ug ks=true then iV ks else .stk
 |_=>.stk
def vE (K:Wc):List V->Hp->VK->Prop:=λxs H Q=>∃(p:Ww) (bs:List Ww),xs=[.ref p]/\M_ K H p bs/\bs.length<=1000000/\(∀b∈bs,∃ns:List Int,H b=some (.tup (ns.map V.int))/\ns≠[])/\
  ∀(l:Ww) (nP:List Ww),H l=none->nP.Perm bs->nP.Pairwise (λx y=>gr (iw H y) (iw H x)=false)->Q (.ref l) (bL H l (.lst (nP.map V.ref)))
theorem CU:j6 K (vE K) .O zC:=λA H vs us z Q h mu e q=>by
 have fin:∀(xs:List U) (p:Ww) (bs:List Ww),iV xs=.ok z->aA K H A xs (bs.map V.ref)->M_ K H p bs->vE K [.ref p] H Q:=by
  intro xs p bs e r QI;unfold iV at e;split at e
  ·rename_i pf e1;split at e
   ·rename_i hz;cases e;obtain⟨e2,ne⟩:=l5 e1;subst e2;obtain⟨oM,e3,e4,e5⟩:=l6 r;have e6:bs=oM:=by
     have:Function.Injective V.ref:=λa b h=>by cases h;rfl
     exact (List.map_inj_right λ_ _ h=>by cases h;rfl).mp e3
    subst e6;have n1:bs.length=pf.length:=by rw[←e4,V6]
    refine⟨p,bs,rfl,QI,(by lia),λb hb=>⟨_,(e5 b hb).1,ne _ (by rw[←e4];exact W8 hb)⟩,λl nP hn hp hw=>?_⟩;have e7:nP.map (iw H)=l0 pf:=vD ((hp.map (iw H)).trans (by rw[e4];exact (gu pf).symm)) (abT.mpr hw) (l4 pf);refine q _ _ (bD hn _) ⟨l,rfl,hn,?_⟩;rw[←e7];refine bI mu (FP λb hb=>e5 b (hp.mem_iff.mp hb)) hn ?_;have:Wa=16777216:=rfl;rw[V6,V6,hp.length_eq];lia
   ·cases e
  ·cases e
 unfold zC at e;split at e
 ·obtain⟨v,rfl,p⟩:=h.one;unfold Pk at p;obtain⟨a,ys,rfl,h1,l1,r1⟩:=p;have e':=e;unfold iV at e';split at e'
  ·rename_i pf e1;have r2:=r1;rw[(l5 e1).1] at r2;obtain⟨bs,rfl,_⟩:=l6 r2;exact fin _ a bs e r1 (.inl (eF.of h1))
  ·cases e'
 ·obtain⟨v,rfl,p⟩:=h.one;unfold Pk at p;obtain⟨a,ys,rfl,h1,l1,r1⟩:=p;have e':=e;unfold iV at e';split at e'
  ·rename_i pf e1;have r2:=r1;rw[(l5 e1).1] at r2;obtain⟨bs,rfl,_⟩:=l6 r2;exact fin _ a bs e r1 (.inr (.inl (eZ.of h1)))
  ·cases e'
 ·rename_i ks ws;split at e
  ·rename_i c;obtain⟨v,rfl,p⟩:=h.one;unfold Pk at p;obtain⟨a,ys,rfl,h1,l1,r1⟩:=p;obtain⟨es,ep,q1,kt,e1,e2⟩:=qU c h1;refine fin ks a (es.map (·.2.1)) e ?_ (.inr (.inr ⟨ep,es,q1,rfl⟩));subst e1;clear e fin e2 r1 h1 c q1 h
   induction es with
   |nil=>exact aA.nil
   |cons x es ih=>exact aA.cons (FC (kt x Wi)) (ih λy hy=>kt y (Wh _ hy))
  ·cases e
 ·cases e
def FQ (K:Wc):List V->Hp->VK->Prop:=λxs H Q=>∃(p:Ww) (ns:List Int),xs=[.ref p]/\(eF K H p (ns.map V.int)\/eZ K H p (ns.map V.int))/\ns.length<64/\
  ∀(l:Ww) (uG:List Int),H l=none->uG.Perm ns->uG.Pairwise (·<=·)->Q (.ref l) (bL H l (.lst (uG.map V.int)))
noncomputable def iy:List U->R U:=λus=>match yY us with
 | .ok z=>.ok z
 |_=>zC us
theorem rk:j6 K (λxs H Q=>FQ K xs H Q\/vE K xs H Q) .O iy:=λA H vs us z Q h mu e q=>by
 unfold iy at e;split at e
 ·rename_i z' e1;cases e;exact .inl (Cd A H vs us _ Q h mu e1 q)
 ·exact .inr (CU A H vs us z Q h mu e q)
theorem nD (hc:X.calm=true)(hu:X.A.units+64<XG):cU X (.builtin "sorted") (λxs H Q=>FQ X.K xs H Q\/vE X.K xs H Q):=by
 intro pins s σ H xs us Q I r h;rcases h with h|h
 ·exact uT pins s σ H xs us Q I r h
 ·exact vA hc hu pins s σ H xs us Q I r h
end L2
namespace L2
open Hc.Dw Hc.Ts
def VW (l a:Ww)(h:Y5):Prop:=h.IsValuesView l a
section
variable {e:X4}{tl:TE}{cR cpos p1:Pos}{b1:Bool}{m1:Md}{g1:Ev->R (U×Ev)}
def Qb (tl:TE):TE:=λσ H Q=>tl σ H λx H1=>∃a ep es,x=.ref a/\H1 a=some (DN a ep es)/\∀l,H1 l=none->Q (.ref l) (bL H1 l (.ext (VW l a)))
theorem ur (hl:PE X e tl)(m:M0 X e "values" cR cpos):PE X (.Call (.Attribute e "values" cR) [] [] cpos) (Qb tl):=by
 intro pins s σ H Q I h;refine wpAny_Call_method m.base m.few m.line PySem.F.plainAttrs_dict abV PySem.F.type_dict_values (cS (hl pins s σ H _ I h) λv s1 ⟨x,H1,I1,r1,a,ep,es,ex,hq,q⟩=>?_);subst ex;cases r1;obtain⟨t1,t2⟩:=MR I1 hq;refine⟨t1,t2,?_⟩;rw[m.trees];obtain⟨lo,ds,rd,n,_⟩:=I1.rawD hq;refine Zb rfl (PyProof.Rows.evalArgs_none ?_);refine Xe abV t1 PySem.F.entry_dict_values (P0 lo rd λh1 vw k1=>?_) (PySem.F.args_dict_values_1 _);exact⟨.ref s1.heap.objs.size,_,I1.laid (a:=s1.heap.objs.size) (o:=.ext (VW s1.heap.objs.size a)) (t':=s1.toks) k1 (Wf _) ⟨vw,by obtain⟨o,z,_⟩:=vw;exact⟨o,z⟩,λg1 g2 x kp=>by obtain⟨o,z,r⟩:=x;exact⟨o,kp _ z,r⟩⟩,rfl,q _ (I1.hok.fresh (Wf _))⟩
end
end L2
namespace L2
open Hc.Dw Hc.Ts
noncomputable def kI:Int->List Int->Int
 |m,[]=>m
 |m,n::ns=>kI (if m<n then n else m) ns
theorem xM (ns:List Int)(n0:Int):∀j,j<=ns.length->(n0::ns).getD (argBest (λi j=>decide ((n0::ns).getD i 0>(n0::ns).getD j 0)) j) 0=kI n0 (ns.take j)
 |0,_=>by simp[argBest,kI]
 |j+1,h=>by
  have ih:=xM ns n0 j (by lia);have hj:j<ns.length:=(by lia)
  have app:∀(l:List Int) (m x:Int),kI m (l++[x])=if kI m l<x then x else kI m l:=by
   intro l
   induction l with
   |nil=>intro m x;rfl
   |cons y l ih=>intro m x;exact ih _ x
  rw[XD hj,app,←ih];have g:(n0::ns).getD (j+1) 0=ns[j]:=by simp[List.getD,V4 hj]
  rw[argBest];by_cases c:(n0::ns).getD (argBest (λi j=>decide ((n0::ns).getD i 0>(n0::ns).getD j 0)) j) 0<ns[j]
  ·rw[hZ c,hZ (by rw[g];exact hG c),g]
  ·rw[hV c,hV (by rw[g,decide_eq_true_eq];exact c)]
end L2
namespace L2
def Nf (K:Wc)(f:Bool->Bool):R2:=λx y H Q=>∃p xs ds dx,y=.ref p/\(eF K H p xs\/eZ K H p xs)/\aQ K H dx x/\eG K H ds xs/\(∀d∈ds,cF d<=30)/\Q (.bl (f (ds.any λd=>fV d dx))) H
open Classical in
noncomputable def jc (ao:List Wd)(ds:List D)(dx:D)(u:Wd):Bool:=decide (∃(i:Nat) (d:D),ao[i]? = some u/\ds[i]? = some d/\fV d dx=true)
open Classical in
theorem pK {ds:List D}{dx:D}{u:Wd}:jc ao ds dx u=true↔∃(i:Nat) (d:D),ao[i]? = some u/\ds[i]? = some d/\fV d dx=true:=by
 unfold jc;exact decide_eq_true_iff
theorem pL {ds:List D}{dx:D}(hl:ao.length=ds.length):ao.any (jc ao ds dx)=ds.any λd=>fV d dx:=by
 rw[Xl,aaK,aaK];constructor
 ·rintro⟨u,_,h⟩;obtain⟨i,d,_,h2,h3⟩:=pK.mp h;exact⟨d,Xq h2,h3⟩
 ·rintro⟨d,hd,h⟩;obtain⟨i,hi,e⟩:=Yx.mp hd;have QP:i<ao.length:=(by lia)
  exact⟨ao[i],WU QP,pK.mpr ⟨i,d,V4 QP,by rw[V4 hi,e],h⟩⟩
theorem l7 (I:av X pins σ H s){A:W2}(hA:A.units+30<XG){x:V}{v:Wd}{dx:D}(rx:aM x v)(hx:aQ X.K H dx x){ds:List D}(rv:aP xs ao)(hs:eG X.K H ds xs)(hd:∀d∈ds,cF d<=30) :
  ∀u∈ao,YJ A s u v (jc ao ds dx u):=λu hu=>by
 have l1:=rv.length;have l2:=hs.length;have at_:∀(i:Nat) (d:D),ao[i]? = some u->ds[i]? = some d->YJ A s u v (fV d dx):=λi d h1 h2=>by
  have hi:i<ao.length:=(We.mp h1).1;have h3:xs[i]? = some (xs[i]'(by lia)):=V4 _;obtain⟨u',g1,g2⟩:=rv.get h3;rw[h1] at g1;cases g1;exact p_ I 30 d dx _ x u v A (hd d (Xq h2)) hA (hs.get h2 h3) hx g2 rx
 by_cases c:∃(i:Nat) (d:D),ao[i]? = some u/\ds[i]? = some d/\fV d dx=true
 ·obtain⟨i,d,h1,h2,h3⟩:=c;have e:jc ao ds dx u=true:=pK.mpr ⟨i,d,h1,h2,h3⟩;rw[e,←h3];exact at_ i d h1 h2
 ·have e:jc ao ds dx u=false:=Zz.mpr λz=>c (pK.mp z);obtain⟨i,hi,eu⟩:=Yx.mp hu;have h1:ao[i]? = some u:=by rw[V4 hi,eu]
  have h2:ds[i]? = some (ds[i]'(by lia)):=V4 _;have e2:fV (ds[i]'(by lia)) dx=false:=by
   cases z:fV (ds[i]'(by lia)) dx with
   |false=>rfl
   |true=>exact absurd ⟨i,_,h1,h2,z⟩ c
  rw[e,←e2];exact at_ i _ h1 h2
theorem SA (hu:X.A.units+64<XG):i9 X (XN .In) (Nf X.K id):=by
 intro pins s σ H x y v u Q I rx ry h;obtain⟨p,xs,ds,dx,rfl,hq,hx,hs,hd,q⟩:=h;cases ry;rcases hq with hq|hq
 ·obtain⟨ao,r,pl,hz⟩:=I.list hq;refine SeqAt.in_listAt (jc ao ds dx) pl.isList (λw hw=>l7 I (by show X.A.units+1+30<XG;lia) rx hx r hs hd w (by simpa using hw)) ⟨.bl _,H,I,rfl,?_⟩;rw[show ao.toArray.any (jc ao ds dx)=ao.any (jc ao ds dx) by simp,pL (by rw[←r.length,←hs.length])];exact q
 ·obtain⟨ao,r,pl,hz⟩:=I.tuple hq;refine SeqAt.in_tupleAt (jc ao ds dx) pl (λw hw=>l7 I (by show X.A.units+1+30<XG;lia) rx hx r hs hd w (by simpa using hw)) ⟨.bl _,H,I,rfl,?_⟩;rw[show ao.toArray.any (jc ao ds dx)=ao.any (jc ao ds dx) by simp,pL (by rw[←r.length,←hs.length])];exact q
theorem CV (hu:X.A.units+64<XG):i9 X (XN .NotIn) (Nf X.K not):=by
 intro pins s σ H x y v u Q I rx ry h;obtain⟨p,xs,ds,dx,rfl,hq,hx,hs,hd,q⟩:=h;cases ry;rcases hq with hq|hq
 ·obtain⟨ao,r,pl,hz⟩:=I.list hq;refine SeqAt.notIn_listAt (jc ao ds dx) pl.isList (λw hw=>l7 I (by show X.A.units+1+30<XG;lia) rx hx r hs hd w (by simpa using hw)) ⟨.bl _,H,I,rfl,?_⟩;rw[show ao.toArray.any (jc ao ds dx)=ao.any (jc ao ds dx) by simp,pL (by rw[←r.length,←hs.length])];exact q
 ·obtain⟨ao,r,pl,hz⟩:=I.tuple hq;refine SeqAt.notIn_tupleAt (jc ao ds dx) pl (λw hw=>l7 I (by show X.A.units+1+30<XG;lia) rx hx r hs hd w (by simpa using hw)) ⟨.bl _,H,I,rfl,?_⟩;rw[show ao.toArray.any (jc ao ds dx)=ao.any (jc ao ds dx) by simp,pL (by rw[←r.length,←hs.length])];exact q
noncomputable def FR:U->Option (List U)
 | .lst us=>some us
 | .tup us=>some us
 |_=>none
noncomputable def Oo (f:Bool->Bool):U->U->R U:=λu w=>match ja u,(FR w).bind fE with
 |some dx,some ds=>if (ds.all λd=>decide (cF d<=30))=true then .ok (.bl (f (ds.any λd=>fV d dx))) else .stk
 |_,_=>.stk
theorem Ng {f:Bool->Bool}:fg K (Nf K f) .S (Oo f):=λA H x y u w z Q hx hy mu e q=>by
 unfold Oo at e;split at e
 ·rename_i dx ds h1 h2;split at e
  ·rename_i hd;cases e;cases w with
   |lst us=>
    unfold Pk at hy;obtain⟨a,xs,rfl,h3,l1,r1⟩:=hy;exact⟨a,xs,ds,dx,rfl,.inl (eF.of h3),u6 hx h1,jS r1 h2,λd m=>of_decide_eq_true (WT.mp hd d m),q _ H (aG.refl _) (show Rp K H A _ _ from fK)⟩
   |tup us=>
    unfold Pk at hy;obtain⟨a,xs,rfl,h3,l1,r1⟩:=hy;exact⟨a,xs,ds,dx,rfl,.inr (eZ.of h3),u6 hx h1,jS r1 h2,λd m=>of_decide_eq_true (WT.mp hd d m),q _ H (aG.refl _) (show Rp K H A _ _ from fK)⟩
   |_=>cases h2
  ·cases e
 ·cases e
end L2
namespace L2
open Hc.Dw Hc.Ts
noncomputable def eh (es fs:List (List U×Ww×V)):List (List U×Ww×V):=fs.foldl (λes e=>gd es e.1 e.2.1 e.2.2) es
theorem uu:∀{fs:List (List U×Ww×V)} {ys:List (List U×Ww×Wd)} {es:List (List U×Ww×V)} {xs:List (List U×Ww×Wd)},ZI Eb fs ys->ZI Eb es xs->ZI Eb (eh es fs) (ef xs ys)
 |_,_,es,xs,.nil,p=>p
 |f::fs,y::ys,es,xs,.cons r t,p=>by
  unfold eh ef;rw[Ya,Ya];have:=qi f.1 (b:=f.2.1) r.2.2 p;have e1:=r.1;have e2:=r.2.1;rw[show storedH xs f.1 f.2.1 y.2.2=storedH xs y.1 y.2.1 y.2.2 by rw[e1,e2]] at this;exact uu t this
def FT (H:Hp)(z:V)(e:List U×Ww×V):Prop:=∃T,z=.ref T/\H T=some (.tup [.ref e.2.1,e.2.2])/\oS H e.1 e.2.1
def FU:List V->Hp->VK->Prop:=λxs H Q=>∃(p:Ww) (zs:List V) (es:List (List U×Ww×V)),xs=[.ref p]/\H p=some (.lst zs)/\zs.length<=1000000/\ZI (FT H) zs es/\∀l ep,H l=none->Q (.ref l) (bL H l (DN l ep (eh [] es)))
theorem xN {pins:List (Ww×Obj)}{σ:St}{H:Hp}{s:Wr}(I:av X pins σ H s):∀{zs:List V} {es:List (List U×Ww×V)} {ao:List Wd},ZI (FT H) zs es->aP zs ao->∃xs,ZI Eb es xs/\ao.length=xs.length/\∀(i:Nat) v,ao[i]? = some v->∃e,xs[i]? = some e/\zB s.heap v e
 |_,_,_,.nil,.nil=>⟨[],.nil,rfl,λi v h=>by simp at h⟩
 |z::zs,e::es,v::ao,.cons r t,.cons rv tv=>by
  obtain⟨xs,p,n,at_⟩:=xN I t tv;obtain⟨T,rfl,hT,kt⟩:=r;cases rv;obtain⟨_,ts,rt,it,_⟩:=I.hok T _ hT;cases rt with
  |cons r1 rr=>
   cases rr with
   | @cons _ w _ _ r2 rr2=>
    cases rr2;cases r1;refine⟨(e.1,e.2.1,w)::xs,.cons ⟨rfl,rfl,r2⟩ p,by rw[Wl,Wl,n],λi v h=>?_⟩;cases i with
    |zero=>
     simp at h;subst h;exact⟨(e.1,e.2.1,w),by simp,T,rfl,it,kt.tk I.hok⟩
    |succ i=>
     obtain⟨e',h1,h2⟩:=at_ i v (by simpa using h);exact⟨e',by simpa using h1,h2⟩
theorem zD (hc:X.calm=true)(hu:X.A.units+64<XG):cU X (.type "dict") FU:=by
 intro pins s σ H xs us Q I r h;obtain⟨p,zs,es,rfl,hp,hz,pr,q⟩:=h;obtain⟨u,rfl,rx⟩:=gT r;cases rx;obtain⟨_,ao,n0,rv,n1,e⟩:=I.lstM hp;obtain⟨ys,p1,n2,at_⟩:=xN I pr rv;refine CS (I.ok.hd hc) hu e at_ n2 (by lia) λh' tk dd kp=>?_;have rel:ZI Eb (eh [] es) (ef [] ys):=uu p1 .nil;obtain⟨o,ds,ep,q1,q2,q3,q4,q5,q6⟩:=dd;have ns:(s.heap.objs.size==XM)=false:=beq_eq_false_iff_ne.mpr (ZW I.big);exact⟨.ref s.heap.objs.size,_,I.laid (a:=s.heap.objs.size) (o:=DN s.heap.objs.size ep (eh [] es)) (t':=tk) kp (Wf _) ⟨⟨ns,o,ds,_,q1,q2,q3,rel,q4⟩,⟨o,q1⟩,λg1 g2 ⟨l,o,ds,xs,z1,z2⟩ kp=>⟨l,o,ds,xs,kp _ z1,z2⟩⟩,rfl,q _ ep (I.hok.fresh (Wf _))⟩
noncomputable def sQ:List U->List U->List U->Option (List U×List U)
 |ks,us,[]=>some (ks,us)
 |ks,us,.tup [k,v]::ps=>if xh k=true then sQ (fM ks k) (ed ks us k v) ps else none
 |_,_,_=>none
noncomputable def rn:List U->R U:=λus=>match us with
 | [.lst ps]=>if ps.isEmpty=false/\ps.length<=1000000 then (match sQ [] [] ps with
  |some (ks,us)=>.ok (.dct ks us)
  |none=>.stk) else .stk
 |_=>.stk
theorem FV {H:Hp}{A:Ww->Prop}:∀{ps:List U} {ks us ks' Lg:List U} {zs:List V} {fs:List (List U×Ww×V)},sQ ks us ps=some (ks',Lg)->aA K H A ps zs->ks=fs.map (λp=>.tup p.1)->aA K H A us (fs.map (·.2.2))->(fs.map (·.1)).Nodup->(∀e∈fs,oS H e.1 e.2.1)->
  ∃es,ZI (FT H) zs es/\ks'=(eh fs es).map (λp=>.tup p.1)/\aA K H A Lg ((eh fs es).map (·.2.2))/\((eh fs es).map (·.1)).Nodup/\(∀e∈eh fs es,oS H e.1 e.2.1)/\es.length=ps.length/\(eh fs es).length<=fs.length+es.length
 | [],ks,us,ks',Lg,zs,fs,h,r,ek,ru,nd,kt=>by
  unfold sQ at h;cases h;unfold aA at r;subst r;exact⟨[],.nil,ek,ru,nd,kt,rfl,Wf _⟩
 |p::ps,ks,us,ks',Lg,zs,fs,h,r,ek,ru,nd,kt=>by
  unfold sQ at h;split at h
  ·rename_i Tq;cases Tq
  ·rename_i k v V2 Tq;cases Tq;split at h
   ·rename_i c;unfold aA at r;obtain⟨z,zr,rfl,r1,r2⟩:=r;unfold Rp at r1;obtain⟨T,ys,rfl,hT,cv,rr⟩:=r1;clear cv;unfold aA at rr;obtain⟨x1,xr,rfl,k1,rr⟩:=rr;unfold aA at rr;obtain⟨x2,xr2,rfl,v1,rr⟩:=rr;unfold aA at rr;subst rr;cases k<;>first|(cases c;done)|skip
    rename_i kk;obtain⟨b,rfl,ktb⟩:=tX c k1;have OB:=tY (k:=kk) (b:=b) fs x2;rw[←ek] at OB;have fN:=tZ (k:=kk) (b:=b) v1 ru;rw[←ek] at fN;obtain⟨es,a1,a2,a3,a4,a5,a6,a7⟩:=FV h r2 OB.symm fN (Ay nd) (xi kt ktb);have pl:(gd fs kk b x2).length<=fs.length+1:=by
     unfold gd;split
     ·rw[V6];lia
     ·rw[V9,Xu];exact Wf _
    refine⟨(kk,b,x2)::es,.cons ⟨T,rfl,hT,ktb⟩ a1,a2,a3,a4,a5,by rw[Wl,Wl,a6],?_⟩;show (eh (gd fs kk b x2) es).length<=_;rw[Wl];lia
   ·cases h
  ·cases h
theorem uv:∀{es fs:List (List U×Ww×V)},(es≠[]\/fs≠[])->eh es fs≠[]
 |es,[],h=>by rcases h with h|h;exact h;exact absurd rfl h
 |es,f::fs,_=>uv (es:=gd es f.1 f.2.1 f.2.2) (fs:=fs) (.inl Az)
theorem CW:j6 K FU .O rn:=λA H vs us z Q h mu e q=>by
 unfold rn at e;split at e
 ·rename_i ps;split at e
  ·rename_i c;split at e
   ·rename_i ks Lg e1;cases e;obtain⟨v,rfl,p⟩:=h.one;unfold Pk at p;obtain⟨a,zs,rfl,h1,l1,r1⟩:=p;obtain⟨es,a1,a2,a3,a4,a5,a6,a7⟩:=FV (fs:=[]) e1 r1 rfl aA.nil YV (λe he=>by cases he);have ne:es≠[]:=λz=>by
     rw[z] at a6;have:=WM a6.symm;rw[this] at c;cases c.1
    have nz:zs.length<=1000000:=by rw[←r1.length];exact c.2
    refine⟨a,zs,es,rfl,h1,nz,a1,λl ep hn=>?_⟩;have sm:=bD hn (DN l ep (eh [] es));refine q _ _ sm ⟨l,rfl,hn,?_⟩;refine⟨_,.inr ⟨eh [] es,uv (.inr ne),⟨.inl ⟨ep,aH⟩,a4,λe he=>(a5 e he).to λb ys w=>sm b _ w⟩,a2,rfl⟩,?_,a3.re mu (dI.same sm) λb z=>?_⟩
    ·have n1:=a3.length;rw[V6] at n1;have:Wa=16777216:=rfl;have:es.length<=1000000:=by rw[a6];exact c.2
     simp only[Z9,Zm] at a7;lia
    ·rcases z with z|z
     ·exact .inl z
     ·subst z;exact .inr hn
   ·cases e
  ·cases e
 ·cases e
end L2
namespace L2
open Hc.Dw Hc.Ts
noncomputable def Nh:U->U->R Bool
 | .int a,.int b=>.ok (a==b)
 | .bl a,.bl b=>.ok (a==b)
 | .str a,.str b=>.ok (a==b)
 |_,_=>.stk
noncomputable def iz (f:Bool->Bool):U->U->R U:=λu w=>(Nh u w).bind λb=>.ok (.bl (f b))
theorem jV:fg K Tx .S (iz id):=λA H x y u w z Q hx hy mu e q=>by
 unfold iz at e;obtain⟨b,e1,e2⟩:=R.bind_ok e;unfold Nh at e1;split at e1
 ·cases e1;cases e2;rw[hx.int,hy.int];refine⟨rfl,?_⟩;rw[pj];exact q _ H (aG.refl _) (show Rp K H A _ _ from fK)
 ·cases e1;cases e2;rw[hx.bl,hy.bl];refine⟨rfl,?_⟩;rw[uM];exact q _ H (aG.refl _) (show Rp K H A _ _ from fK)
 ·cases e1;cases e2;rw[hx.str,hy.str];refine⟨rfl,?_⟩;rw[pq];exact q _ H (aG.refl _) (show Rp K H A _ _ from fK)
 ·cases e1
theorem jW:fg K Tz .S (iz not):=λA H x y u w z Q hx hy mu e q=>by
 unfold iz at e;obtain⟨b,e1,e2⟩:=R.bind_ok e;unfold Nh at e1;split at e1
 ·cases e1;cases e2;rw[hx.int,hy.int];refine⟨rfl,?_⟩;rw[pj];exact q _ H (aG.refl _) (show Rp K H A _ _ from fK)
 ·cases e1;cases e2;rw[hx.bl,hy.bl];refine⟨rfl,?_⟩;rw[uM];exact q _ H (aG.refl _) (show Rp K H A _ _ from fK)
 ·cases e1;cases e2;rw[hx.str,hy.str];refine⟨rfl,?_⟩;rw[pq];exact q _ H (aG.refl _) (show Rp K H A _ _ from fK)
 ·cases e1
end L2
namespace L2
open PySem.W Hc.Dw
def FW:List V->Hp->VK->Prop:=λxs H Q=>∃p ep es,xs=[.ref p]/\H p=some (DN p ep es)/\es.length<=Wa/\∀l,H l=none->Q (.ref l) (bL H l (.lst (es.map λe=>V.ref e.2.1)))
theorem Bg:∀(es:List (List U×Ww×V)),aP (es.map λe=>V.ref e.2.1) ((es.map (·.2.1)).map Value.ref)
 | []=>.nil
 |_::es=>.cons rfl (Bg es)
theorem zE (hc:X.calm=true):cU X (.type "list") FW:=by
 intro pins s σ H xs us Q I r h;obtain⟨p,ep,es,rfl,hs,hz,q⟩:=h;obtain⟨u,rfl,rx⟩:=gT r;cases rx;obtain⟨lo,ds,rd,n,at_⟩:=I.rawD hs;refine kdl_call (A:=X.A) (P8 lo) (I.ok.hd hc) rd (by rw[n];exact hz) λh1 tk cg c k1 e1 ia=>?_;have e:cg.toList=(es.map (·.2.1)).map Value.ref:=by
  apply aar;intro i;rw[WX,WG,Wu];by_cases hi:i<cg.size
  ·rw[getElem?_pos cg i hi];obtain⟨en,e1,e2⟩:=ia.2 i _ (getElem?_pos cg i hi);have Lm:i<ds.size:=by rw[←ia.1];exact hi
   rw[getElem?_pos ds i Lm] at e1;cases e1;obtain⟨x,m,ek,_⟩:=at_ i Lm;rw[m,e2,ek];rfl
  ·rw[Zd (by lia)];have:es[i]? = none:=Zs (by rw[←n,←ia.1];lia);rw[this];rfl
 have e3:cg=((es.map (·.2.1)).map Value.ref).toArray:=by rw[←e]
 rw[e3] at e1;exact⟨.ref s.heap.objs.size,_,I.laid (t':=tk) k1 (Wf _) (show bh X.prog X.w _ h1 _ (.lst (es.map λe=>V.ref e.2.1)) from ⟨by rw[V6];exact hz,_,c,Bg es,e1⟩),rfl,q _ (I.hok.fresh (Wf _))⟩
noncomputable def rq:List U->R U:=λus=>match us with
 | [.dct ks _]=>if ug ks=true then .ok (.lst ks) else .stk
 |_=>.stk
theorem xO {K:Wc}{H:Hp}{A:Ww->Prop}:∀{es:List (List U×Ww×V)},(∀e∈es,oS H e.1 e.2.1)->aA K H A (es.map λp=>.tup p.1) (es.map λe=>V.ref e.2.1)
 | [],_=>aA.nil
 |e::es,h=>aA.cons (FC (h e Wi)) (xO λx hx=>h x (Wh _ hx))
theorem CY:j6 K FW .O rq:=λA H vs us z Q h mu e q=>by
 unfold rq at e;split at e
 ·rename_i ks ws;split at e
  ·rename_i wk;cases e;obtain⟨v,rfl,p⟩:=h.one;unfold Pk at p;obtain⟨a,xs,rfl,d,l,r⟩:=p;obtain⟨es,ep,h1,kt,rfl,rfl⟩:=qU wk d;have le:es.length<=Wa:=by have:=r.length;rw[V6] at this;lia
   exact⟨a,ep,es,rfl,h1,le,λl hl=>q _ _ (bD hl _) ⟨l,rfl,hl,bI mu (xO kt) hl (by rw[V6];exact le)⟩⟩
  ·cases e
 ·cases e
theorem rA {w:Xt}{A:W2}{k v:X4}(h:Wv (WI prog w) A (YX k env) (λkv s1=>Wv (WI prog w) A (YX v env) (λvv s2=>Wv (WI prog w) A (dictSet s.heap.objs.size kv vv) (λ_ s3=>Q (.ref s.heap.objs.size) s3) E s2) E s1) E {s with heap:=s.heap.push {cls:=.type "dict",data:=.dict (List.toArray [])}}) :
  Wv (WI prog w) A (YX (.Dict [some k] [v] pos) env) Q E s:=by
 rw[arm_eval_Dict,zip_pairTrees [some k] [v] env pos rfl rfl,dictDisplay_pairs (pairTrees [some k] [v] env pos) (by simp[pairTrees]) (by simp[pairTrees])];refine V3 (aaS (V3 ?_));unfold subDict;refine V3 (wpAny_alloc ?_);refine V3 (Xp ?_);rw[hZ (by simp[pairTrees])];refine V3 (pairTrees_cons_walk (Xg h (λkv s1 h1=>Xg h1 (λvv s2 h2=>pairTrees_nil_walk ?_) λ_ _ e=>e) λ_ _ e=>e));refine Xp ?_;rw[aaa];refine V3 (V3 (V3 (Xg h2 (λ_ s3 h3=>V8 ?_) λ_ _ e=>e)));show Wv _ _ (forIn [] _ _) _ _ _;rw[List.forIn_nil];exact V8 (V8 (V8 (V8 h3)))
def Ni (tk tv:TE):TE:=λσ H Q=>∀p,H p=none->tk σ (bL H p (.dK [])) λx H1=>tv σ H1 λy H2=>∃kk b,x=.ref b/\H2 p=some (.dK [])/\oS H2 kk b/\∀ep,Q (.ref p) (bL H2 p (DN p ep (gd [] kk b y)))
theorem FY {k v:X4}{tk tv:TE}(hu:X.A.units+64<XG)(hk:PE X k tk)(hv:PE X v tv):PE X (.Dict [some k] [v] pos) (Ni tk tv):=by
 intro pins s σ H Q I q;have hn:=I.hok.fresh (Wf s.heap.objs.size);have I1:=I.laid (a:=s.heap.objs.size) (o:=.dK []) (h':=s.heap.push {cls:=.type "dict",data:=.dict (List.toArray [])}) (t':=s.toks) (λ_ _ q=>V7 _ q) (Wf _) (wD s.heap I.big);refine rA (cS (hk pins _ σ _ _ I1 (q _ hn)) λu s1 ⟨x,H1,I1,rx,q1⟩=>cS (hv pins s1 σ H1 _ I1 q1) λw2 s2 ⟨y,H2,I2,ry,q2⟩=>?_);obtain⟨kk,b,rfl,e,kb,q2⟩:=q2;cases rx;have g:gc H2 s.heap.objs.size []:=⟨.inr ⟨rfl,e⟩,YV,λe he=>by cases he⟩;obtain⟨xs,rel,dd⟩:=g.of I2.hok;refine wpAny_dictSet_heap (hsz:=by rw[←Zv rel];exact Yi _) (show X.A.units+20<XG by lia) (kb.tk I2.hok) dd λh' Lc hs=>?_;obtain⟨q,ds,ep,hq,h2,h3,h4,_,h5⟩:=Lc;refine⟨.ref s.heap.objs.size,_,?_,rfl,q2 ep⟩;exact pz I2 g.mut hs ⟨q,hq⟩ ⟨⟨g.lo I2.hok,q,ds,_,hq,h2,h3,qi kk ry rel,h4⟩,⟨q,hq⟩,λg1 g2 ⟨l,o,ds,xs,z1,z2⟩ kp=>⟨l,o,ds,xs,kp _ z1,z2⟩⟩
end L2
namespace L2
open Hc.Dw Hc.Ts
noncomputable def l8:Int->List Int->Int
 |m,[]=>m
 |m,n::ns=>l8 (if n<m then n else m) ns
theorem vF:∀(ns:List Int) (m:Int),l8 m ns<=m/\(∀a∈ns,l8 m ns<=a)/\(l8 m ns=m\/l8 m ns∈ns)
 | [],m=>⟨aa_ _,(λa h=>by cases h),.inl rfl⟩
 |n::ns,m=>by
  obtain⟨h1,h2,h3⟩:=vF ns (if n<m then n else m);unfold l8;by_cases c:n<m
  ·rw[hZ c] at h1 h2 h3 ⊢;refine⟨(by lia),λa ha=>?_,.inr ?_⟩
   ·rcases Wn.mp ha with rfl|ha
    ·exact h1
    ·exact h2 a ha
   ·rcases h3 with h3|h3
    ·rw[h3];exact Wi
    ·exact Wh _ h3
  ·rw[hV c] at h1 h2 h3 ⊢;refine⟨h1,λa ha=>?_,h3.imp id λz=>Wh _ z⟩;rcases Wn.mp ha with rfl|ha
   ·lia
   ·exact h2 a ha
end L2
section
set_option maxHeartbeats 400000
namespace L2
open PySem PySem.Spec PyProof.Rows PySem.W
noncomputable abbrev Gm.w (G:Gm)(W:Hp->Prop):Gm:=⟨G.own,G.io,W⟩
section
variable {w:Xt}{K:Frag}{bC:Wd}{A:W2}{outer:List Env}{s0:Wr}{H0:Hp}{E:XK}
variable {np cpos:Pos}{e0:X4}{t:TA}{m:Md}{c:String}
theorem FZ (hx:mg x=some (.ref C))(hq:excIn K C AF "ValueError.__new__"=true)(hh:A.handled=none)
  (ha:PA (gP (CB P w C) P w K mg base N qual scope f bC A outer s0 H0 E) [e0] t) (ht:∀σ H (Q:List V->Hp->Prop),(∀xs H',xs.length<=Wa->aG H H'->Q xs H')->t σ H Q) (hW:∀H',G.W H'->E (.ref C) none H')
  (hg:Gl (gP (CB P w C) P w K mg base N qual scope f bC A outer s0 H0 E) x:=by rfl) (hd:(x==("__debug__":Str))=false:=by decide)
  (he:Wm [e0] (Yq qual scope s0.heap.objs.size f bC)=(false,YX e0 (Yq qual scope s0.heap.objs.size f bC))::Wm [] (Yq qual scope s0.heap.objs.size f bC):=by rfl) :
  DS (gP (CB P w C) P w K mg base N qual scope f bC A outer s0 H0 E) G m (.Raise (some (.Call (.Name x np) [e0] [] cpos)) none pos) (λ_=>.exc c .non):=
 ⟨(EE hx hq hh ha hg hd he).to λD σ H ⟨Z,A',ρ,q,f⟩=>ht σ H _ λxs H' l sm=>⟨l,hW _ (f H' λa o h=>sm a o (q.bas a o h))⟩⟩
end
section
variable {w:Xt}{K:Frag}
theorem Df.fnX (G:Gm)(m:Md)(s:Ev->SR)(d:Df K mg x st)(S:aR N ps (aj st))(hb:∀(kV jF pm:Wd) (an:Option Ww) (bC ct:Wd) (us:List Wd),us.length=ps.length->bindArgs (XH x x (dE st) (bH st) (aj st) .none kV jF pm an bC ct) ⟨us,[]⟩=pure (ps.zip us))(BH:G.io=false)(jG:∀i,i<ps.length->G.is i=false)(eB:∀(f:Ww) (bC:Wd) (A:W2) (outer:List Env) (s0:Wr) (H:Hp) (E:XK),dw k (A.deeper (Yq x (aj st) s0.heap.objs.size f bC))->
   tQ (gP (CB P w C) P w K mg base N x (aj st) f bC A outer s0 H E) (G.w λH'=>E (.ref C) none H') m (bH st) s) :
  ∃(f:Ww) (fd:Zu),mg x=some (.ref f)/\XR K (.ref f)=true/\jm K fd ps []/\iI P w K mg base (CB P w C) (k+1) f fd ps (TJ K ps.length C λus=>∃c u,fi m N.length s us=.exc c u):=by
 obtain⟨f,fd,mm,F⟩:=d.ex;refine⟨f,fd,mm,F.kp,F.binds hb,?_⟩;obtain⟨oc,od,kV,jF,pm,an,bC,ct,osl,rfl,lk,iF⟩:=F.ex;refine JL (k:=k) (N:=N) lk iF S (λvs H Q E ⟨us,A,r,_,l,_⟩=>by rw[←r.length];exact l) λA outer s1 H vs Q E hr ⟨us,A0,r,mu,l,⟨c,u,hx⟩,hE⟩=>⟨_,(eB f bC A outer s1 H E hr).un,?_⟩;refine⟨⟨A0,H,0⟩,A0,_,CI (G:=G.w λH'=>E (.ref C) none H') (N:=N) r mu BH (λi hi=>jG i (by rw[←l];exact hi)),?_⟩;unfold fi at hx;cases e:s (bJ N.length us) with
 |exc=>exact λH' hb=>hE H' hb
 |nx=>rw[e] at hx;dsimp only at hx;split at hx<;>cases hx
 |rt=>rw[e] at hx;cases hx
 |bk=>rw[e] at hx;cases hx
 |ct=>rw[e] at hx;cases hx
 |stk=>rw[e] at hx;cases hx
end
noncomputable def Oq (g1 g2:Ev->SR):Ev->SR:=λρ=>match g1 ρ with
 | .stk=>g2 ρ
 |r=>r
section
variable {m:Md}{JF:List aaX}{g1 g2:Ev->SR}
theorem Nj (h1:tQ X G m JF g1)(h2:tQ X G m JF g2):tQ X G m JF (Oq g1 g2):=⟨λpins s σ H D I h00=>by
 obtain⟨Z,A,ρ,q,f⟩:=h00;unfold Oq at f;cases e:g1 ρ with
 |stk=>rw[e] at f;exact h2.un pins s σ H D I ⟨Z,A,ρ,q,f⟩
 |nx=>rw[e] at f;exact h1.un pins s σ H D I ⟨Z,A,ρ,q,by rw[e];exact f⟩
 |rt=>rw[e] at f;exact h1.un pins s σ H D I ⟨Z,A,ρ,q,by rw[e];exact f⟩
 |bk=>rw[e] at f;exact h1.un pins s σ H D I ⟨Z,A,ρ,q,by rw[e];exact f⟩
 |ct=>rw[e] at f;exact h1.un pins s σ H D I ⟨Z,A,ρ,q,by rw[e];exact f⟩
 |exc=>rw[e] at f;exact h1.un pins s σ H D I ⟨Z,A,ρ,q,by rw[e];exact f⟩⟩
end
end L2
end
namespace L2
open PySem.W Hc.Dw
noncomputable def xP (mn:Bool)(n0:Int)(ns:List Int):Int:=if mn then l8 n0 ns else kI n0 ns
def F0 (mn:Bool):List V->Hp->VK->Prop:=λxs H Q=>∃l a ep es n0 ns,xs=[.ref l]/\H l=some (.ext (VW l a))/\H a=some (DN a ep es)/\es.map (·.2.2)=(n0::ns).map V.int/\Q (.int (xP mn n0 ns)) H
theorem F3 (ns:List Int)(n0:Int):(n0::ns).getD (argBest (λi j=>decide ((n0::ns).getD i 0<(n0::ns).getD j 0)) ns.length) 0=l8 n0 ns:=by
 obtain⟨b1,b2⟩:=argBest_lt (λi=>(n0::ns).getD i 0) ns.length;generalize hk:argBest (λi j=>decide ((n0::ns).getD i 0<(n0::ns).getD j 0)) ns.length=k at b1 b2;have OB:k<(n0::ns).length:=by rw[Wl];lia
 obtain⟨m1,m2,m3⟩:=vF ns n0;have get:∀a∈n0::ns,(n0::ns).getD k 0<=a:=λa ha=>by
  obtain⟨j,hj⟩:=List.getElem?_of_mem ha;have Vu:=(We.mp hj).1;rw[Wl] at Vu;have:=b2 j (by lia);have e:(n0::ns).getD j 0=a:=by rw[WW,hj];rfl
  rw[e] at this;exact this
 have mem:(n0::ns).getD k 0∈n0::ns:=by
  rw[WW,V4 OB];exact WU OB
 have g1:(n0::ns).getD k 0<=l8 n0 ns:=by
  rcases m3 with m3|m3
  ·rw[m3];exact get _ Wi
  ·exact get _ (Wh _ m3)
 have g2:l8 n0 ns<=(n0::ns).getD k 0:=by
  rcases Wn.mp mem with e|e
  ·rw[e];exact m1
  ·exact m2 _ e
 lia
theorem rB (mn:Bool)(hc:X.calm=true):cU X (.builtin (if mn then "min" else "max")) (F0 mn):=by
 intro pins s σ H xs us Q I r h;obtain⟨l,a,ep,es,n0,ns,rfl,hl,ha,ev,q⟩:=h;obtain⟨u,rfl,rx⟩:=gT r;cases rx;obtain⟨vw,_,_⟩:=I.hok l _ hl;obtain⟨lo,ds,rd,n,at_⟩:=I.rawD ha;have vw:s.heap.IsValuesView l a:=vw;have nn:es.length=ns.length+1:=by have:=congrArg aan ev;simpa using this
 have lt:a<s.heap.objs.size:=rd.lt;have fp:∀b∈[s.heap.objs.size,a],b<(s.heap.push {cls:=.type "dict_valueiterator",data:=.fields (List.toArray [.ref a,.int 0 0,.int ds.size 0,.int ep 0])}).objs.size:=by
  intro b hb;rw[YT];simp only[Wn,aaM,or_false] at hb;rcases hb with rfl|rfl
  ·exact Nat.lt_succ_self _
  ·exact aaq lt
 have hv:∀(i:Nat) (v:Wd),(∃e,ds[i]? = some e/\v=e.val)->∃t,v=.int ((n0::ns).getD i 0) t:=by
  rintro i v ⟨e,e1,rfl⟩;have hi:i<ds.size:=by
   rcases aaH i ds.size with z|z
   ·exact z
   ·rw[Zd z] at e1;cases e1
  rw[getElem?_pos ds i hi] at e1;cases e1;obtain⟨x,m,_,rv⟩:=at_ i hi;have e2:(es.map (·.2.2))[i]? = some x.2.2:=by rw[Wu,m];rfl
  rw[ev,Wu] at e2;have QP:i<(n0::ns).length:=by rw[Wl];lia
  rw[V4 QP] at e2;injection e2 with e2
  rw[←e2] at rv;obtain⟨t,et⟩:=rv;exact⟨t,by rw[et];simp[List.getD,V4 QP]⟩
 have Up:ds.size-1=ns.length:=(by lia)
 have fin:∀(bt:Nat->Nat->Bool) (v:Wd) (h':Y5) (tk:Nat),(n0::ns).getD (argBest bt (ds.size-1)) 0=xP mn n0 ns->(∃e,ds[argBest bt (ds.size-1)]? = some e/\v=e.val)->(∀b o,b∉[s.heap.objs.size]->(s.heap.push {cls:=.type "dict_valueiterator",data:=.fields (List.toArray [.ref a,.int 0 0,.int ds.size 0,.int ep 0])}).get? b=some o->h'.get? b=some o)->EP X pins σ Q v {s with heap:=h',toks:=tk}:=λbt v h' tk e hP hk=>by
  obtain⟨t,rfl⟩:=hv _ v hP;rw[e];exact⟨.int _,H,I.kept (t':=tk) λb o z=>hk b o (by rw[WK];exact WA (Wq z)) (V7 _ z),⟨t,rfl⟩,q⟩
 cases mn with
 |true=>
  refine call_min_walk (KQ vw rd ⟨s.heap.objs.size,[s.heap.objs.size,a],[s.heap.objs.size],ds.size,_,_,λi j=>decide ((n0::ns).getD i 0<(n0::ns).getD j 0),rfl,FN (I.ok.hd hc) (WA lt),⟨⟨_,Wj _ rfl,rfl,rfl⟩,rd.at λo z=>V7 _ z⟩,fp,(by lia),CmpOf.ints_lt (λi=>(n0::ns).getD i 0) hv,λv h' tk hP hk=>fin _ v h' tk ?_ hP hk⟩);rw[Up];exact F3 ns n0
 |false=>
  refine call_max_walk (KQ vw rd ⟨s.heap.objs.size,[s.heap.objs.size,a],[s.heap.objs.size],ds.size,_,_,λi j=>decide ((n0::ns).getD i 0>(n0::ns).getD j 0),rfl,FN (I.ok.hd hc) (WA lt),⟨⟨_,Wj _ rfl,rfl,rfl⟩,rd.at λo z=>V7 _ z⟩,fp,(by lia),CmpOf.ints_gt (λi=>(n0::ns).getD i 0) hv,λv h' tk hP hk=>fin _ v h' tk ?_ hP hk⟩);rw[Up,xM ns n0 _ (Wf _),YK];rfl
end L2
namespace L2
open PySem.W Hc.Dw
noncomputable def iW (mn:Bool)(g:Ev->R (U×Ev)):Ev->R (U×Ev):=λρ=>(g ρ).bind λx=>match x.1 with
 | .dct ks us=>if ug ks=true then (match fL us with
  |some (n::ns)=>.ok (.int (xP mn n ns),x.2)
  |_=>.stk) else .stk
 |_=>.stk
section
variable {e:X4}{b1:Bool}{m1:Md}{g1:Ev->R (U×Ev)}{p1 cR cpos:Pos}
theorem uw {mn:Bool}{Q:VK}(z:tD X.K G b1 .S (iW mn g1) σ H Q):tD X.K G b1 m1 g1 σ H λv H1=>∃a ep es,v=.ref a/\H1 a=some (DN a ep es)/\∀l,H1 l=none->F0 mn [.ref l] (bL H1 l (.ext (VW l a))) Q:=by
 obtain⟨Z,A,ρ,q,f⟩:=z;refine⟨Z,A,ρ,q,?_⟩;unfold iW at f;cases e1:g1 ρ with
 |stk=>rw[e1] at f;exact f.elim
 |exc=>rw[e1] at f;exact f.elim
 |ok y=>
  obtain⟨u,ρ1⟩:=y;rw[e1] at f;intro v H1 q1 x1 s1 vm;cases u with
  |dct ks us=>
   dsimp only[L2.R.bind] at f;by_cases c:ug ks=true
   ·rw[hZ c] at f;cases e2:fL us with
    |none=>rw[e2] at f;exact f.elim
    |some ns=>
     rw[e2] at f;cases ns with
     |nil=>exact f.elim
     |cons n0 ns=>
      dsimp only at f;have pk:=vm.pk;unfold Pk at pk;obtain⟨a,xs,rfl,d,l,r⟩:=pk;obtain⟨es,ep,hq,kt,e3,e4⟩:=qU c d;rw[lF e2] at r;have r2:=r.toI;rw[e4] at r2;refine⟨a,ep,es,rfl,hq,λl hn=>?_⟩;have ne:a≠l:=λz=>by rw[←z,hq] at hn;cases hn
      have sm:=bD hn (.ext (VW l a));exact⟨l,a,ep,es,n0,ns,rfl,aH,by rw[aF ne];exact hq,r2,f _ _ (q1.same sm) (x1.trans (dI.same sm)) (oU s1 sm) (show Rp X.K _ A _ _ from dJ)⟩
   ·rw[hV c] at f;exact f.elim
  |_=>exact f.elim
theorem IV (hc:X.calm=true)(h:DE X G e b1 m1 g1)(hm:X.mg "min"=none)(hg:Gl X "min":=by rfl)(m:M0 X e "values" cR cpos:=by exact⟨rfl,rfl,rfl,rfl⟩)
  (N5:Wm [.Call (.Attribute e "values" cR) [] [] cpos] X.env=(false,YX (.Call (.Attribute e "values" cR) [] [] cpos) X.env)::Wm [] X.env:=by rfl) (z0:(Yp pos (Wm [] X.env)).any (·.1)=false:=by rfl) :
  DE X G (.Call (.Name "min" p1) [.Call (.Attribute e "values" cR) [] [] cpos] [] pos) b1 .S (iW true g1):=⟨(f7 (rB true hc) hg hm uS (aO (ur h.un m) cT N5) (by decide) (by decide) N5 z0).to λσ H Q z=>uw (m1:=m1) z⟩
theorem IW (hc:X.calm=true)(h:DE X G e b1 m1 g1)(hm:X.mg "max"=none)(hg:Gl X "max":=by rfl)(m:M0 X e "values" cR cpos:=by exact⟨rfl,rfl,rfl,rfl⟩)
  (N5:Wm [.Call (.Attribute e "values" cR) [] [] cpos] X.env=(false,YX (.Call (.Attribute e "values" cR) [] [] cpos) X.env)::Wm [] X.env:=by rfl) (z0:(Yp pos (Wm [] X.env)).any (·.1)=false:=by rfl) :
  DE X G (.Call (.Name "max" p1) [.Call (.Attribute e "values" cR) [] [] cpos] [] pos) b1 .S (iW false g1):=⟨(f7 (rB false hc) hg hm D5 (aO (ur h.un m) cT N5) (by decide) (by decide) N5 z0).to λσ H Q z=>uw (m1:=m1) z⟩
end
noncomputable def zF (gk:Ev->R (U×Ev)):Ev->R (U×Ev):=λρ=>(gk ρ).bind λx=>match x.1 with
 | .tup ks=>if xh (.tup ks)=true then .ok (.dct [.tup ks] [.bl true],x.2) else .stk
 |_=>.stk
theorem rC {pos k2 p2}{k:X4}{gk:Ev->R (U×Ev)}(hu:X.A.units+64<XG)(hk:DE X G k false .S gk):DE X G (.Dict [some k] [.Constant (.bool true) k2 p2] pos) false .O (zF gk):=⟨(FY hu hk.un z_).to λσ H Q h=>by
 obtain⟨Z,A,ρ,q,f⟩:=h;intro a na;have s1:=bD na (.dK []);refine⟨Z,A,ρ,q.same s1,?_⟩;unfold zF at f;cases e1:gk ρ with
 |stk=>rw[e1] at f;exact f.elim
 |exc=>rw[e1] at f;exact f.elim
 |ok y=>
  obtain⟨u,ρ1⟩:=y;rw[e1] at f;intro v H1 q1 x1 s2 vm;obtain⟨rfl,sm⟩:=s2 rfl;dsimp only[L2.R.bind] at f;split at f
  ·rename_i ks;split at f
   ·rename_i kt;obtain⟨b,rfl,kb⟩:=tX kt vm;have ha:H1 a=some (.dK []):=sm _ _ aH;refine⟨ks,b,rfl,ha,kb,λep=>?_⟩;have sn:aG H (bL H1 a (DN a ep (gd [] ks b (.bl true)))):=λb o e=>by
     have nb:b≠a:=λz=>by rw[z,na] at e;cases e
     rw[aF nb];exact sm _ _ (s1 _ _ e)
    exact f _ _ (q.same sn) (dI.same sn) (λ_=>⟨rfl,sn⟩) (B6.e q sn ⟨a,rfl,na,[.bl true],.inr ⟨[(ks,b,.bl true)],List.cons_ne_nil _ _,⟨.inl ⟨ep,aH⟩,Y0.mpr ⟨aaM,YV⟩,λe he=>by
     rw[WK.mp he];exact kb.to λc ys hc=>by rw[aF (λz=>by rw[z,ha] at hc;cases hc)];exact hc⟩,rfl,rfl⟩,(by have:Wa=16777216:=rfl;rw[this];simp),aA.cons fK aA.nil⟩)
   ·exact f.elim
  ·exact f.elim⟩
end L2
namespace L2
open PySem.W Hc.Dw
theorem zG {w:Xt}(d:Ww)(ds:Array abJ)(ep:Nat)(hd:(d==XM)=false) :
  MeetsIn prog w (Builtin.«dict.__len__» ⟨[.ref d],[]⟩) (λ_ R s=>iu s.heap d ds ep/\R (.ok (.ret (.int ds.size s.toks))) {s with toks:=s.toks+1}):=
 .of_wp λA R s ⟨⟨o,ho,hc,hdat⟩,h⟩=>by
  show Wv _ _ (dictSize d >>= _) _ _ s;unfold dictSize;refine V3 (V3 (YB ho hdat (V8 ?_)));show Wv _ _ (Builtin.Dict.pendingCount d >>= _) _ _ s;refine V3 (wpAny_pendingCount_other hd ?_);refine wpAny_ret_mkInt ?_;rw[aby];exact h
section
variable {w:Xt}{A:W2}
theorem IX {d:Ww}(hd:(d==XM)=false)(hm:iu s.heap d ds ep)(Vv:(ds.size:Int)<2 ^ 63)(h:Q (.int ds.size (s.toks+1)) {s with toks:=s.toks+1+1}):Wv (WI prog w) A (call (.builtin "len") [.ref d]) Q E s:=by
 refine ZK kind_len plain_len entry_len (args_len1 _) ?_;unfold Builtin.«len»;refine V3 (m:=oneArg "len" _) (V8 ?_);refine V3 (m:=callSpecial? (.ref d) (XO "__len__")) (W_ (name:=XO "__len__") hm.ty PySem.F.slot_dict_len
  (call_meetsIn PySem.F.slot_dict_len hm.ty PySem.F.entry_dict_len (PySem.F.args_dict_len_1 _) (zG d ds ep hd) ⟨hm,?_⟩))
 show Wv _ _ _ _ _ {s with toks:=s.toks+1};refine V3 (Xp (V8 ?_));refine V3 (wpAny_letGo ?_);show Wv _ _ (if ((ds.size:Nat):Int)<0 then _ else _) _ _ _;rw[hV (by lia)];show Wv _ _ (if ((ds.size:Nat):Int)≥2 ^ 63 then _ else _) _ _ _;rw[hV (by lia)];exact V3 (wpAny_mkInt (V8 ⟨_,rfl,h⟩))
end
def KZ:List V->Hp->VK->Prop:=λxs H Q=>∃a ep es,xs=[.ref a]/\H a=some (DN a ep es)/\es.length<=Wa/\Q (.int es.length) H
theorem jX:cU X (.builtin "len") KZ:=by
 intro pins s σ H xs us Q I r h;obtain⟨a,ep,es,rfl,ha,hz,q⟩:=h;obtain⟨u,rfl,rx⟩:=gT r;cases rx;obtain⟨lo,ds,rd,n,_⟩:=I.rawD ha;rw[Yg] at hz;refine IX lo rd (by lia) ⟨.int es.length,H,I.kept (t':=s.toks+1+1) λb o e=>e,⟨s.toks+1,by rw[n]⟩,q⟩
noncomputable def l9:List U->R U:=λus=>match us with
 | [.dct ks _]=>if ug ks=true then .ok (.int ks.length) else .stk
 |_=>.stk
theorem l_:j6 K KZ .S l9:=λA H vs us z Q h mu e q=>by
 unfold l9 at e;split at e
 ·rename_i ks ws;split at e
  ·rename_i wk;cases e;obtain⟨v,rfl,p⟩:=h.one;unfold Pk at p;obtain⟨a,xs,rfl,d,l,r⟩:=p;obtain⟨es,ep,h1,kt,rfl,rfl⟩:=qU wk d;have le:es.length<=Wa:=by have:=r.length;rw[V6] at this;lia
   exact⟨a,ep,es,rfl,h1,le,q _ H (aG.refl _) (by rw[V6];exact (show Rp K H A _ _ from dJ))⟩
  ·cases e
 ·cases e
end L2
noncomputable section
namespace Hc
open PySem L2
noncomputable abbrev zH:Gm:=⟨[false,false],false,λ_=>False⟩
noncomputable def kJ:Ev->SR:=(bA (fO gf (ae (j8 (gQ (aa 1)) [none,some 0] (cE 0) d9 (aW n6 (aa 1) (aa 0))) aq)))
noncomputable def gw:List U->R U:=fi .S 2 kJ
noncomputable abbrev Nk:Gm:=⟨[false,false],false,λ_=>False⟩
noncomputable def zI:Ev->SR:=(bA (ip 2 gw (ae (aa 0) (ae (aa 1) aq))))
noncomputable def g8:List U->R U:=fi .S 2 zI
noncomputable abbrev CZ:Gm:=⟨[false,true,false],false,λ_=>False⟩
noncomputable def nE:Ev->SR:=(aD (aX 1 Q0)
 (aD (fD (gQ (aa 0)) (cE 2)
 (iR 1 (aW bV (jx 1 (aa 2) (gC (.int 0))) (gC (.int 1))) (aa 2)))
 (bA (aa 1))))
noncomputable def eR:List U->R U:=fi .O 3 nE
noncomputable abbrev xQ:Gm:=⟨[false,false,false],false,λ_=>False⟩
noncomputable def fR:Ev->SR:=(jt (sO (gB (fO u9 (ae (j8 (IB (aa 1)) [none,some 1,some 2] (cE 0) d9 (aW (xj id) (ip 2 g8 (ae (aa 2) (ae (aa 0) aq))) (aa 1))) aq)))) (bA (gC (.bl false))) bF)
noncomputable def jB:Ev->SR:=(aD (aX 1 (ip 1 eR (ae (aa 0) aq)))
 (aD (jt (gB (aW (iz not) (iW true (aa 1)) (iW false (aa 1)))) (bA (gC (.bl false))) bF)
 (aD (fD (IB (aa 1)) (cE 2)
 fR)
 (bA (gC (.bl true))))))
noncomputable def fo:List U->R U:=fi .S 3 jB
noncomputable abbrev ux:Gm:=⟨[false,false,false,true,false,true,false,false,false],false,λ_=>False⟩
noncomputable def gx:Ev->SR:=(aD (aX 8 (ip 2 g8 (ae (aa 6) (ae (aa 7) aq))))
 (aD (jt (gB (aW (xj not) (aa 8) (aa 3))) (aD (iR 3 (gC (.bl true)) (aa 8))
 (ke (gM "list" 5 lJ (ae (aa 8) aq)))) bF)
 (jt (gB (aW G1 (fO l9 (ae (aa 3) aq)) (gC (.int 120)))) (λ_=>.exc "TooMany" .non) bF)))
noncomputable def eS:Ev->SR:=(fD (gQ (aa 1)) (cE 7)
 gx)
noncomputable def jY:Ev->SR:=(aD (aX 2 (qx (ae (aa 0) aq)))
 (aD (aX 3 (zF (aa 2)))
 (aD (aX 4 (cM (ae (aa 2) aq)))
 (aD (bG (gB (aW G1 (fO lE (ae (aa 4) aq)) (gC (.int 0))))
 (aD (aX 5 (cM aq))
 (aD (fD (gQ (aa 4)) (cE 6)
 eS)
 (lh 4 5))) 1000)
 (bA (fO iy (ae (aa 3) aq)))))))
noncomputable def bR:List U->R U:=fi .O 9 jY
noncomputable abbrev rD:Gm:=⟨[false,false],false,λ_=>False⟩
noncomputable def ej:Ev->SR:=(aD (jt (gB (aW Sa (aa 1) (fO lE (ae (aa 0) aq)))) (bA (aW n6 (aa 0) (aa 1))) bF)
 (bA (gC (.int 0))))
noncomputable def cA:List U->R U:=fi .S 2 ej
noncomputable abbrev vG:Gm:=⟨[false,false,false],false,λ_=>False⟩
noncomputable def fS:Ev->SR:=(aD (aX 2 (ip 2 cA (ae (aa 0) (ae (aa 1) aq))))
 (aD (jt (gB (aW Sb (aa 2) (aW Ic (gC (.int 10)) (gC (.int 18))))) (bA (cM (ae (aW H_ (aa 2) (aW Ic (gC (.int 10)) (gC (.int 18)))) (ae (gC (.bl true)) aq)))) bF)
 (bA (cM (ae (aW oV (aa 2) (gC (.int 2147483647))) (ae (gC (.bl false)) aq))))))
noncomputable def cJ:List U->R U:=fi .O 3 fS
noncomputable abbrev xR:Gm:=⟨[true,false,false,false],true,λ_=>False⟩
noncomputable def gX:Ev->SR:=(aD (jt (gB (aW n6 (aa 0) (gC (.int 1)))) (aD (aX 2 (aW oV (aW n6 (aa 0) (gC (.int 0))) (aa 1)))
 (aD (tU 0 (aW nZ (aW n6 (aa 0) (gC (.int 0))) (aa 1)) (gC (.int 0)))
 (bA (aa 2)))) bF)
 (aD (tU 0 (aW oV (aW bV (aW lC (aW n6 (aa 0) (gC (.int 0))) (gC (.int 48271))) (gC (.int 29))) (gC (.int 2147483647))) (gC (.int 0)))
 (aD (aX 3 (aW oV (aW bV (aW bV (aW lC (aW n6 (aa 0) (gC (.int 0))) (aW n6 (aa 0) (gC (.int 0)))) (aW lC (gC (.int 39373)) (aW n6 (aa 0) (gC (.int 0))))) (gC (.int 7))) (gC (.int 2147483629))))
 (aD (aX 3 (aW oV (aW bV (aW lC (aa 3) (aa 3)) (aW lC (gC (.int 16807)) (aa 3))) (gC (.int 2147483587))))
 (bA (aW oV (aW nZ (aa 3) (gC (.int 8))) (aa 1)))))))
noncomputable def az:List U->R (U×U):=yU 4 gX
noncomputable abbrev iX:Gm:=⟨[true,false,true],true,λ_=>False⟩
noncomputable def iY:Ev->SR:=(aD (aX 2 (Au (ae (aa 1) aq)))
 (bA (fO gf (ae (uZ iX (fh (ae (aa 1) aq)) [none,some 2,some 0] (cE 0) d9 (gM "list" 1 nh (ae (jQ 2 2 az (ae (fO lE (ae (aa 1) aq)) aq)) aq))) aq))))
noncomputable def aV:List U->R (U×U):=yU 3 iY
noncomputable abbrev gy:Gm:=⟨[true,false,false,false,false,false,false,false,false,true],true,λ_=>False⟩
noncomputable def bS:Ev->SR:=(aD (aX 2 (qx (ae (aa 1) aq)))
 (aD (aX 3 (jQ 2 0 az (ae (gC (.int 6)) aq)))
 (aD (jt (gB (aW (iz id) (aa 3) (gC (.int 0)))) (bA (fO gf (ae (j8 (fh (ae (aa 1) aq)) [none,some 2] (cE 0) d9 (aW bV (j7 jg (aa 1) (bE (aa 0)) bN) (j7 jg (aa 1) bN (bE (aa 0))))) aq))) bF)
 (aD (jt (gB (aW (iz id) (aa 3) (gC (.int 1)))) (aD (aX 4 (jQ 2 0 aV (ae (aa 1) aq)))
 (bA (i7 (ae (aa 2) (ae (aa 4) aq))))) bF)
 (aD (jt (gB (aW (iz id) (aa 3) (gC (.int 2)))) (aD (aX 5 (aW nZ (aa 1) (gC (.int 2))))
 (bA (i7 (ae (aa 2) (ae (aW bV (aW bV (j7 jg (aa 2) (bE (aa 5)) (bE (aW lC (gC (.int 2)) (aa 5)))) (j7 jg (aa 2) bN (bE (aa 5)))) (j7 jg (aa 2) (bE (aW lC (gC (.int 2)) (aa 5))) bN)) aq))))) bF)
 (aD (jt (gB (aW (iz id) (aa 3) (gC (.int 3)))) (aD (aX 6 (cM (ae (i7 aq) aq)))
 (aD (aX 7 (fO qv (ae (aa 1) (ae (aW bV (gC (.int 2)) (jQ 2 0 az (ae (gC (.int 3)) aq))) aq))))
 (aD (fD (fh (ae (aa 7) aq)) (cE 8)
 (aD (aX 9 (cM aq))
 (aD (fD (gQ (aa 6)) (cE 4)
 (ke (gM "list" 9 iQ (ae (j8 (fh (ae (aW bV (aa 8) (gC (.int 1))) aq)) [none,some 4,some 8] (cE 0) d9 (aW bV (aW bV (j7 jg (aa 1) bN (bE (aa 0))) (i7 (ae (aa 2) aq))) (j7 jg (aa 1) (bE (aa 0)) bN))) aq))))
 (lh 6 9))))
 (bA (fO gf (ae (j8 (gQ (aa 6)) [none,some 2,some 7] (cE 0) d9 (aW bV (aa 0) (j7 jg (aa 1) (bE (aa 2)) bN))) aq)))))) bF)
 (bA (fO gf (ae (uZ gy (fh (ae (aW bV (gC (.int 1)) (jQ 2 0 az (ae (gC (.int 4)) aq))) aq)) [none,some 0,some 1] (cE 0) d9 (jQ 2 1 aV (ae (aa 2) aq))) aq)))))))))
noncomputable def aI:List U->R (U×U):=yU 10 bS
noncomputable abbrev rE:Gm:=⟨[false,false],false,λ_=>False⟩
noncomputable def gz:Ev->SR:=(aD (aX 0 (fO Ca (ae (aa 0) aq)))
 (aD (aX 1 (fO Ca (ae (aa 1) aq)))
 (aD (bG (gB (aW G1 (aa 1) (gC (.int 0))))
 (HW 0 1 (ae (aa 1) (ae (aW oV (aa 0) (aa 1)) aq))) 1000)
 (bA (aa 0)))))
noncomputable def cB:List U->R U:=fi .S 2 gz
noncomputable abbrev xS:Gm:=⟨[false,false],false,λ_=>False⟩
noncomputable def jC:Ev->SR:=(bA (fO gf (ae (j8 (gQ (aa 1)) [none,some 0] (cE 0) d9 (aW n6 (aa 1) (aa 0))) aq)))
noncomputable def c_:List U->R U:=fi .S 2 jC
noncomputable abbrev sR:Gm:=⟨[false,true,false,false],false,λ_=>False⟩
noncomputable def g9:Ev->SR:=(aD (aX 1 Q0)
 (aD (fD (gQ (aa 0)) (cE 2)
 (iR 1 (aW bV (jx 1 (aa 2) (gC (.int 0))) (gC (.int 1))) (aa 2)))
 (nv 1 (aD (aX 3 (gC (.int 0)))
 (aD (fD (IB (aa 1)) (cE 2)
 (aX 3 (ip 2 cB (ae (aa 3) (ae (aW oW (aa 1) (aa 2)) aq)))))
 (bA (fO rn (ae (j8 (IB (aa 1)) [none,some 3,some 1] (cE 0) d9 (i7 (ae (aa 0) (ae (aW nZ (aW oW (aa 2) (aa 0)) (aa 1)) aq)))) aq))))))))
noncomputable def cq:List U->R U:=fi .O 4 g9
noncomputable abbrev oJ:Gm:=⟨[false,false],false,λ_=>False⟩
noncomputable def b9:Nat->Ev->SR
 |0=>λ_=>.stk
 |n+1=>let r__law_same:=fi .S 2 (b9 n)
  (aD (jt (gB (ze "tuple" "list" (aa 1))) (aD (jt (HL (gB (aW (iz not) (lH "tuple" (aa 0)) (lH "tuple" (aa 1)))) (gB (aW (iz not) (lH "list" (aa 0)) (lH "list" (aa 1))))) (bA (gC (.bl false))) bF)
 (aD (jt (gB (aW (iz not) (fO lE (ae (aa 0) aq)) (fO lE (ae (aa 1) aq)))) (bA (gC (.bl false))) bF)
 (bA (fO u9 (ae (j8 (Im (ae (aa 0) (ae (aa 1) aq))) [none,none] (wR 2 (jr (cE 0) (jr (cE 1) wQ))) d9 (ip 2 r__law_same (ae (aa 0) (ae (aa 1) aq)))) aq))))) bF)
 (bA (L_ (aW (iz id) (aa 0) (aa 1)) (aW (iz id) (lH "bool" (aa 0)) (lH "bool" (aa 1))))))
noncomputable def aL (n:Nat):List U->R U:=fi .S 2 (b9 n)
noncomputable abbrev sS:Gm:=⟨[false,false,false,false],false,λ_=>False⟩
noncomputable def gA:Ev->SR:=(jt (gB (aW (Oo not) (ip 2 c_ (ae (aa 2) (ae (aa 3) aq))) (aa 0))) (bA (gC (.bl false))) bF)
noncomputable def cC:Ev->SR:=(fD (gQ (aa 0)) (cE 3)
 gA)
noncomputable def g_:Ev->SR:=(aD (aX 1 (ip 1 cq (ae (aa 0) aq)))
 (aD (jt (gB (aW (yW not) (j8 (IB (aa 1)) [none,some 1] (cE 0) (gB (aW (iz not) (aW oW (aa 1) (aa 0)) (gC (.int 1)))) (aa 0)) (cM aq))) (bA (gC (.bl false))) bF)
 (aD (fD (gQ (aa 0)) (cE 2)
 cC)
 (bA (gC (.bl true))))))
noncomputable def dA:List U->R U:=fi .S 4 g_
noncomputable abbrev rF:Gm:=⟨[false,false,true,false,true,false,false,false],false,λ_=>False⟩
noncomputable def dG:Ev->SR:=(aD (aX 7 (ip 2 c_ (ae (aa 6) (ae (aa 5) aq))))
 (jt (gB (aW (xj not) (aa 7) (aa 2))) (aD (iR 2 (gC (.bl true)) (aa 7))
 (ke (gM "list" 4 lJ (ae (aa 7) aq)))) bF))
noncomputable def cQ:Ev->SR:=(fD (gQ (aa 1)) (cE 6)
 dG)
noncomputable def gD:Ev->SR:=(aD (aX 2 (zF (qx (ae (aa 0) aq))))
 (aD (aX 3 (fO rq (ae (aa 2) aq)))
 (aD (bG (Ed (gB (aW (yW not) (aa 3) (cM aq))) (gB (aW QZ (fO l9 (ae (aa 2) aq)) (gC (.int 120)))))
 (aD (aX 4 (cM aq))
 (aD (fD (gQ (aa 3)) (cE 5)
 cQ)
 (lh 3 4))) 1000)
 (aD (jt (gB (aW G1 (fO l9 (ae (aa 2) aq)) (gC (.int 120)))) (bA (gC (.str "many"))) bF)
 (bA (fO iy (ae (aa 2) aq)))))))
noncomputable def bp:List U->R U:=fi .S 8 gD
noncomputable abbrev vH:Gm:=⟨[true,false,false,false,true,false],true,λ_=>False⟩
noncomputable def iZ:Ev->SR:=(aD (aX 2 (fO qv (ae (aa 1) (ae (aW n6 (cM (ae (gC (.int 2)) (ae (gC (.int 3)) (ae (gC (.int 5)) aq)))) (jQ 2 0 az (ae (gC (.int 3)) aq))) aq))))
 (aD (aX 3 (j7 jg (fO n9 (ae (jQ 2 0 aV (ae (aa 1) aq)) aq)) bN (bE (aa 2))))
 (aD (aX 4 (Au (ae (aa 1) aq)))
 (aD (fD (fh (ae (aa 2) aq)) (cE 5)
 (tU 4 (aW n6 (aa 3) (aW oV (aW bV (aa 5) (gC (.int 1))) (aa 2))) (aW n6 (aa 3) (aa 5))))
 (bA (fO gf (ae (aa 4) aq)))))))
noncomputable def cK:List U->R (U×U):=yU 6 iZ
noncomputable def cH:List U->R U:=λus=>match bR us with
 | .exc _ _=>.ok (.str "many")
 |_=>.stk
noncomputable def bM:List U->R U:=fi .O 3 (bA (ip 2 bR (ae (aa 0) (ae (aa 1) aq))))
noncomputable abbrev uy:Gm:=⟨[false,false,true,false,false,false,true,false,false,false],false,λ_=>False⟩
noncomputable def kK:Ev->SR:=(aD (aX 6 (ip 1 fo (ae (aa 5) aq)))
 (jt (HL (sO (gB (lH "bool" (aa 6)))) (gB (aW (iz not) (aa 6) (ip 1 dA (ae (aa 5) aq))))) (bA (gC (.bl false))) bF))
noncomputable def rG:Ev->SR:=(aD (aX 2 (ip 2 cJ (ae (aa 0) (ae (aa 1) aq))))
 (aD (aX 3 (aW bV (gC (.int 1)) (jQ 2 2 az (ae (gC (.int 8)) aq))))
 (aD (aX 4 (jQ 2 2 aI (ae (aa 3) aq)))
 (aD (nv 6 (fD (gQ (cM (ae (aa 4) (ae (j7 jg (aW qz (aa 4) (gC (.int 2))) bN (bE (gC (.int 24)))) (ae (aW bV (j7 jg (aa 4) bN (bE (gC (.int 23)))) (j7 jg (aa 4) bN (bE (gC (.int 1))))) aq))))) (cE 5)
 kK))
 (aD (aX 7 (uZ uy (fh (ae (jQ 2 2 az (ae (gC (.int 4)) aq)) aq)) [none,some 2,some 3] (cE 0) d9 (aW n6 (cM (ae (jQ 2 1 aV (ae (aa 2) aq)) (ae (jQ 2 1 cK (ae (aa 2) aq)) aq))) (jQ 2 1 az (ae (gC (.int 2)) aq)))))
 (aD (aX 8 (fO n9 (ae (aa 7) aq)))
 (aD (aX 9 (ip 2 bp (ae (aa 3) (ae (aa 7) aq))))
 (Oq (aD (aX 6 (ip 2 bM (ae (aa 3) (ae (aa 8) aq))))
 (aD (jt (HL (sO (gB (ip 2 (aL 6) (ae (aa 6) (ae (aa 9) aq))))) (gB (aW (yW not) (aa 8) (aa 7)))) (bA (gC (.bl false))) bF)
 (jt (gB (aW (yW not) (aa 9) (gC (.str "many")))) (aD (ke (gM "list" 6 qy aq))
 (jt (sO (gB (ip 2 (aL 6) (ae (ip 2 bM (ae (aa 3) (ae (aa 8) aq))) (ae (aa 9) aq))))) (bA (gC (.bl false))) bF)) bF)))
 (nv 6 (aD (aX 6 (ip 2 cH (ae (aa 3) (ae (aa 8) aq))))
 (aD (jt (HL (sO (gB (ip 2 (aL 6) (ae (aa 6) (ae (aa 9) aq))))) (gB (aW (yW not) (aa 8) (aa 7)))) (bA (gC (.bl false))) bF)
 (jt (gB (aW (yW not) (aa 9) (gC (.str "many")))) (λ_=>.stk) bF))))))))))))
noncomputable def F4:Ev->SR:=(aD (fD (fh (ae (fO w9 (ae (gC (.int 1)) (ae (fO qv (ae (fO lE (ae (aa 0) aq)) (ae (gC (.int 3)) aq))) aq))) aq)) (cE 1)
 rG)
 (bA (gC (.bl true))))
noncomputable def xT:List U->R U:=fi .S 10 F4
end Hc
end
namespace Hc
open L2
noncomputable abbrev gE:aaX:=ie 10
noncomputable abbrev uz:aaX:=ie 11
noncomputable abbrev iA:aaX:=ie 14
noncomputable abbrev eT:aaX:=ie 15
noncomputable abbrev eo:aaX:=ie 16
noncomputable abbrev eU:aaX:=ie 18
noncomputable abbrev fX:aaX:=ie 19
noncomputable abbrev iB:aaX:=ie 20
noncomputable abbrev eV:aaX:=ie 21
noncomputable abbrev bQ:aaX:=ie 22
noncomputable abbrev dS:aaX:=ie 23
noncomputable abbrev gF:aaX:=ie 24
noncomputable abbrev dO:aaX:=ie 25
noncomputable abbrev iC:aaX:=ie 26
noncomputable abbrev fq:aaX:=ie 27
noncomputable abbrev dP:aaX:=ie 28
noncomputable abbrev dU:aaX:=ie 29
noncomputable abbrev fY:aaX:=ie 30
noncomputable abbrev gG:aaX:=ie 31
noncomputable abbrev vI:aaX:=ie 32
abbrev Bd (x:Str)(ps:List Str)(s:aaX):Prop:=∀(kV jF pm:Wd) (an:Option Ww) (bC ct:Wd) (us:List Wd),us.length=ps.length->bindArgs (XH x x (dE s) (bH s) (aj s) .none kV jF pm an bC ct) ⟨us,[]⟩=pure (ps.zip us)
theorem uA {P:List Str}{sc:abz}(a:sc.kind=.function:=by rfl)(b:sc.isCoroutine=false:=by rfl)(c:sc.isGenerator=false:=by rfl)(d:N.Nodup:=by decide+kernel)(e:N.take P.length=P:=by rfl)(f:∀x∈P,sc.names.lookup x=some .local\/sc.names.lookup x=some .cell:=by decide+kernel)(g:∀y∈sc.names,y.2≠.free:=by decide+kernel):aR N P sc:=⟨a,b,c,d,e,f,g⟩
theorem rm {A:W2}(r:dw k A)(h:j<=k:=by first|decide|lia):dw j A:=r.mono h
theorem xU:aR ["row","places"] ["row","places"] (aj gE):=uA
theorem xV:Bd "cards_at" ["row","places"] gE:=λ_ _ _ _ _ _ us hl=>match us,hl with|[_,_],_=>rfl
theorem IY:aR ["one","other"] ["one","other"] (aj uz):=uA
theorem IZ:Bd "then" ["one","other"] uz:=λ_ _ _ _ _ _ us hl=>match us,hl with|[_,_],_=>rfl
theorem kL:aR ["shuffle","often","order"] ["shuffle"] (aj iA):=uA
theorem zJ:Bd "counted" ["shuffle"] iA:=λ_ _ _ _ _ _ us hl=>match us,hl with|[_],_=>rfl
theorem i0:aR ["shuffle","often","one"] ["shuffle"] (aj eT):=uA
theorem vJ:Bd "is_closed" ["shuffle"] eT:=λ_ _ _ _ _ _ us hl=>match us,hl with|[_],_=>rfl
theorem aU:aR ["many","orders","start","met","fresh","further","reached","order","follower"] ["many","orders"] (aj eo):=uA
theorem rH:Bd "spanned" ["many","orders"] eo:=λ_ _ _ _ _ _ us hl=>match us,hl with|[_,_],_=>rfl
theorem oX:aR ["script","k"] ["script","k"] (aj eU):=uA
theorem oY:Bd "_law_cell_at" ["script","k"] eU:=λ_ _ _ _ _ _ us hl=>match us,hl with|[_,_],_=>rfl
theorem kh:aR ["script","k","cell"] ["script","k"] (aj fX):=uA
theorem sT:Bd "_law_state" ["script","k"] fX:=λ_ _ _ _ _ _ us hl=>match us,hl with|[_,_],_=>rfl
theorem fT:aR ["state","many","found","mixed"] ["state","many"] (aj iB):=uA
theorem vK:Bd "_law_take" ["state","many"] iB:=λ_ _ _ _ _ _ us hl=>match us,hl with|[_,_],_=>rfl
theorem ki:aR ["state","many","left"] ["state","many"] (aj eV):=uA
theorem sU:Bd "_law_order" ["state","many"] eV:=λ_ _ _ _ _ _ us hl=>match us,hl with|[_,_],_=>rfl
theorem aS:aR ["state","many","stays","way","order","half","some","size","k","longer"] ["state","many"] (aj bQ):=uA
theorem oZ:Bd "_law_shuffle" ["state","many"] bQ:=λ_ _ _ _ _ _ us hl=>match us,hl with|[_,_],_=>rfl
theorem dH:aR ["one","other"] ["one","other"] (aj dS):=uA
theorem o5:Bd "_law_divisor" ["one","other"] dS:=λ_ _ _ _ _ _ us hl=>match us,hl with|[_,_],_=>rfl
theorem vL:aR ["row","order"] ["row","order"] (aj gF):=uA
theorem vM:Bd "_law_laid" ["row","order"] gF:=λ_ _ _ _ _ _ us hl=>match us,hl with|[_,_],_=>rfl
theorem cD:aR ["orders","counts","order","by"] ["orders"] (aj dO):=uA
theorem rJ:Bd "_law_lowest" ["orders"] dO:=λ_ _ _ _ _ _ us hl=>match us,hl with|[_],_=>rfl
theorem i4:aR ["e","marks"] ["e"] (aj iC):=uA
theorem vN:Bd "_law_mark" ["e"] iC:=λ_ _ _ _ _ _ us hl=>match us,hl with|[_],_=>rfl
theorem ma:aR ["found","due"] ["found","due"] (aj fq):=uA
theorem mf:Bd "_law_same" ["found","due"] fq:=λ_ _ _ _ _ _ us hl=>match us,hl with|[_,_],_=>rfl
theorem ez:aR ["shuffle","counts","one","other"] ["shuffle"] (aj dP):=uA
theorem rK:Bd "_law_closed" ["shuffle"] dP:=λ_ _ _ _ _ _ us hl=>match us,hl with|[_],_=>rfl
theorem bx:aR ["many","orders","found","fresh","longer","one","other","more"] ["many","orders"] (aj dU):=uA
theorem o7:Bd "_law_spanned" ["many","orders"] dU:=λ_ _ _ _ _ _ us hl=>match us,hl with|[_,_],_=>rfl
theorem dB:aR ["state","many","size","order","found","k"] ["state","many"] (aj fY):=uA
theorem sV:Bd "_law_round" ["state","many"] fY:=λ_ _ _ _ _ _ us hl=>match us,hl with|[_,_],_=>rfl
theorem i5:aR ["many","orders","e"] ["many","orders"] (aj gG):=uA
theorem mj:Bd "_law_told" ["many","orders"] gG:=λ_ _ _ _ _ _ us hl=>match us,hl with|[_,_],_=>rfl
theorem fI:aR ["script","k","state","many","shuffle","some","found","orders","handed","due"] ["script"] (aj vI):=uA
structure rM (mg:Str->Option Wd):Prop where
 zmq:mg "abs"=none
 zkq:mg "all"=none
 zfq:mg "bool"=none
 zhq:mg "dict"=none
 zbq:mg "isinstance"=none
 znq:mg "len"=none
 zgq:mg "list"=none
 ziq:mg "max"=none
 zjq:mg "min"=none
 zeq:mg "range"=none
 zcq:mg "sorted"=none
 zdq:mg "tuple"=none
 zlq:mg "zip"=none
 zaq:∃tk,mg "MOST_SPANNED"=some (.int 120 tk)
end Hc
namespace Hc
open L2
noncomputable abbrev MS:List (Str×Bool):=[("NoPlan",false),("NoWay",false),("NoEnd",false),("NoFormula",false),("TooMany",true),("NoName",false),("BadNote",false)]
section
variable {w:Xt}
theorem SD {k:Bool}{A B:Prop}(hk:k=false)(h:B):if k=true then A else B:=by
 subst hk;exact h
theorem I_ (T:rM mg)(XT:EI K mg C "TooMany" MS)(d:Df K mg "_law_mark" iC):∃(f:Ww) (fd:Zu),mg "_law_mark"=some (.ref f)/\XR K (.ref f)=true/\jm K fd ["e"] []/\EF P w K mg base uQ 1 f fd ["e"] (ML C "many"):=by
 obtain⟨f,fd,m,F⟩:=d.ex;refine⟨f,fd,m,F.kp,F.binds vN,?_⟩;obtain⟨oc,od,kV,jF,pm,an,bC,ct,osl,rfl,lk,iF⟩:=F.ex;have Z:=XT.ec;have m1:=XT.marks ("NoPlan",false) (by simp);have m2:=XT.marks ("NoWay",false) (by simp);have m3:=XT.marks ("NoEnd",false) (by simp);have m4:=XT.marks ("NoFormula",false) (by simp);have m5:=XT.marks ("TooMany",true) (by simp);have m6:=XT.marks ("NoName",false) (by simp);have m7:=XT.marks ("BadNote",false) (by simp);refine MG (N:=["e","marks"]) lk iF i4 (λvs H Q E ⟨ea,e,_⟩=>by rw[e];rfl) λA outer s H vs Q E hr ⟨ea,e,hx,hq⟩=>?_;subst e;refine⟨_,jj (Dr (Dq (Dn (EK (i:=0) (C:=C) (b:=true) Z T.zbq XT.zve XT.ve))) (jM (kn g5)) uL)
  (jj (pT (i:=1) i4.nd rfl (Or.inl rfl) (uN (aO (gm (i:=0) (C:=C) Z T.zbq m1) (aO (gm (i:=0) (C:=C) Z T.zbq m2) (aO (gm (i:=0) (C:=C) Z T.zbq m3) (aO (gm (i:=0) (C:=C) Z T.zbq m4) cT))))))
  (jj (pT (i:=1) i4.nd rfl (Or.inl rfl) (JK LW (pv 1) (uN (aO (gm (i:=0) (C:=C) Z T.zbq m5) (aO (gm (i:=0) (C:=C) Z T.zbq m6) (aO (gm (i:=0) (C:=C) Z T.zbq m7) cT))))))
  (jj (Dr (Ac pV (DL Xx PySem.F.slot_list_count PySem.F.type_list_count CD (pv 1) (aO z_ cT)) Dm (bz _)) (jM (kn g5)) uL)
  (jM (kn (JM Ag (uN (aO g5 (aO g5 (aO g5 (aO g5 (aO g5 (aO g5 (aO g5 cT)))))))) (DL Xx PySem.F.slot_list_index PySem.F.type_list_index CF (pv 1) (aO z_ cT)) (λ_ _=>rfl))))))),?_⟩
 refine⟨ea,rfl,hx,true,rfl,L2.iteF ?_⟩;refine⟨ea,rfl,hx,ea,rfl,hx,ea,rfl,hx,ea,rfl,hx,(by decide:4<=Wa),λp1 n1=>?_⟩;have s1:aG H (bL H p1 (.lst [.bl false,.bl false,.bl false,.bl false])):=aG.updN (λ_ _ e=>e) n1;have G6:=s1 _ _ hx;refine⟨.ref p1,rfl,ea,rfl,G6,ea,rfl,G6,ea,rfl,G6,(by decide:3<=Wa),λp2 n2=>?_⟩;have s2:=s1.updN (o:=.lst [.bl true,.bl false,.bl false]) n2;have Vw:bL (bL H p1 (.lst [.bl false,.bl false,.bl false,.bl false])) p2 (.lst [.bl true,.bl false,.bl false]) p1=some (.lst [.bl false,.bl false,.bl false,.bl false]):=by
  rw[aF (ba (aH) n2)];exact aH
 refine⟨p1,p2,[.bl false,.bl false,.bl false,.bl false],[.bl true,.bl false,.bl false],rfl,rfl,Vw,aH,(by decide:7<=Wa),λp3 n3=>?_⟩;have s3:=s2.updN (o:=.lst [.bl false,.bl false,.bl false,.bl false,.bl true,.bl false,.bl false]) n3;refine⟨.ref p3,rfl,.inl ⟨rfl,_,.inl (.inl aH)⟩,p3,_,.bl true,rfl,rfl,aH,rfl,rfl,?_⟩;refine⟨rfl,_,rfl,SD (by decide+kernel) ?_⟩;refine⟨(by decide:7<=Wa),λp4 n4=>?_⟩;have s4:=s3.updN (o:=.lst [.str "plan",.str "way",.str "end",.str "formula",.str "many",.str "name",.str "note"]) n4;have h3:∀(H0:Hp) (o o':HO),(bL H0 p3 o) p4=none->bL (bL H0 p3 o) p4 o' p3=some o:=λH0 o o' n=>(aF (ba (aH) n)).trans aH;refine⟨.ref p3,rfl,.inl ⟨rfl,_,.inl (.inl (h3 _ _ _ n4))⟩,p3,_,.bl true,4,rfl,rfl,h3 _ _ _ n4,rfl,rfl,(by decide),rfl,?_,?_⟩
 ·intro m hm
  match m,hm with
  |0,_=>rfl
  |1,_=>rfl
  |2,_=>rfl
  |3,_=>rfl
 ·exact⟨p4,_,4,.str "many",rfl,rfl,.inl (.inl aH),rfl,hq _ s4⟩
theorem gj.mark {A:W2}(e:Option Wd)(r:dw k A):gj k (A.mark e):=⟨r.dp,r.un⟩
theorem gj.mono1 {A:W2}(r:gj k A)(h:1<=k):gj 1 A:=⟨by have:=r.dp;lia,by have:=r.un;lia⟩
theorem Nl (T:rM mg)(XT:EI K mg C "TooMany" MS)(gI:Fn P w K mg base "then" 2 ["one","other"] (jP K 2 g8 .S))(d:Df K mg "spanned" eo) :
  ∃(f:Ww) (fd:Zu),mg "spanned"=some (.ref f)/\XR K (.ref f)=true/\jm K fd ["many","orders"] []/\iI P w K mg base (CB P w C) 3 f fd ["many","orders"] (TJ K 2 C λus=>∃c u,bR us=.exc c u):=by
 obtain⟨fJ,zaq⟩:=T.zaq;refine Df.fnX (N:=["many","orders","start","met","fresh","further","reached","order","follower"]) (ps:=["many","orders"]) (st:=eo) (k:=2) ux .O jY d aU rH rfl (by decide) ?_;intro f bC A outer s0 H E hr;have hu:=hr.units;have nN:=dQ hr;exact (ah (bo (i:=2) aU.nd (pE rfl (af (ak 0) ai) T.zdq T.zeq))
 (ah (dk (i:=3) (h0:=λ_=>(by decide)) aU.nd (rC hu (ak 2)))
 (ah (bo (i:=4) aU.nd (d4 (af (ak 2) ai)))
 (ah (lj abW (bw tE nj (aZ f6 iO (by rfl) T.znq gb (af (ak 4) ai)) aB (bz _))
 (ah (dk (i:=5) (h0:=λ_=>(by decide)) aU.nd (d4 ai))
 (ah (cZ abW rfl (dM (ak 4)) (aT (i:=6) aU.nd)
 (ar (cZ abW rfl (dM (ak 1)) (aT (i:=7) aU.nd)
 (ah (bo (i:=8) aU.nd (a_ gI (hr.mono (by first|decide|lia)) (af (ak 6) (af (ak 7) ai))))
 (ah (cG (bw (nk hu) pF (ak 8) (cy 3) (by with_unfolding_all rfl)) (ah (lM (j:=3) hu eI (ak 8))
 (ar (lb (qm (i:=5) Xx Z1 Z2 mO kC (af (ak 8) ai))))) bb)
 (ar (cG (bw tE nj (aZ jX l_ (by rfl) T.znq gb (af (cy 3) ai)) (wM (i:=120) rfl zaq) (bz _)) (ar (FZ XT.cls XT.exc hr.hd (aO (Pu (uK (v:=.int 120) rfl zaq ⟨_,rfl⟩)) cT) (λσ H Q h=>⟨120,rfl,(by decide),by decide+kernel,λy=>h _ _ (show 1<=Wa by decide) (λ_ _ e=>e)⟩) (λ_ z=>z))) bb)))))))
 (ar (pD (i:=4) (j:=5) (h0:=λ_=>(by decide)) aU.nd)))))
 (ar (jR (aZ (nD rfl hu) rk (by rfl) T.zcq mT (af (cy 3) ai))))))))
theorem F5 (T:rM mg)(Vx:Fn P w K mg base "spanned" 3 ["many","orders"] (jP K 2 bR .O))(d:Df K mg "_law_told" gG):Fn P w K mg base "_law_told" 4 ["many","orders"] (jP K 2 bM .O):=by
 refine Df.fnD (N:=["many","orders","e"]) (ps:=["many","orders"]) (st:=gG) (k:=3) ⟨[false,false,false],false,λ_=>False⟩ .O (bA (ip 2 bR (ae (aa 0) (ae (aa 1) aq)))) d i5 mj rfl (by decide) ?_;intro f bC A outer s0 H E hr;exact ar (Iz (ar (jR (a_ Vx (hr.mono (by decide)) (af (ak 0) (af (ak 1) ai))))))
theorem F6 (T:rM mg)(XT:EI K mg C "TooMany" MS)(gI:Fn P w K mg base "then" 2 ["one","other"] (jP K 2 g8 .S))(d1:Df K mg "spanned" eo)(d2:Df K mg "_law_mark" iC)(d:Df K mg "_law_told" gG):Fn P w K mg base "_law_told" 4 ["many","orders"] (jP K 2 cH .S):=by
 obtain⟨f1,fd1,a1,b1,c1,F1⟩:=Nl (P:=P) (w:=w) (base:=base) T XT gI d1;obtain⟨f2,fd2,a2,b2,c2,F2⟩:=I_ (P:=P) (w:=w) (base:=base) T XT d2;obtain⟨cc,hc,QH⟩:=XT.card;have hl:∀(us:List U) (A:Ww->Prop) (H:Hp) (Q:VK),HP K .S A H (wN 2 cH us) Q->us.length=2:=λus A H Q h=>by
  unfold wN at h;split at h
  ·assumption
  ·exact h.elim
 refine Df.fn (N:=["many","orders","e"]) (k:=3) d i5 mj (λvs H Q E ⟨us,A,r,_,h⟩=>by rw[←r.length];exact hl us A H Q h) λf bC A outer s H vs Q E hr ⟨us,A0,r,mu,h⟩=>?_;have l:=hl us A0 H Q h
 match us,l with
 | [um,up],_=>
  have h:HP K .S A0 H (cH [um,up]) Q:=h;unfold cH at h;split at h
  ·rename_i c u pm;refine⟨_,jM (Iw (i:=2) F1 (hr.mono (by decide)) a1 b1 c1 rfl rfl hc QH i5.nd (aO (pv 0) (aO (pv 1) cT)) (λea=>jM (kn (EH F2 (gj.mono1 (gj.mark _ hr) (by decide)) a2 b2 c2 (aO (pv 2) cT))))),?_⟩;unfold aA at r;obtain⟨v0,vr,rfl,r0,r⟩:=r;unfold aA at r;obtain⟨v1,vr,rfl,r1,r⟩:=r;unfold aA at r;subst r;refine⟨v0,rfl,v1,rfl,[um,up],A0,aA.cons r0 (aA.cons r1 aA.nil),mu,rfl,⟨c,u,pm⟩,λH' sm ea Vy=>⟨.ref ea,rfl,ea,rfl,aH,λH3 s3=>?_⟩⟩;exact h (.str "many") H3 (λb o e=>s3 b o ((sm.updN Vy) b o e)) (show Rp K H3 A0 (.str "many") (.str "many") from Ec)
  ·exact h.elim
end
end Hc
namespace Hc
open L2
section
variable {w:Xt}
theorem xW (T:rM mg)  (gJ:Df K mg "cards_at" gE):Fn P w K mg base "cards_at" 1 ["row","places"] (jP K 2 gw .S):=by
 refine Df.fnD (N:=["row","places"]) (ps:=["row","places"]) (st:=gE) (k:=0) zH .S kJ gJ xU xV rfl (by decide) ?_;intro f bC A outer s0 H E hr;have hu:=hr.units;have nN:=dQ hr;exact (ar (bj (cz cm eM (by rfl) T.zdq cY (af (iL (aj gE) ["row","places"] ["place","row"] [none,some 0] rfl (dM (ak 1)) (λY=>⟨(aT (i:=0) (show (["place","row"]:List Str).Nodup by decide+kernel)),c9,(gU dY d_ (ak 1) (ak 0) (λ_ _=>rfl))⟩)) ai))))
theorem Ja (T:rM mg)(kO:Fn P w K mg base "cards_at" 1 ["row","places"] (jP K 2 gw .S))(se:Df K mg "then" uz):Fn P w K mg base "then" 2 ["one","other"] (jP K 2 g8 .S):=by
 refine Df.fnD (N:=["one","other"]) (ps:=["one","other"]) (st:=uz) (k:=1) Nk .S zI se IY IZ rfl (by decide) ?_;intro f bC A outer s0 H E hr;have hu:=hr.units;have nN:=dQ hr;exact (ar (bj (a_ kO (rm hr) (af (ak 0) (af (ak 1) ai)))))
theorem zK (T:rM mg)  (iG:Df K mg "counted" iA):Fn P w K mg base "counted" 1 ["shuffle"] (jP K 1 eR .O):=by
 refine Df.fnD (N:=["shuffle","often","order"]) (ps:=["shuffle"]) (st:=iA) (k:=0) CZ .O nE iG kL zJ rfl (by decide) ?_;intro f bC A outer s0 H E hr;have hu:=hr.units;have nN:=dQ hr;exact (ah (dk (i:=1) kL.nd xf)
 (ah (cZ Xb rfl (dM (ak 0)) (aT (i:=2) kL.nd)
 (ar (lM (j:=1) hu (bq bT bU (xk (j:=1) hu (ak 2) aB) aB) (ak 2))))
 (ar (HV (i:=1) (hi:=by decide)))))
theorem vO (T:rM mg)(gI:Fn P w K mg base "then" 2 ["one","other"] (jP K 2 g8 .S))(nQ:Fn P w K mg base "counted" 1 ["shuffle"] (jP K 1 eR .O))(fu:Df K mg "is_closed" eT):Fn P w K mg base "is_closed" 3 ["shuffle"] (jP K 1 fo .S):=by
 refine Df.fnD (N:=["shuffle","often","one"]) (ps:=["shuffle"]) (st:=eT) (k:=2) xQ .S jB fu i0 vJ rfl (by decide) ?_;intro f bC A outer s0 H E hr;have hu:=hr.units;have nN:=dQ hr;exact (ah (bo (i:=1) i0.nd (a_ nQ (rm hr) (af (ak 0) ai)))
 (ah (cG (bw pV jW (IV rfl (ak 1) T.zjq) (IW rfl (ak 1) T.ziq) (bz _)) (ar (bj eI)) bb)
 (ah (cZ Xb rfl (lX (ak 1)) (aT (i:=2) i0.nd)
 (ar (cG (qk (kz (aZ (tN rfl) Ar (by rfl) T.zkq D7 (af (iL (aj eT) ["shuffle","often","one"] ["other","often","one"] [none,some 1,some 2] rfl (lX (ak 1)) (λY=>⟨(aT (i:=0) (show (["other","often","one"]:List Str).Nodup by decide+kernel)),c9,(yQ (Mx hu) pF (a_ gI (rm hr) (af (ak 2) (af (ak 0) ai))) (ak 1) (by with_unfolding_all rfl))⟩)) ai)))) (ar (bj eI)) bb)))
 (ar (bj eI)))))
theorem zL (T:rM mg)(gI:Fn P w K mg base "then" 2 ["one","other"] (jP K 2 g8 .S))(fZ:Df K mg "spanned" eo):Fn P w K mg base "spanned" 3 ["many","orders"] (jP K 2 bR .O):=by
 obtain⟨fJ,zaq⟩:=T.zaq;refine Df.fnD (N:=["many","orders","start","met","fresh","further","reached","order","follower"]) (ps:=["many","orders"]) (st:=eo) (k:=2) ux .O jY fZ aU rH rfl (by decide) ?_;intro f bC A outer s0 H E hr;have hu:=hr.units;have nN:=dQ hr;exact (ah (bo (i:=2) aU.nd (pE rfl (af (ak 0) ai) T.zdq T.zeq))
 (ah (dk (i:=3) aU.nd (rC hu (ak 2)))
 (ah (bo (i:=4) aU.nd (d4 (af (ak 2) ai)))
 (ah (lj Xb (bw tE nj (aZ f6 iO (by rfl) T.znq gb (af (ak 4) ai)) aB (bz _))
 (ah (dk (i:=5) aU.nd (d4 ai))
 (ah (cZ Xb rfl (dM (ak 4)) (aT (i:=6) aU.nd)
 (ar (cZ Xb rfl (dM (ak 1)) (aT (i:=7) aU.nd)
 (ah (bo (i:=8) aU.nd (a_ gI (rm hr) (af (ak 6) (af (ak 7) ai))))
 (ah (cG (bw (nk hu) pF (ak 8) (cy 3) (by with_unfolding_all rfl)) (ah (lM (j:=3) hu eI (ak 8))
 (ar (lb (qm (i:=5) Xx Z1 Z2 mO kC (af (ak 8) ai))))) bb)
 (ar (cG (bw tE nj (aZ jX l_ (by rfl) T.znq gb (af (cy 3) ai)) (wM (i:=120) rfl zaq) (bz _)) (ar (MD λ_=>⟨_,_,rfl⟩)) bb)))))))
 (ar (pD (i:=4) (j:=5) aU.nd)))))
 (ar (jR (aZ (nD rfl hu) rk (by rfl) T.zcq mT (af (cy 3) ai))))))))
theorem o8 (T:rM mg)  (df:Df K mg "_law_cell_at" eU):Fn P w K mg base "_law_cell_at" 1 ["script","k"] (jP K 2 cA .S):=by
 refine Df.fnD (N:=["script","k"]) (ps:=["script","k"]) (st:=eU) (k:=0) rD .S ej df oX oY rfl (by decide) ?_;intro f bC A outer s0 H E hr;have hu:=hr.units;have nN:=dQ hr;exact (ah (cG (bw OR Mp (ak 1) (aZ f6 iO (by rfl) T.znq gb (af (ak 0) ai)) (bz _)) (ar (bj (gU dY d_ (ak 0) (ak 1) (λ_ _=>rfl)))) bb)
 (ar (bj aB)))
theorem sW (T:rM mg)(gK:Fn P w K mg base "_law_cell_at" 1 ["script","k"] (jP K 2 cA .S))(eC:Df K mg "_law_state" fX):Fn P w K mg base "_law_state" 2 ["script","k"] (jP K 2 cJ .O):=by
 refine Df.fnD (N:=["script","k","cell"]) (ps:=["script","k"]) (st:=fX) (k:=1) vG .O fS eC kh sT rfl (by decide) ?_;intro f bC A outer s0 H E hr;have hu:=hr.units;have nN:=dQ hr;exact (ah (bo (i:=2) kh.nd (a_ gK (rm hr) (af (ak 0) (af (ak 1) ai))))
 (ah (cG (bw OT Mr (ak 2) (bq Dx An aB aB) (bz _)) (ar (jR (d4 (af (bq LK Ia (ak 2) (bq Dx An aB aB)) (af eI ai))))) bb)
 (ar (jR (d4 (af (bq jk gW (ak 2) aB) (af eI ai)))))))
theorem vP (T:rM mg)  (fw:Df K mg "_law_take" iB):Fn P w K mg base "_law_take" 1 ["state","many"] (Dg K 2 az):=by
 refine Df.fnI (N:=["state","many","found","mixed"]) (ps:=["state","many"]) (st:=iB) (k:=0) xR gX fw fT vK rfl rfl (by decide) ?_;intro f bC A outer s0 H E hr;have hu:=hr.units;have nN:=dQ hr;exact (ah (cG (kz (gU dY d_ (cy 0) aB (λ_ _=>rfl))) (ah (bo (i:=2) fT.nd (bq jk gW (gU dY d_ (cy 0) aB (λ_ _=>rfl)) (ak 1)))
 (ah (u5 (i:=0) (bq jN lD (gU dY d_ (cy 0) aB (λ_ _=>rfl)) (ak 1)) aB)
 (ar (bj (ak 2))))) bb)
 (ah (u5 (i:=0) (bq jk gW (bq bT bU (bq kq iN (gU dY d_ (cy 0) aB (λ_ _=>rfl)) aB) aB) aB) aB)
 (ah (bo (i:=3) fT.nd (bq jk gW (bq bT bU (bq bT bU (bq kq iN (gU dY d_ (cy 0) aB (λ_ _=>rfl)) (gU dY d_ (cy 0) aB (λ_ _=>rfl))) (bq kq iN aB (gU dY d_ (cy 0) aB (λ_ _=>rfl)))) aB) aB))
 (ah (bo (i:=3) fT.nd (bq jk gW (bq bT bU (bq kq iN (ak 3) (ak 3)) (bq kq iN aB (ak 3))) aB))
 (ar (bj (bq jk gW (bq jN lD (ak 3) aB) (ak 1))))))))
theorem sX (T:rM mg)(bf:Fn P w K mg base "_law_take" 1 ["state","many"] (Dg K 2 az))(eD:Df K mg "_law_order" eV):Fn P w K mg base "_law_order" 2 ["state","many"] (Dg K 2 aV):=by
 refine Df.fnI (N:=["state","many","left"]) (ps:=["state","many"]) (st:=eV) (k:=1) iX iY eD ki sU rfl rfl (by decide) ?_;intro f bC A outer s0 H E hr;have hu:=hr.units;have nN:=dQ hr;exact (ah (dk (i:=2) ki.nd (Av rfl (af (ak 1) ai) T.zgq T.zeq))
 (ar (bj (cz cm eM (by rfl) T.zdq cY (af (En (aj eV) ["state","many","left"] ["k","left","state"] [none,some 2,some 0] rfl (dR (af (ak 1) ai) T.zeq) (λY=>⟨(aT (i:=0) (show (["k","left","state"]:List Str).Nodup by decide+kernel)),c9,(qm (i:=1) Xx PySem.F.slot_list_pop PySem.F.type_list_pop DP Cf (af (bZ (i:=2) bf (rm hr) (af (aZ f6 iO (by rfl) T.znq gb (af (cy 1) ai)) ai)) ai))⟩)) ai)))))
theorem o9 (T:rM mg)(bf:Fn P w K mg base "_law_take" 1 ["state","many"] (Dg K 2 az))(b_:Fn P w K mg base "_law_order" 2 ["state","many"] (Dg K 2 aV))(dg:Df K mg "_law_shuffle" bQ):Fn P w K mg base "_law_shuffle" 3 ["state","many"] (Dg K 2 aI):=by
 refine Df.fnI (N:=["state","many","stays","way","order","half","some","size","k","longer"]) (ps:=["state","many"]) (st:=bQ) (k:=2) gy bS dg aS oZ rfl rfl (by decide) ?_;intro f bC A outer s0 H E hr;have hu:=hr.units;have nN:=dQ hr;exact (ah (bo (i:=2) aS.nd (pE rfl (af (ak 1) ai) T.zdq T.zeq))
 (ah (bo (i:=3) aS.nd (bZ (i:=0) bf (rm hr) (af aB ai)))
 (ah (cG (bw tw jV (ak 3) aB (bz _)) (ar (bj (cz cm eM (by rfl) T.zdq cY (af (iL (aj bQ) ["state","many","stays","way","order","half","some","size","k","longer"] ["k","stays"] [none,some 2] rfl (dR (af (ak 1) ai) T.zeq) (λY=>⟨(aT (i:=0) (show (["k","stays"]:List Str).Nodup by decide+kernel)),c9,(bq bT bU (cN cO fF (ak 1) (dj (ak 0)) d8) (cN cO fF (ak 1) d8 (dj (ak 0))))⟩)) ai)))) bb)
 (ah (cG (bw tw jV (ak 3) aB (bz _)) (ah (bo (i:=4) aS.nd (bZ (i:=0) b_ (rm hr) (af (ak 1) ai)))
 (ar (bj (ql (af (ak 2) (af (ak 4) ai)))))) bb)
 (ah (cG (bw tw jV (ak 3) aB (bz _)) (ah (bo (i:=5) aS.nd (bq jN lD (ak 1) aB))
 (ar (bj (ql (af (ak 2) (af (bq bT bU (bq bT bU (cN cO fF (ak 2) (dj (ak 5)) (dj (bq kq iN aB (ak 5)))) (cN cO fF (ak 2) d8 (dj (ak 5)))) (cN cO fF (ak 2) (dj (bq kq iN aB (ak 5))) d8)) ai)))))) bb)
 (ah (cG (bw tw jV (ak 3) aB (bz _)) (ah (bo (i:=6) aS.nd (d4 (af (ql ai) ai)))
 (ah (bo (i:=7) aS.nd (aZ (mJ rfl) qw (by rfl) T.zjq uS (af (ak 1) (af (bq bT bU aB (bZ (i:=0) bf (rm hr) (af aB ai))) ai))))
 (ah (cZ Xb rfl (dR (af (ak 7) ai) T.zeq) (aT (i:=8) aS.nd)
 (ah (dk (i:=9) aS.nd (d4 ai))
 (ah (cZ Xb rfl (dM (ak 6)) (aT (i:=4) aS.nd)
 (ar (lb (qm (i:=9) Xx PySem.F.slot_list_extend PySem.F.type_list_extend Ie y3 (af (iL (aj bQ) ["state","many","stays","way","order","half","some","size","k","longer"] ["j","order","k"] [none,some 4,some 8] rfl (dR (af (bq bT bU (ak 8) aB) ai) T.zeq) (λY=>⟨(aT (i:=0) (show (["j","order","k"]:List Str).Nodup by decide+kernel)),c9,(bq bT bU (bq bT bU (cN cO fF (ak 1) d8 (dj (ak 0))) (ql (af (ak 2) ai))) (cN cO fF (ak 1) (dj (ak 0)) d8))⟩)) ai)))))
 (ar (pD (i:=6) (j:=9) aS.nd)))))
 (ar (bj (cz cm eM (by rfl) T.zdq cY (af (iL (aj bQ) ["state","many","stays","way","order","half","some","size","k","longer"] ["order","stays","size"] [none,some 2,some 7] rfl (dM (ak 6)) (λY=>⟨(aT (i:=0) (show (["order","stays","size"]:List Str).Nodup by decide+kernel)),c9,(bq bT bU (ak 0) (cN cO fF (ak 1) (dj (ak 2)) d8))⟩)) ai))))))) bb)
 (ar (bj (cz cm eM (by rfl) T.zdq cY (af (En (aj bQ) ["state","many","stays","way","order","half","some","size","k","longer"] ["k","state","many"] [none,some 0,some 1] rfl (dR (af (bq bT bU aB (bZ (i:=0) bf (rm hr) (af aB ai))) ai) T.zeq) (λY=>⟨(aT (i:=0) (show (["k","state","many"]:List Str).Nodup by decide+kernel)),c9,(bZ (i:=1) b_ (rm hr) (af (ak 2) ai))⟩)) ai))))))))))
theorem o_ (T:rM mg)  (dh:Df K mg "_law_divisor" dS):Fn P w K mg base "_law_divisor" 1 ["one","other"] (jP K 2 cB .S):=by
 refine Df.fnD (N:=["one","other"]) (ps:=["one","other"]) (st:=dS) (k:=0) rE .S gz dh dH o5 rfl (by decide) ?_;intro f bC A outer s0 H E hr;have hu:=hr.units;have nN:=dQ hr;exact (ah (bo (i:=0) dH.nd (aZ wA Aq (by rfl) T.zmq D6 (af (ak 0) ai)))
 (ah (bo (i:=1) dH.nd (aZ wA Aq (by rfl) T.zmq D6 (af (ak 1) ai)))
 (ah (lj Xb (bw tE nj (ak 1) aB (bz _))
 (ar (Mg (i:=0) (j:=1) rfl dH.nd (af (ak 1) (af (bq jk gW (ak 0) (ak 1)) ai)))))
 (ar (bj (ak 0))))))
theorem vQ (T:rM mg)  (fA:Df K mg "_law_laid" gF):Fn P w K mg base "_law_laid" 1 ["row","order"] (jP K 2 c_ .S):=by
 refine Df.fnD (N:=["row","order"]) (ps:=["row","order"]) (st:=gF) (k:=0) xS .S jC fA vL vM rfl (by decide) ?_;intro f bC A outer s0 H E hr;have hu:=hr.units;have nN:=dQ hr;exact (ar (bj (cz cm eM (by rfl) T.zdq cY (af (iL (aj gF) ["row","order"] ["place","row"] [none,some 0] rfl (dM (ak 1)) (λY=>⟨(aT (i:=0) (show (["place","row"]:List Str).Nodup by decide+kernel)),c9,(gU dY d_ (ak 1) (ak 0) (λ_ _=>rfl))⟩)) ai))))
theorem rN (T:rM mg)(gL:Fn P w K mg base "_law_divisor" 1 ["one","other"] (jP K 2 cB .S))(dC:Df K mg "_law_lowest" dO):Fn P w K mg base "_law_lowest" 2 ["orders"] (jP K 1 cq .O):=by
 refine Df.fnD (N:=["orders","counts","order","by"]) (ps:=["orders"]) (st:=dO) (k:=1) sR .O g9 dC cD rJ rfl (by decide) ?_;intro f bC A outer s0 H E hr;have hu:=hr.units;have nN:=dQ hr;exact (ah (dk (i:=1) cD.nd xf)
 (ah (cZ Xb rfl (dM (ak 0)) (aT (i:=2) cD.nd)
 (ar (lM (j:=1) hu (bq bT bU (xk (j:=1) hu (ak 2) aB) aB) (ak 2))))
 (AX 1 (ah (bo (i:=3) cD.nd aB)
 (ah (cZ Xb rfl (lX (ak 1)) (aT (i:=2) cD.nd)
 (ar (bo (i:=3) cD.nd (a_ gL (rm hr) (af (ak 3) (af (y_ hu (ak 1) (ak 2)) ai))))))
 (ar (jR (cz (zD rfl hu) CW (by rfl) T.zhq Hz (af (iL (aj dO) ["orders","counts","order","by"] ["order","by","counts"] [none,some 3,some 1] rfl (lX (ak 1)) (λY=>⟨(aT (i:=0) (show (["order","by","counts"]:List Str).Nodup by decide+kernel)),c9,(ql (af (ak 0) (af (bq jN lD (y_ hu (ak 2) (ak 0)) (ak 1)) ai)))⟩)) ai)))))))))
theorem vR (T:rM mg)  (dW:Df K mg "_law_same" fq):∀n,Fn P w K mg base "_law_same" (n+1) ["found","due"] (jP K 2 (aL n) .S):=by
 intro n
 induction n with
 |zero=>
  refine Df.fnD (N:=["found","due"]) (ps:=["found","due"]) (st:=fq) (k:=0) oJ .S (b9 0) dW ma mf rfl (by decide) ?_;intro f bC A outer s0 H E hr;have hu:=hr.units;have nN:=dQ hr;exact Aw
 |succ n fB=>
  refine Df.fnD (N:=["found","due"]) (ps:=["found","due"]) (st:=fq) (k:=n+1) oJ .S (b9 (n+1)) dW ma mf rfl (by decide) ?_;intro f bC A outer s0 H E hr;have hu:=hr.units;have nN:=dQ hr;exact (ah (cG (kz (EB (T1:="tuple") (T2:="list") (by decide) (by decide) (ak 1) T.zbq T.zdq cY T.zgq iJ)) (ah (cG (DW.dt (Ai (bw pV jW (iP (T:="tuple") (by decide) (ak 0) T.zbq T.zdq cY) (iP (T:="tuple") (by decide) (ak 1) T.zbq T.zdq cY) (bz _)) (uW (bw pV jW (iP (T:="list") (by decide) (ak 0) T.zbq T.zgq iJ) (iP (T:="list") (by decide) (ak 1) T.zbq T.zgq iJ) (bz _))))) (ar (bj eI)) bb)
 (ah (cG (bw pV jW (aZ f6 iO (by rfl) T.znq gb (af (ak 0) ai)) (aZ f6 iO (by rfl) T.znq gb (af (ak 1) ai)) (bz _)) (ar (bj eI)) bb)
 (ar (bj (aZ (tN rfl) Ar (by rfl) T.zkq D7 (af (iL (aj fq) ["found","due"] ["one","other"] [none,none] rfl (MC (af (ak 0) (af (ak 1) ai)) T.zlq) (λY=>⟨(Me rfl (wU (aT (i:=0) (show (["one","other"]:List Str).Nodup by decide+kernel)) (wU (aT (i:=1) (show (["one","other"]:List Str).Nodup by decide+kernel)) HU))),c9,(a_ fB (rm hr) (af (ak 0) (af (ak 1) ai)))⟩)) ai)))))) bb)
 (ar (bj (Ma (ha:=(yQ tw jV (ak 0) (ak 1) (bz _))) (hb:=(Mb (yQ tw jV (iP (T:="bool") (by decide) (ak 0) T.zbq T.zfq uR) (iP (T:="bool") (by decide) (ak 1) T.zbq T.zfq uR) (bz _))))))))
theorem rO (T:rM mg)(dX:Fn P w K mg base "_law_laid" 1 ["row","order"] (jP K 2 c_ .S))(ic:Fn P w K mg base "_law_lowest" 2 ["orders"] (jP K 1 cq .O))(dD:Df K mg "_law_closed" dP):Fn P w K mg base "_law_closed" 3 ["shuffle"] (jP K 1 dA .S):=by
 refine Df.fnD (N:=["shuffle","counts","one","other"]) (ps:=["shuffle"]) (st:=dP) (k:=2) sS .S g_ dD ez rK rfl (by decide) ?_;intro f bC A outer s0 H E hr;have hu:=hr.units;have nN:=dQ hr;exact (ah (bo (i:=1) ez.nd (a_ ic (rm hr) (af (ak 0) ai)))
 (ah (cG (bw (mS hu) (m_ (f:=not)) (iL (aj dP) ["shuffle","counts","one","other"] ["order","counts"] [none,some 1] rfl (lX (ak 1)) (λY=>⟨(aT (i:=0) (show (["order","counts"]:List Str).Nodup by decide+kernel)),(Em (bw pV jW (y_ hu (ak 1) (ak 0)) aB (bz _))),(ak 0)⟩)) (d4 ai) (bz _)) (ar (bj eI)) bb)
 (ah (cZ Xb rfl (dM (ak 0)) (aT (i:=2) ez.nd)
 (ar (cZ Xb rfl (dM (ak 0)) (aT (i:=3) ez.nd)
 (ar (cG (bw (CV hu) Ng (a_ dX (rm hr) (af (ak 2) (af (ak 3) ai))) (ak 0) (by with_unfolding_all rfl)) (ar (bj eI)) bb)))))
 (ar (bj eI)))))
theorem pb (T:rM mg)(dX:Fn P w K mg base "_law_laid" 1 ["row","order"] (jP K 2 c_ .S))(di:Df K mg "_law_spanned" dU):Fn P w K mg base "_law_spanned" 2 ["many","orders"] (jP K 2 bp .S):=by
 refine Df.fnD (N:=["many","orders","found","fresh","longer","one","other","more"]) (ps:=["many","orders"]) (st:=dU) (k:=1) rF .S gD di bx o7 rfl (by decide) ?_;intro f bC A outer s0 H E hr;have hu:=hr.units;have nN:=dQ hr;exact (ah (dk (i:=2) bx.nd (rC hu (pE rfl (af (ak 0) ai) T.zdq T.zeq)))
 (ah (bo (i:=3) bx.nd (cz (zE rfl) CY (by rfl) T.zgq iJ (af (cy 2) ai)))
 (ah (lj Xb (DW.dt (L9 (bw (mS hu) (m_ (f:=not)) (ak 3) (d4 ai) (bz _)) (HN (bw OS Mq (aZ jX l_ (by rfl) T.znq gb (af (cy 2) ai)) aB (bz _)))))
 (ah (dk (i:=4) bx.nd (d4 ai))
 (ah (cZ Xb rfl (dM (ak 3)) (aT (i:=5) bx.nd)
 (ar (cZ Xb rfl (dM (ak 1)) (aT (i:=6) bx.nd)
 (ah (bo (i:=7) bx.nd (a_ dX (rm hr) (af (ak 6) (af (ak 5) ai))))
 (ar (cG (bw (nk hu) pF (ak 7) (cy 2) (by with_unfolding_all rfl)) (ah (lM (j:=2) hu eI (ak 7))
 (ar (lb (qm (i:=4) Xx Z1 Z2 mO kC (af (ak 7) ai))))) bb))))))
 (ar (pD (i:=3) (j:=4) bx.nd)))))
 (ah (cG (bw tE nj (aZ jX l_ (by rfl) T.znq gb (af (cy 2) ai)) aB (bz _)) (ar (bj yP)) bb)
 (ar (bj (aZ (nD rfl hu) rk (by rfl) T.zcq mT (af (cy 2) ai))))))))
theorem sY (T:rM mg)(bf:Fn P w K mg base "_law_take" 1 ["state","many"] (Dg K 2 az))(b_:Fn P w K mg base "_law_order" 2 ["state","many"] (Dg K 2 aV))(eE:Df K mg "_law_round" fY):Fn P w K mg base "_law_round" 3 ["state","many"] (Dg K 2 cK):=by
 refine Df.fnI (N:=["state","many","size","order","found","k"]) (ps:=["state","many"]) (st:=fY) (k:=2) vH iZ eE dB sV rfl rfl (by decide) ?_;intro f bC A outer s0 H E hr;have hu:=hr.units;have nN:=dQ hr;exact (ah (bo (i:=2) dB.nd (aZ (mJ rfl) qw (by rfl) T.zjq uS (af (ak 1) (af (gU dY d_ (d4 (af aB (af aB (af aB ai)))) (bZ (i:=0) bf (rm hr) (af aB ai)) (λ_ _=>rfl)) ai))))
 (ah (bo (i:=3) dB.nd (cN cO fF (cz kR w6 (by rfl) T.zgq iJ (af (bZ (i:=0) b_ (rm hr) (af (ak 1) ai)) ai)) d8 (dj (ak 2))))
 (ah (dk (i:=4) dB.nd (Av rfl (af (ak 1) ai) T.zgq T.zeq))
 (ah (cZ Xb rfl (dR (af (ak 2) ai) T.zeq) (aT (i:=5) dB.nd)
 (ar (u5 (i:=4) (gU dY d_ (ak 3) (bq jk gW (bq bT bU (ak 5) aB) (ak 2)) (λ_ _=>rfl)) (gU dY d_ (ak 3) (ak 5) (λ_ _=>rfl)))))
 (ar (bj (cz cm eM (by rfl) T.zdq cY (af (cy 4) ai))))))))
theorem Nm (T:rM mg){cX:Ww}(XT:EI K mg cX "TooMany" MS)(FL:G0 K "law" "law" vI f fd)(gJ:Df K mg "cards_at" gE)(se:Df K mg "then" uz)(iG:Df K mg "counted" iA)(fu:Df K mg "is_closed" eT)(fZ:Df K mg "spanned" eo)(df:Df K mg "_law_cell_at" eU)(eC:Df K mg "_law_state" fX)(fw:Df K mg "_law_take" iB)(eD:Df K mg "_law_order" eV)(dg:Df K mg "_law_shuffle" bQ)(dh:Df K mg "_law_divisor" dS)(fA:Df K mg "_law_laid" gF)(dC:Df K mg "_law_lowest" dO)(jH:Df K mg "_law_mark" iC)(dW:Df K mg "_law_same" fq)(dD:Df K mg "_law_closed" dP)(di:Df K mg "_law_spanned" dU)(eE:Df K mg "_law_round" fY)(gZ:Df K mg "_law_told" gG)(hp:∀ns:List Int,ns.length<=63->xT [.scr (ns.map .int)]=.ok (.bl true)):iI P w K mg base uQ 8 f fd ["script"] (wX K):=by
 have kO:=xW (P:=P) (w:=w) (base:=base) T  gJ;have gI:=Ja (P:=P) (w:=w) (base:=base) T kO se;have nQ:=zK (P:=P) (w:=w) (base:=base) T  iG;have yr:=vO (P:=P) (w:=w) (base:=base) T gI nQ fu;have C9:=zL (P:=P) (w:=w) (base:=base) T gI fZ;have gK:=o8 (P:=P) (w:=w) (base:=base) T  df;have wa:=sW (P:=P) (w:=w) (base:=base) T gK eC;have bf:=vP (P:=P) (w:=w) (base:=base) T  fw;have b_:=sX (P:=P) (w:=w) (base:=base) T bf eD;have sf:=o9 (P:=P) (w:=w) (base:=base) T bf b_ dg;have gL:=o_ (P:=P) (w:=w) (base:=base) T  dh;have dX:=vQ (P:=P) (w:=w) (base:=base) T  fA;have ic:=rN (P:=P) (w:=w) (base:=base) T gL dC;have fB:=vR (P:=P) (w:=w) (base:=base) T  dW;have tj:=rO (P:=P) (w:=w) (base:=base) T dX ic dD;have sh:=pb (P:=P) (w:=w) (base:=base) T dX di;have wc:=sY (P:=P) (w:=w) (base:=base) T bf b_ eE;have yt:=F6 (P:=P) (w:=w) (base:=base) T XT gI fZ jH gZ;have mH:=F5 (P:=P) (w:=w) (base:=base) T C9 gZ;refine Mn (f:=xT) ?_ hp;refine G0.okD (N:=["script","k","state","many","shuffle","some","found","orders","handed","due"]) (ps:=["script"]) (st:=vI) (k:=7) uy .S F4 FL fI rfl (by decide) ?_;intro f bC A outer s0 H E hr;have hu:=hr.units;have nN:=dQ hr;exact (ah (cZ Xb rfl (dR (af (aZ (BQ rfl) Ep (by rfl) T.ziq D5 (af aB (af (aZ (mJ rfl) qw (by rfl) T.zjq uS (af (aZ f6 iO (by rfl) T.znq gb (af (ak 0) ai)) (af aB ai))) ai))) ai) T.zeq) (aT (i:=1) fI.nd)
 (ah (dk (i:=2) fI.nd (a_ wa (rm hr) (af (ak 0) (af (ak 1) ai))))
 (ah (bo (i:=3) fI.nd (bq bT bU aB (bZ (i:=2) bf (rm hr) (af aB ai))))
 (ah (bo (i:=4) fI.nd (bZ (i:=2) sf (rm hr) (af (ak 3) ai)))
 (ah (MT 6 (cZ Xb rfl (dM (d4 (af (ak 4) (af (cN cO fF (bq Il Ew (ak 4) aB) d8 (dj aB)) (af (bq bT bU (cN cO fF (ak 4) d8 (dj aB)) (cN cO fF (ak 4) d8 (dj aB))) ai))))) (aT (i:=5) fI.nd)
 (ah (bo (i:=6) fI.nd (a_ yr (rm hr) (af (ak 5) ai)))
 (ar (cG (DW.dt (Ai (qk (kz (iP (T:="bool") (by decide) (ak 6) T.zbq T.zfq uR))) (uW (bw pV jW (ak 6) (a_ tj (rm hr) (af (ak 5) ai)) (bz _))))) (ar (bj eI)) bb)))))
 (ah (B_ (i:=7) (aj vI) ["script","k","state","many","shuffle","some","found","orders","handed","due"] ["number","state","many"] [none,some 2,some 3] fI.nd rfl (dR (af (bZ (i:=2) bf (rm hr) (af aB ai)) ai) T.zeq) (λY=>⟨(aT (i:=0) (show (["number","state","many"]:List Str).Nodup by decide+kernel)),c9,(gU dY d_ (d4 (af (bZ (i:=1) b_ (rm hr) (af (ak 2) ai)) (af (bZ (i:=1) wc (rm hr) (af (ak 2) ai)) ai))) (bZ (i:=1) bf (rm hr) (af aB ai)) (λ_ _=>rfl))⟩))
 (ah (bo (i:=8) fI.nd (cz kR w6 (by rfl) T.zgq iJ (af (ak 7) ai)))
 (ah (bo (i:=9) fI.nd (a_ sh (rm hr) (af (ak 3) (af (ak 7) ai))))
 (Nj (ah (dk (i:=6) fI.nd (a_ mH (rm hr) (af (ak 3) (af (ak 8) ai))))
 (ah (cG (MU 6 (DW.dt (Ai (qk (kz (a_ (fB 6) (rm hr) (af (ak 6) (af (ak 9) ai))))) (uW (bw (mS hu) (m_ (f:=not)) (ak 8) (ak 7) (bz _)))))) (ar (bj eI)) bb)
 (ar (cG (bw (mS hu) (m_ (f:=not)) (ak 9) yP (bz _)) (ah (lb (HQ (i:=6) Xx PySem.F.slot_list_clear PySem.F.type_list_clear DR Cg))
 (ar (cG (qk (kz (a_ (fB 6) (rm hr) (af (a_ mH (rm hr) (af (ak 3) (af (ak 8) ai))) (af (ak 9) ai))))) (ar (bj eI)) bb))) bb))))
 (AX 6 (ah (bo (i:=6) fI.nd (a_ yt (rm hr) (af (ak 3) (af (ak 8) ai))))
 (ah (cG (DW.dt (Ai (qk (kz (a_ (fB 6) (rm hr) (af (ak 6) (af (ak 9) ai))))) (uW (bw (mS hu) (m_ (f:=not)) (ak 8) (ak 7) (bz _))))) (ar (bj eI)) bb)
 (ar (cG (bw (mS hu) (m_ (f:=not)) (ak 9) yP (bz _)) Aw bb))))))))))))))
 (ar (bj eI)))
end
inductive sF (K:Wc)(x:Str)(st:aaX):Prop
 |mk {f:Ww} {od an:Option Ww} {sl:Array (Option Wd)} {oc kV dc pm cd ct:Wd}:Xc K WL x=some (some (.ref f))->K.lookup f=some ⟨oc,od,.func (XH x x (dE st) (bH st) (aj st) .none kV dc pm an cd ct),sl⟩->aax K cd x=true->XR K (.ref f)=true->sF K x st
theorem eA (q:sF K x st)(X:K.In h)(G:h.Ns WL mg):Df K mg x st:=by
 obtain⟨a,l,c,k⟩:=q;exact⟨_,_,Yb X G a,DX (st:=st) l c k⟩
theorem all_mk {w:Xt}{fa:Ww}(X:K.In h)(G:h.Ns WL mg)(Vz:mg "law"=some (.ref fa))(q0:sF K "cards_at" gE)(q1:sF K "then" uz)(q2:sF K "counted" iA)(q3:sF K "is_closed" eT)(q4:sF K "spanned" eo)(q5:sF K "_law_cell_at" eU)(q6:sF K "_law_state" fX)(q7:sF K "_law_take" iB)(q8:sF K "_law_order" eV)(q9:sF K "_law_shuffle" bQ)(VA:sF K "_law_divisor" dS)(VB:sF K "_law_laid" gF)(VC:sF K "_law_lowest" dO)(VD:sF K "_law_mark" iC)(VE:sF K "_law_same" fq)(VF:sF K "_law_closed" dP)(VG:sF K "_law_spanned" dU)(VH:sF K "_law_round" fY)(VI:sF K "_law_told" gG)(VJ:sF K "law" vI)(zmq:Xc K WL "abs"=some none)(zkq:Xc K WL "all"=some none)(zfq:Xc K WL "bool"=some none)(zhq:Xc K WL "dict"=some none)(zbq:Xc K WL "isinstance"=some none)(znq:Xc K WL "len"=some none)(zgq:Xc K WL "list"=some none)(ziq:Xc K WL "max"=some none)(zjq:Xc K WL "min"=some none)(zeq:Xc K WL "range"=some none)(zcq:Xc K WL "sorted"=some none)(zdq:Xc K WL "tuple"=some none)(zlq:Xc K WL "zip"=some none){fJ:Tok}(zaq:Xc K WL "MOST_SPANNED"=some (some (.int 120 fJ))){yu:Ww}(su:Xc K WL "NoPlan"=some (some (.ref yu))){BI:Ww}(wd:Xc K WL "NoWay"=some (some (.ref BI))){BJ:Ww}(we:Xc K WL "NoEnd"=some (some (.ref BJ))){oN:Ww}(jI:Xc K WL "NoFormula"=some (some (.ref oN))){bg:Ww}(j4:Xc K WL "TooMany"=some (some (.ref bg))){yv:Ww}(sv:Xc K WL "NoName"=some (some (.ref yv))){uI:Ww}(nR:Xc K WL "BadNote"=some (some (.ref uI))){oO:Ww}(jJ:Xc K WL "CardError"=some (some (.ref oO)))(GW:PySem.W.excIn K bg AF "ValueError.__new__"=true)(N8:YR K (.ref bg) "__getattribute__"=some (some (.builtin "BaseException.__getattribute__")))(N9:YR K (.ref bg) "__getattr__"=some none)(N_:YR K (.ref bg) "__class__"=some (some (.builtin "object.__class__")))(Oa:abL K (.builtin "object.__class__") "__get__"=some (some (.builtin "getset_descriptor.__get__")))(Ob:PySem.W.takesIn K (.builtin "object.__class__")=some true)(JH:PySem.W.mroIn K bg (.type "object")=some true)(Oc:PySem.W.mroIn K bg (.type "BaseException")=some true)(z9:PySem.W.exmOne K (.ref bg) (.ref oO)=some true)(Od:X5 K (.ref bg) (.type "ValueError")=some true)(GX:Xc K WL "ValueError"=some none)(sC:X5 K (.ref bg) (.ref yu)=some false)(wg:X5 K (.ref bg) (.ref BI)=some false)(wj:X5 K (.ref bg) (.ref BJ)=some false)(jK:X5 K (.ref bg) (.ref oN)=some false)(nS:X5 K (.ref bg) (.ref bg)=some true)(sD:X5 K (.ref bg) (.ref yv)=some false)(nU:X5 K (.ref bg) (.ref uI)=some false)(hp:∀ns:List Int,ns.length<=63->xT [.scr (ns.map .int)]=.ok (.bl true))
  : ∃fd:Zu,(∀(s:Wr) (v:Wd),BindsTo s fd ⟨[v],[]⟩ [("script",v)])/\∀base:Y5,K.In base->base.Ns WL mg->iI PySem.Challenge.pw_hushcards_k14_closed_and_spanned w K mg base uQ 8 fa fd ["script"] (wX K):=by
 obtain @⟨f_,od_,an19,sl_,oc_,kV19,dc19,pm19,cd19,ct19,a19,l19,c19,k19⟩:=VJ;have e:=Vz.symm.trans (Yb X G a19);cases e;have T:rM mg:=⟨Xd X G zmq,Xd X G zkq,Xd X G zfq,Xd X G zhq,Xd X G zbq,Xd X G znq,Xd X G zgq,Xd X G ziq,Xd X G zjq,Xd X G zeq,Xd X G zcq,Xd X G zdq,Xd X G zlq,⟨_,Yb X G zaq⟩⟩;have gJ:=eA q0 X G;have se:=eA q1 X G;have iG:=eA q2 X G;have fu:=eA q3 X G;have fZ:=eA q4 X G;have df:=eA q5 X G;have eC:=eA q6 X G;have fw:=eA q7 X G;have eD:=eA q8 X G;have dg:=eA q9 X G;have dh:=eA VA X G;have fA:=eA VB X G;have dC:=eA VC X G;have jH:=eA VD X G;have dW:=eA VE X G;have dD:=eA VF X G;have di:=eA VG X G;have eE:=eA VH X G;have gZ:=eA VI X G;have FL:=DX (st:=vI) l19 c19 k19;refine⟨XH "law" "law" (dE vI) (bH vI) (aj vI) .none kV19 dc19 pm19 an19 cd19 ct19,λs v=>.of_eq rfl,λbase _ _=>?_⟩;have XT:EI K mg bg "TooMany" MS:=⟨Yb X G j4,GW,⟨MK JH,N8,N9,N_,Oa,Ob,JH,Oc⟩,⟨_,Yb X G jJ,z9⟩,Od,Xd X G GX,by
  intro p hp;simp only[MS,Wn,aaM,or_false] at hp;rcases hp with rfl|rfl|rfl|rfl|rfl|rfl|rfl
  ·exact⟨_,Yb X G su,sC⟩
  ·exact⟨_,Yb X G wd,wg⟩
  ·exact⟨_,Yb X G we,wj⟩
  ·exact⟨_,Yb X G jI,jK⟩
  ·exact⟨_,Yb X G j4,nS⟩
  ·exact⟨_,Yb X G sv,sD⟩
  ·exact⟨_,Yb X G nR,nU⟩⟩
 exact Nm (P:=PySem.Challenge.pw_hushcards_k14_closed_and_spanned) (w:=w) (base:=base) T XT FL gJ se iG fu fZ df eC fw eD dg dh fA dC jH dW dD di eE gZ hp
end Hc
namespace Hc
open L2
end Hc
namespace Hc
open L2
theorem K0 {f:Bool->Bool}{u w:U}:iz f u w=(Nh u w).bind λb=>.ok (.bl (f b)):=nr rfl
theorem cL {a b:Int}:Nh (.int a) (.int b)=.ok (a==b):=nr rfl
theorem kM {a b:Bool}:Nh (.bl a) (.bl b)=.ok (a==b):=nr rfl
theorem vS {a b:Str}:Nh (.str a) (.str b)=.ok (a==b):=nr rfl
theorem cf:type_of% @V_.{0,0}/\type_of% @Ym.{0,0}/\type_of% @Wl.{0}/\type_of% @Z9.{0}/\type_of% @ZP.{0}/\type_of% @X7.{0}/\type_of% @YC.{0}/\type_of% @List.replicate_zero.{0}/\type_of% @List.getElem?_cons_zero.{0}/\type_of% @X8.{0}/\type_of% @W7.{0}/\type_of% @Xk.{0}/\type_of% @Option.getD_some.{0}/\type_of% @aaI.{0}/\type_of% @if_true.{1}/\type_of% @if_false.{1}/\type_of% @Xj/\type_of% @J7/\type_of% @Xo/\type_of% @XZ/\type_of% @K0/\type_of% @cL/\type_of% @kM/\type_of% @vS:=
 ⟨@V_.{0,0},@Ym.{0,0},@Wl.{0},@Z9.{0},@ZP.{0},@X7.{0},@YC.{0},@List.replicate_zero.{0},@List.getElem?_cons_zero.{0},@X8.{0},@W7.{0},@Xk.{0},@Option.getD_some.{0},@aaI.{0},@if_true.{1},@if_false.{1},@Xj,@J7,@Xo,@XZ,@K0,@cL,@kM,@vS⟩
end Hc
namespace Hc.Cn
open L2 Hc.Ts
noncomputable abbrev Rw:=List Int
noncomputable abbrev Dc:=List (Rw×Int)
noncomputable def nF (d:Dc)(k:Rw):Int:=((d.find? λp=>decide (p.1=k)).map (·.2)).getD 0
noncomputable def j9 (d:Dc)(k:Rw)(v:Int):Dc:=if k∈d.map (·.1) then d.map (λp=>if p.1=k then (p.1,v) else p) else d++[(k,v)]
noncomputable def nG (d:Dc)(k:Rw)(w:Int):Dc:=j9 d k (nF d k+w)
noncomputable def nH (d:Dc)(f:Rw->Int):Int:=(d.map λp=>p.2*f p.1).sum
def Nd (d:Dc):Prop:=(d.map (·.1)).Nodup
def Ps (d:Dc):Prop:=∀p∈d,1<=p.2
theorem iD (p:Rw×Int)(d:Dc)(k:Rw):nF (p::d) k=if p.1=k then p.2 else nF d k:=by
 unfold nF;rw[XU];by_cases c:p.1=k
 ·rw[hG c,hZ c];rfl
 ·rw[hJ c,hV c]
theorem ml:∀{d:Dc} {k:Rw},k∉d.map (·.1)->nF d k=0
 | [],_,_=>rfl
 |p::d,k,h=>by
  rw[V_,Wn,not_or] at h;rw[iD,hV (λe=>h.1 e.symm),ml h.2]
theorem mq:∀{d:Dc} {p:Rw×Int},Nd d->p∈d->nF d p.1=p.2
 |q::d,p,n,h=>by
  unfold Nd at n;rw[V_,Y0] at n;rw[iD];rcases Wn.mp h with rfl|h
  ·rw[hZ rfl]
  ·have:q.1≠p.1:=λe=>n.1 (e▸W8 h);rw[hV this];exact mq n.2 h
theorem C0 {d:Dc}{k:Rw}(h:k∈d.map (·.1)):(k,nF d k)∈d:=by
 induction d with
 |nil=>cases h
 |cons q d ih=>
  rw[iD];by_cases c:q.1=k
  ·rw[hZ c,←c];exact Wi
  ·rw[hV c];rw[V_,Wn] at h;rcases h with h|h
   ·exact absurd h.symm c
   ·exact Wh _ (ih h)
theorem rQ (d:Dc)(k:Rw)(v:Int):(j9 d k v).map (·.1)=if k∈d.map (·.1) then d.map (·.1) else d.map (·.1)++[k]:=by
 unfold j9;split
 ·rw[WG];apply Xm;intro p _;show (if p.1=k then (p.1,v) else p).1=p.1;split<;>rfl
 ·rw[WH];rfl
theorem Nn {d:Dc}(k:Rw)(v:Int)(h:Nd d):Nd (j9 d k v):=by
 unfold Nd at h ⊢;rw[rQ];split
 ·exact h
 ·rename_i c;exact aas.mpr ⟨h,by simp,λa ha b hb=>by
   rw[WK] at hb;subst hb;exact λe=>c (e▸ha)⟩
theorem Np {d:Dc}{k:Rw}{v:Int}(h:Ps d)(hv:1<=v):Ps (j9 d k v):=by
 unfold j9;intro p hp;split at hp
 ·obtain⟨q,hq,rfl⟩:=WY.mp hp;split
  ·exact hv
  ·exact h q hq
 ·rcases WE.mp hp with hp|hp
  ·exact h p hp
  ·rw[WK] at hp;subst hp;exact hv
theorem xX {d:Dc}(h:Ps d)(k:Rw):0<=nF d k:=by
 by_cases c:k∈d.map (·.1)
 ·have:=h _ (C0 c);lia
 ·rw[ml c];exact aa_ _
theorem sum_append (a b:List Int):(a++b).sum=a.sum+b.sum:=List.sum_append
theorem xY:∀{d:Dc} {k:Rw} {v:Int} (f:Rw->Int),Nd d->k∈d.map (·.1)->nH (d.map λp=>if p.1=k then (p.1,v) else p) f=nH d f+(v-nF d k)*f k
 |q::d,k,v,f,n,h=>by
  unfold Nd at n;rw[V_,Y0] at n;unfold nH;rw[V_,V_,V_,ZC,ZC,iD];by_cases c:q.1=k
  ·rw[hZ c,hZ c];have e:(d.map λp=>if p.1=k then (p.1,v) else p)=d:=by
    conv=>rhs;rw[←List.map_id d]
    apply Xm;intro p hp;rw[hV (λz=>n.1 (by rw[c,←z];exact W8 hp))];rfl
   rw[e,c];show v*f k+_=q.2*f k+_+(v-q.2)*f k;rw[Int.sub_mul];lia
  ·rw[hV c,hV c];have h':k∈d.map (·.1):=by
    rw[V_,Wn] at h;rcases h with h|h
    ·exact absurd h.symm c
    ·exact h
   have:=xY (v:=v) f n.2 h';unfold nH at this;rw[this];lia
theorem F7 {d:Dc}(k:Rw)(w:Int)(f:Rw->Int)(n:Nd d):nH (nG d k w) f=nH d f+w*f k:=by
 unfold nG j9;split
 ·rename_i c;rw[xY f n c];congr 2;lia
 ·rename_i c;unfold nH;rw[WH,sum_append,ml c];simp
noncomputable def du (d:Dc)(ws:List (Rw×Int)):Dc:=ws.foldl (λd p=>nG d p.1 p.2) d
theorem uB:∀(ws:List (Rw×Int)) {d:Dc},Nd d->Ps d->(∀p∈ws,1<=p.2)->Nd (du d ws)/\Ps (du d ws)/\∀f,nH (du d ws) f=nH d f+(ws.map λp=>p.2*f p.1).sum
 | [],d,n,p,_=>⟨n,p,λf=>by show nH d f=_;simp⟩
 |q::ws,d,n,p,h=>by
  have n1:Nd (nG d q.1 q.2):=Nn _ _ n;have p1:Ps (nG d q.1 q.2):=Np p (by have:=xX p q.1;have:=h q Wi;lia);obtain⟨a,b,c⟩:=uB ws n1 p1 λx hx=>h x (Wh _ hx);refine⟨a,b,λf=>?_⟩;show nH (du (nG d q.1 q.2) ws) f=_;rw[c f,F7 _ _ _ n,V_,ZC];lia
noncomputable def i6 (d:Dc):Nat:=(d.map λp=>p.2.toNat).foldl aav 0
noncomputable def i8 (d:Dc):Dc:=d.map λp=>(p.1,p.2 / (i6 d:Int))
noncomputable def zM (d:Dc):Int:=(d.map (·.2)).sum
theorem sZ {a b:List Rw}(p:a.Perm b):l0 a=l0 b:=vD (((gu a).trans p).trans (gu b).symm) (l4 a) (l4 b)
theorem Bh {d:Dc}(n:Nd d):Nd (i8 d):=by
 unfold Nd i8 at *;rw[WG];exact n
noncomputable def jD (l:List Rw):Dc:=du [] (l.map λx=>(x,1))
theorem F8:Nd []/\Ps []:=⟨YV,λp hp=>by cases hp⟩
theorem F9 (l:List Rw):Nd (jD l)/\Ps (jD l)/\∀f,nH (jD l) f=(l.map f).sum:=by
 obtain⟨a,b,c⟩:=uB (l.map λx=>(x,(1:Int))) F8.1 F8.2 λp hp=>by
  obtain⟨x,_,rfl⟩:=WY.mp hp;exact aa_ _
 refine⟨a,b,λf=>?_⟩;have:=c f;rw[WG] at this;unfold jD;rw[this];show (0:Int)+_=_;rw[Int.zero_add];congr 1;apply Xm;intro x _;show 1*f x=f x;lia
theorem Jb (l:List Rw):zM (jD l)=l.length:=by
 obtain⟨n,p,s⟩:=F9 l;have:=s λ_=>1;unfold nH at this;unfold zM;have e:((jD l).map λp=>p.2*1)=(jD l).map (·.2):=by
  apply Xm;intro p _;lia
 rw[e] at this;rw[this];clear this e s p n
 induction l with
 |nil=>rfl
 |cons x l ih=>rw[V_,ZC,ih,Wl];lia
theorem Nq {l:List Int}(h:∀x∈l,0<=x):∀x∈l,x<=l.sum:=by
 induction l with
 |nil=>intro x hx;cases hx
 |cons y l ih=>
  intro x hx;have hl:0<=l.sum:=by
   clear ih hx
   induction l with
   |nil=>exact aa_ _
   |cons z l ih2=>
    rw[ZC];have:=ih2 λw hw=>h w (by rcases Wn.mp hw with e|e;exact e▸Wi;exact Wh _ (Wh _ e));have:=h z (Wh _ Wi);lia
  rw[ZC];rcases Wn.mp hx with rfl|hx
  ·lia
  ·have:=ih (λw hw=>h w (Wh _ hw)) x hx;have:=h y Wi;lia
theorem Nr {d:Dc}(p:Ps d):∀q∈d,q.2<=zM d:=λq hq=>Nq (λx hx=>by
 obtain⟨r,hr,rfl⟩:=WY.mp hx;have:=p r hr;lia) q.2 (W8 hq)
theorem rR:∀{d:Dc},Ps d->(d.length:Int)<=zM d
 | [],_=>aa_ _
 |q::d,p=>by
  have:=rR (d:=d) λr hr=>p r (Wh _ hr);have:=p q Wi;unfold zM at *;rw[Wl,V_,ZC];lia
end Hc.Cn
variable {d:Hc.Cn.Dc}{S ss F:List Hc.Cn.Rw}
namespace Hc
open L2
open Hc.Cn Hc.Ts
theorem NS:(0:Nat)<=Wa/\(1:Nat)<=Wa/\(2:Nat)<=Wa/\(3:Nat)<=Wa/\(4:Nat)<=Wa/\(5:Nat)<=Wa/\(6:Nat)<=Wa/\(10:Nat)<=Wa/\(16:Nat)<=Wa/\(18:Nat)<=Wa/\(22:Nat)<=Wa:=by decide
theorem Pzz:type_of% @aw∧type_of% @cf∧type_of% @NS:=⟨@aw,@cf,@NS⟩
noncomputable def DU (d:Dc):U:=.dct (d.map λp=>ag p.1) (d.map λp=>.int p.2)
noncomputable def jh (d:Dc):List U:=d.map λp=>ag p.1
noncomputable def xZ (d:Dc):List U:=d.map λp=>U.int p.2
theorem Bi:∀{a b:List Int},a.map U.int=b.map U.int->a=b
 | [],[],_=>rfl
 | [],_::_,h=>by cases h
 |_::_,[],h=>by cases h
 |x::a,y::b,h=>by
  rw[V_,V_] at h;injection h with h1 h2
  cases h1;rw[Bi h2]
theorem iE {a b:List Int}:ag a=ag b↔a=b:=by
 constructor
 ·intro h;unfold ag at h;injection h with h
  exact Bi h
 ·intro h;rw[h]
theorem rS {k:List Int}:ag k∈jh d↔k∈d.map (·.1):=by
 unfold jh;constructor
 ·intro h;obtain⟨p,hp,e⟩:=WY.mp h;rw[←iE.mp e];exact W8 hp
 ·intro h;obtain⟨p,hp,rfl⟩:=WY.mp h;exact W8 hp
theorem F_ (d:Dc)(k:List Int)(v:Int):fM (jh d) (ag k)=jh (j9 d k v):=by
 unfold fM;have e:jh (j9 d k v)=((j9 d k v).map (·.1)).map ag:=by unfold jh;rw[WG];rfl
 rw[e,rQ];by_cases c:k∈d.map (·.1)
 ·rw[hZ (rS.mpr c),hZ c];unfold jh;rw[WG];rfl
 ·rw[hV (λz=>c (rS.mp z)),hV c,WH];unfold jh;rw[WG];rfl
theorem Ga (k:List Int)(v:Int):∀d:Dc,Zo (λa u=>if a=ag k then U.int v else u) (jh d) (xZ d)=xZ (d.map λp=>if p.1=k then (p.1,v) else p)
 | []=>rfl
 |p::d=>by
  have ih:=Ga k v d;unfold jh xZ at ih ⊢;rw[V_,V_,V_,V_,Zc,ih];congr 1;by_cases c:p.1=k
  ·rw[hZ (iE.mpr c),hZ c]
  ·rw[hV (λz=>c (iE.mp z)),hV c]
theorem Gb (d:Dc)(k:List Int)(v:Int):ed (jh d) (xZ d) (ag k) (.int v)=xZ (j9 d k v):=by
 unfold ed j9;by_cases c:k∈d.map (·.1)
 ·rw[hZ (rS.mpr c),hZ c,Ga]
 ·rw[hV (λz=>c (rS.mp z)),hV c];unfold xZ;rw[WH];rfl
theorem vT (k:List Int):∀d:Dc,eN (jh d) (xZ d) (ag k)=if k∈d.map (·.1) then some (.int (nF d k)) else none
 | []=>rfl
 |p::d=>by
  have ih:=vT k d;unfold jh xZ at ih ⊢;rw[V_,V_];unfold eN;rw[ih,iD];by_cases c:p.1=k
  ·rw[hZ (iE.mpr c),hZ (by rw[V_,c];exact Wi),hZ c]
  ·rw[hV (λz=>c (iE.mp z)),hV c];by_cases c2:k∈d.map (·.1)
   ·rw[hZ c2,hZ (by rw[V_];exact Wh _ c2)]
   ·rw[hV c2,hV (by rw[V_,Wn,not_or];exact⟨λz=>c z.symm,c2⟩)]
theorem x_:∀l:List Int,xg (l.map U.int)=true
 | []=>rfl
 |x::l=>by rw[V_];unfold xg;rw[x_ l];rfl
theorem ya:∀l:List Int,sN (l.map U.int)=0
 | []=>rfl
 |x::l=>by rw[V_];unfold sN;rw[ya l];rfl
theorem rT (k:List Int):xh (ag k)=true:=by
 show (xg (k.map U.int)&&decide (sN (k.map U.int)<=6))=true;rw[x_,ya];rfl
theorem Qc (d:Dc):(jh d).all Ij=true:=WT.mpr λu hu=>by
 obtain⟨p,_,rfl⟩:=WY.mp hu;rfl
theorem Qd (d:Dc):(jh d).all P5=true:=WT.mpr λu hu=>by
 obtain⟨p,_,rfl⟩:=WY.mp hu;rfl
theorem mv (d:Dc)(k:List Int):jb (jh d) (ag k)=true:=by
 unfold jb;rw[rT,Qc];exact Bool.or_true _
theorem vU (h:d≠[]):ug (jh d)=true:=by
 unfold ug;rw[Qd];cases d with
 |nil=>exact absurd rfl h
 |cons=>rfl
noncomputable def Nt (i:Nat)(v k:U)(ρ:Ev)(o:Option (Option U)):SR:=match o with
 |some (some (.dct ks us))=>if jb ks k=true/\us.length<Wa then .nx (ρ.set i (some (.dct (fM ks k) (ed ks us k v)))) else .stk
 |_=>.stk
theorem rV {gv gk:Ev->R (U×Ev)}:iR i gv gk ρ=SR.of (gv ρ) λx=>if AJ x.2[i]? = true then SR.of (gk x.2) λy=>Nt i x.1 y.1 y.2 y.2[i]? else .stk:=nr rfl
theorem Bj (h:d.length<1000000){v:Int}{k:List Int}:Nt i (.int v) (ag k) ρ (some (some (DU d)))=.nx (ρ.set i (some (DU (j9 d k v)))):=by
 have sz:Wa=16777216:=rfl;have:Nt i (.int v) (ag k) ρ (some (some (DU d)))=.nx (ρ.set i (some (.dct (fM (jh d) (ag k)) (ed (jh d) (xZ d) (ag k) (.int v))))):=hZ ⟨mv d k,by show (xZ d).length<_;unfold xZ;rw[V6,sz];lia⟩;rw[this,F_ d k v,Gb];rfl
noncomputable def SE (k x:U)(ρ:Ev)(o:Option (Option U)):R (U×Ev):=match o with
 |some (some (.dct ks us))=>if jb ks k=true then .ok ((eN ks us k).getD x,ρ) else .stk
 |_=>.stk
noncomputable def T5 (i:Nat)(g2 g3:Ev->R (U×Ev))(ρ:Ev)(o:Option (Option U)):R (U×Ev):=match o with
 |some (some (.dct _ _))=>(g2 ρ).bind λk=>(g3 k.2).bind λx=>SE k.1 x.1 x.2 x.2[i]?
 |_=>.stk
theorem Bk {g2 g3:Ev->R (U×Ev)}:jx i g2 g3 ρ=T5 i g2 g3 ρ ρ[i]? := nr rfl
theorem Bl {g2 g3:Ev->R (U×Ev)}:T5 i g2 g3 ρ (some (some (DU d)))=(g2 ρ).bind λk=>(g3 k.2).bind λx=>SE k.1 x.1 x.2 x.2[i]? := nr rfl
theorem Bm {k:List Int}:SE (ag k) (.int 0) ρ (some (some (DU d)))=.ok (.int (nF d k),ρ):=by
 refine (hZ (mv d k)).trans ?_;rw[show eN (d.map λp=>ag p.1) (d.map λp=>.int p.2) (ag k)=_ from vT k d];split
 ·rfl
 ·rename_i c;rw[ml c];rfl
theorem zN (ws:List (List Int×Int)):(du [] ws).length<=ws.length:=by
 have:∀(ws:List (List Int×Int)) (d:Dc),(du d ws).length<=d.length+ws.length:=by
  intro ws
  induction ws with
  |nil=>intro d;exact Wf _
  |cons p ws ih=>
   intro d;have h1:=ih (nG d p.1 p.2);have h2:(nG d p.1 p.2).length<=d.length+1:=by
    unfold nG j9;split
    ·rw[V6];lia
    ·rw[V9,Xu];exact Wf _
   rw[Wl];show (du (nG d p.1 p.2) ws).length<=_;lia
 have:=this ws [];simpa using this
theorem yb (d:Dc)(ws:List (List Int×Int))(p:List Int×Int):du d (ws++[p])=nG (du d ws) p.1 p.2:=by
 unfold du;rw[abU];rfl
noncomputable def SU (ss:List (List Int)):U:=.tup (ss.map ag)
theorem yc {s:Nat}{x:U}(ss:List (List Int))(hl:ss.length<100000)(mk:Dc->Option U->Ev)(step:∀(d:Dc) (o:Option U) (k:List Int),d.length<1000000->∃ρ1,cE j (ag k) (mk d o)=.ok ρ1/\iR i (aW bV (jx i (aa j) (gC (.int 0))) (gC (.int 1))) (aa j) ρ1=.nx (mk (j9 d k (nF d k+1)) (some (ag k))))(o:Option U) :
  ∃o',cV (cE j) (iR i (aW bV (jx i (aa j) (gC (.int 0))) (gC (.int 1))) (aa j)) (ss.map ag) (mk [] o)=.nx (mk (jD ss) o'):=by
 obtain⟨ρ',e1,o',e2⟩:=eQ (us:=ss.map ag) (sg:=cE j) (s:=iR i (aW bV (jx i (aa j) (gC (.int 0))) (gC (.int 1))) (aa j))
  (λn ρ=>∃o,ρ=mk (du [] ((ss.take n).map λx=>(x,1))) o)
  (λn u ρ hu h00=>by
   obtain⟨o,hr⟩:=h00;subst hr;have hn:n<ss.length:=by have:=(We.mp hu).1;rwa [V6] at this
   rw[Wu,V4 hn] at hu;obtain rfl:ag ss[n]=u:=by injection hu
   obtain⟨ρ1,a,b⟩:=step (du [] ((ss.take n).map λx=>(x,1))) o ss[n] (Nat.lt_of_le_of_lt (zN _) (by rw[V6,Wx];lia));refine⟨ρ1,_,a,.inl b,some (ag ss[n]),?_⟩;rw[XD hn,WH];show _=mk (du [] (_++[(ss[n],1)])) _;rw[yb];rfl)
  (ρ:=mk [] o) ⟨o,rfl⟩
 refine⟨o',?_⟩;rw[e1,e2,V6,YK];rfl
theorem zO {x:U}{ss:List (List Int)}(hx:vg x=λρ=>.ok (ss.map ag,ρ))(hl:ss.length<100000):eR [x]=.ok (DU (jD ss)):=by
 obtain⟨o',e⟩:=yc (s:=0) (x:=x) (i:=1) (j:=2) ss hl (λd o=>[some x,some (DU d),o]) (λd o k hd=>⟨[some x,some (DU d),some (ag k)],rfl,by
  simp only[Pzz,bJ,Nat.reduceAdd,Nat.reduceSub,rV,Bk,Bl,Bm,Bj hd]⟩) none
 have e0:DU []=.dct [] []:=rfl;rw[e0] at e;unfold eR nE;simp only[Pzz,bJ,Nat.reduceAdd,Nat.reduceSub,hx,e]
theorem Ge {a b:Int}(h0:0<=a)(h1:0<b):(aav b.toNat (a % b).toNat)=aav a.toNat b.toNat:=by
 obtain⟨n,rfl⟩:∃n:Nat,a=n:=⟨a.toNat,(by lia)⟩;obtain⟨m,rfl⟩:∃m:Nat,b=m:=⟨b.toNat,(by lia)⟩;have e:((n:Int) % (m:Int)).toNat=n % m:=by rw[←Int.natCast_emod];rfl
 rw[e,Xs,Xs,Nat.gcd_comm m (n % m),←Nat.gcd_rec,Nat.gcd_comm]
theorem K1 {i:Int}(h:0<=i):Ca [.int i]=.ok (.int i):=by
 have e:Ca [.int i]=.ok (.int (if i<0 then -i else i)):=nr rfl;rw[e,hV (by lia)]
theorem Bn:∀(n:Nat) (a b:Int),0<=a->0<=b->b<n->bG (gB (aW G1 (aa 1) (gC (.int 0)))) (HW 0 1 (ae (aa 1) (ae (aW oV (aa 0) (aa 1)) aq))) n [some (.int a),some (.int b)]=.nx [some (.int (aav a.toNat b.toNat)),some (.int 0)]
 |0,a,b,h0,h1,h2=>by lia
 |n+1,a,b,h0,h1,h2=>by
  by_cases c:b=0
  ·subst c;have:((aav a.toNat (0:Int).toNat:Nat):Int)=a:=by rw[show (0:Int).toNat=0 from rfl,Nat.gcd_zero_right];lia
   rw[this];simp only[Pzz,bJ,Nat.reduceAdd,Nat.reduceSub,Int.reduceLT,decide_false,fP]
  ·have hb:0<b:=(by lia)
   have e:=Bn n b (a % b) h1 (Zt _ c) (by have:=YQ a hb;lia);rw[Ge h0 hb] at e;simp only[Pzz,bJ,Nat.reduceAdd,Nat.reduceSub,fP,hG hb,e]
theorem Qe {a b:Int}(h0:0<=a)(h1:0<=b)(h2:b<1000):cB [.int a,.int b]=.ok (.int (aav a.toNat b.toNat)):=by
 have e:=Bn 1000 a b h0 h1 h2;unfold cB gz;simp only[Pzz,bJ,Nat.reduceAdd,Nat.reduceSub,K1 h0,K1 h1,e]
noncomputable def VS (u:U)(ρ:Ev):R (List U×Ev):=match u with
 | .dct ks us=>if ug ks=true then .ok (us,ρ) else .stk
 |_=>.stk
noncomputable def SF (u:U)(ρ:Ev):R (List U×Ev):=match u with
 | .dct ks _=>if ug ks=true then .ok (ks,ρ) else .stk
 |_=>.stk
theorem yd {g:Ev->R (U×Ev)}:IB g ρ=(g ρ).bind λx=>SF x.1 x.2:=nr rfl
theorem mw (h:d≠[]):SF (DU d) ρ=.ok (d.map λp=>ag p.1,ρ):=hZ (vU h)
noncomputable def Gf (p:List Int×Int):U:=.tup [ag p.1,.int p.2]
noncomputable def Rg (i:Nat):SR->SR
 | .nx ρ'=>.nx (ρ'.set i none)
 | .bk ρ'=>.bk (ρ'.set i none)
 | .ct ρ'=>.ct (ρ'.set i none)
 | .rt u ρ'=>.rt u (ρ'.set i none)
 |r=>r
theorem Gg {g:Ev->SR}:nv i g ρ=Rg i (g ρ):=nr (by unfold nv Rg;cases g ρ<;>rfl)
theorem Nu:Rg i (.rt u ρ)=.rt u (ρ.set i none):=nr rfl
theorem Gh {k:List Int}(h:k∈d.map (·.1)):oW (DU d) (ag k)=.ok (.int (nF d k)):=by
 have e:oW (DU d) (ag k)=if jb (jh d) (ag k)=true then (match eN (jh d) (xZ d) (ag k) with
  |some z=>.ok z
  |none=>.stk) else .stk:=rfl
 rw[e,hZ (mv d k),vT,hZ h]
theorem UH {a b:U}:wR 2 (jr (cE i) (jr (cE j) wQ)) (.tup [a,b]) ρ=.ok ((ρ.set i (some a)).set j (some b)):=nr rfl
structure Sm (d:Dc):Prop where
 ne:d≠[]
 nd:Nd d
 ps:Ps d
 le:∀p∈d,p.2<1000
 ln:d.length<1000
noncomputable def zP (d:Dc)(n:Nat):Nat:=((d.take n).map λp=>p.2.toNat).foldl aav 0
theorem C1 (h:n<d.length):zP d (n+1)=aav (zP d n) d[n].2.toNat:=by
 unfold zP;rw[XD h,WH,abU];rfl
theorem Gi (d:Dc):zP d d.length=i6 d:=by unfold zP i6;rw[YK]
theorem kj:∀(l:List Nat) (g:Nat),0<g->0<l.foldl aav g
 | [],g,h=>h
 |x::l,g,h=>kj l _ (Nat.gcd_pos_of_pos_left _ h)
theorem ye (h:Sm d):0<i6 d:=by
 have h1:=h.ne;have h2:=h.ps;cases d with
 |nil=>exact absurd rfl h1
 |cons p d=>
  unfold i6;rw[V_,Ya,abX];have:=h2 p Wi;exact kj _ _ (by lia)
theorem mx:∀(l:List Nat) (g:Nat),0<g->l.foldl aav g<=g
 | [],g,h=>Wf _
 |x::l,g,h=>WD (mx l _ (Nat.gcd_pos_of_pos_left _ h)) (Nat.gcd_le_left _ h)
theorem Jc (h:Sm d):i6 d<1000:=by
 have h1:=h.ne;have h2:=h.ps;have h3:=h.le;cases d with
 |nil=>exact absurd rfl h1
 |cons p d=>
  unfold i6;rw[V_,Ya,abX];have a:=h2 p Wi;have b:=h3 p Wi;have:=mx (d.map λp=>p.2.toNat) p.2.toNat (by lia);lia
theorem Jd {v:Int}(h:0<g)(h2:g<1000):nZ (.int v) (.int g)=.ok (.int (v / g)):=by
 rw[zh,hZ];unfold wZ;rw[Wt,decide_eq_true_eq,decide_eq_true_eq];lia
theorem uC (d:Dc):(i8 d).length=d.length:=by unfold i8;rw[V6]
theorem ft {α:Type}{f:U->R (Option U)}{c g:α->U}:∀{xs:List α},(∀x∈xs,f (c x)=.ok (some (g x)))->wu f (xs.map c)=.ok (xs.map g)
 | [],_=>rfl
 |x::xs,h=>by
  rw[V_,V_];unfold wu;rw[h x Wi];show (wu f (xs.map c)).bind _=_;rw[ft λy hy=>h y (Wh _ hy)];rfl
theorem Je {k:List Int}(v:Int)(h:k∉d.map (·.1)):j9 d k v=d++[(k,v)]:=hV h
theorem yf:∀(rest done:Dc),Nd (done++rest)->sQ (jh done) (xZ done) (rest.map Gf)=some (jh (done++rest),xZ (done++rest))
 | [],done,_=>by rw[WN];rfl
 |p::rest,done,n=>by
  rw[V_];show (if xh (ag p.1)=true then sQ (fM (jh done) (ag p.1)) (ed (jh done) (xZ done) (ag p.1) (.int p.2)) (rest.map Gf) else none)=_;have c:p.1∉done.map (·.1):=by
   unfold Nd at n;rw[WH,V_] at n;exact λz=>(aas.mp n).2.2 _ z _ Wi rfl
  have e:done++p::rest=(done++[(p.1,p.2)])++rest:=by rw[Wz];rfl
  rw[hZ (rT p.1),F_ done p.1 p.2,Gb,Je _ c,yf rest _ (by rw[←e];exact n),←e]
theorem zQ (h:d≠[])(n:Nd d)(l:d.length<1000):rn [.lst (d.map Gf)]=.ok (DU d):=by
 have e:rn [.lst (d.map Gf)]=if (d.map Gf).isEmpty=false/\(d.map Gf).length<=1000000 then (match sQ [] [] (d.map Gf) with
  |some (ks,us)=>.ok (.dct ks us)
  |none=>.stk) else .stk:=rfl
 rw[e,hZ ⟨by cases d with
  |nil=>exact absurd rfl h
  |cons=>rfl,by rw[V6];lia⟩]
 have:=yf d [] n;rw[show sQ [] [] (d.map Gf)=sQ (jh []) (xZ []) (d.map Gf) from rfl,this];rfl
theorem C2 {x:U}{ss:List (List Int)}(hx:vg x=λρ=>.ok (ss.map ag,ρ))(hl:ss.length<100000)(h:Sm (jD ss)):cq [x]=.ok (DU (i8 (jD ss))):=by
 have ln:=h.ln;obtain⟨o',e⟩:=yc (s:=0) (x:=x) (i:=1) (j:=2) ss hl (λd o=>[some x,some (DU d),o,none]) (λd o k hd=>⟨[some x,some (DU d),some (ag k),none],rfl,by
  simp only[Pzz,bJ,Nat.reduceAdd,Nat.reduceSub,rV,Bk,Bl,Bm,Bj hd]⟩) none
 have e0:DU []=.dct [] []:=rfl;rw[e0] at e;generalize jD ss=d at h e ln;obtain⟨ρ1,e1,o1,r1⟩:=eQ (us:=d.map λp=>ag p.1) (sg:=cE 2) (s:=aX 3 (ip 2 cB (ae (aa 3) (ae (aW oW (aa 1) (aa 2)) aq))))
  (λn ρ=>∃o,ρ=[some x,some (DU d),o,some (.int (zP d n))])
  (λn u ρ hu h00=>by
   obtain⟨o,hr⟩:=h00;subst hr;have hn:n<d.length:=by have:=(We.mp hu).1;rwa [V6] at this
   rw[Wu,V4 hn] at hu;obtain rfl:ag d[n].1=u:=by injection hu
   have a1:=h.ps d[n] (WU hn);have a2:=h.le d[n] (WU hn);have a3:=mq h.nd (WU hn);refine⟨_,_,rfl,.inl ?_,some (ag d[n].1),rfl⟩;have e:=Qe (a:=(zP d n:Int)) (b:=d[n].2) (by lia) (by lia) a2;rw[Xs,←C1 hn] at e;simp only[Pzz,bJ,Nat.reduceAdd,Nat.reduceSub,Gh (W8 (WU hn)),a3,e])
  (ρ:=[some x,some (DU d),o',some (.int 0)]) ⟨o',rfl⟩
 subst r1;rw[V6,Gi] at e1;have e2:=ft (f:=yT [none,some 3,some 1] (cE 0) d9 (i7 (ae (aa 0) (ae (aW nZ (aW oW (aa 2) (aa 0)) (aa 1)) aq))) [some x,some (DU d),o1,some (.int (i6 d))]) (c:=λp=>ag p.1) (g:=λp=>.tup [ag p.1,.int (p.2 / (i6 d:Int))]) (xs:=d) λp hp=>by
  have sz:(2:Nat)<=Wa:=by decide
  simp only[Pzz,bJ,Nat.reduceAdd,Nat.reduceSub,Gh (W8 hp),mq h.nd hp,Jd (ye h) (Jc h),sz]
 have e3:(d.map λp=>U.tup [ag p.1,.int (p.2 / (i6 d:Int))])=(i8 d).map Gf:=by unfold i8;rw[WG];rfl
 rw[e3] at e2;have ne:i8 d≠[]:=λz=>h.ne (YF.mp z);have e4:=zQ ne (Bh h.nd) (by rw[uC];exact ln);have sz:((i8 d).map Gf).length<=Wa:=by rw[V6,uC];have:Wa=16777216:=rfl;lia
 unfold cq g9;simp only[Pzz,bJ,Nat.reduceAdd,Nat.reduceSub,hx,e,Gg,yd,mw h.ne,e1,e2,e4,sz,Nu]
noncomputable def aJ (a b:List Int):List Int:=b.map λi=>a.getD i.toNat 0
theorem Bo {a b:List Int}(h:∀i∈b,0<=i/\i<a.length):wu (yT [none,some 0] (cE 0) d9 (aW n6 (aa 1) (aa 0)) [some (ag a),some (ag b)]) (b.map U.int)=.ok ((aJ a b).map U.int):=by
 have e:=ft (f:=yT [none,some 0] (cE 0) d9 (aW n6 (aa 1) (aa 0)) [some (ag a),some (ag b)]) (c:=U.int) (g:=λi:Int=>U.int (a.getD i.toNat 0)) (xs:=b) λi hi=>by
  obtain⟨h0,h1⟩:=h i hi;obtain⟨n,rfl⟩:∃n:Nat,i=n:=⟨i.toNat,(by lia)⟩;have hn:n<a.length:=(by lia)
  have e1:ku (a.map U.int) (n:Int)=some (.int a[n]):=by rw[uc,Wu,V4 hn];rfl
  have e2:a.getD (n:Int).toNat 0=a[n]:=by rw[Xs,WW,V4 hn];rfl
  simp only[Pzz,bJ,Nat.reduceAdd,Nat.reduceSub,ag,e1,e2]
 rw[e];unfold aJ;rw[WG];rfl
theorem Bp {a b:List Int}(h:∀i∈b,0<=i/\i<a.length)(hl:b.length<=1000):g8 [ag a,ag b]=.ok (ag (aJ a b)):=by
 have e:=Bo h;have sz:((aJ a b).map U.int).length<=Wa:=by rw[V6];unfold aJ;rw[V6];have:Wa=16777216:=rfl;lia
 have e1:gw [ag a,ag b]=.ok (ag (aJ a b)):=by
  unfold gw kJ;simp only[ag] at e ⊢;simp only[Pzz,bJ,Nat.reduceAdd,Nat.reduceSub,e,sz]
 unfold g8 zI;simp only[Pzz,bJ,Nat.reduceAdd,Nat.reduceSub,e1]
theorem Bq {a b:List Int}(h:∀i∈b,0<=i/\i<a.length)(hl:b.length<=1000):c_ [ag a,ag b]=.ok (ag (aJ a b)):=by
 have e:=Bo h;have sz:((aJ a b).map U.int).length<=Wa:=by rw[V6];unfold aJ;rw[V6];have:Wa=16777216:=rfl;lia
 unfold c_ jC;simp only[ag] at e ⊢;simp only[Pzz,bJ,Nat.reduceAdd,Nat.reduceSub,e,sz]
theorem Qf {ws:List U}:iQ (.lst us) [.lst ws]=if us.length+ws.length<=Wa then .ok (.non,.lst (us++ws)) else .stk:=nr rfl
theorem nI:∀ns:List Int,fL (ns.map U.int)=some ns
 | []=>rfl
 |n::ns=>by rw[V_];show (fL (ns.map U.int)).map _=_;rw[nI ns];rfl
theorem yg:∀{pf:List (List Int)},(∀ns∈pf,ns≠[])->rj (pf.map ag)=some pf
 | [],_=>rfl
 |ns::pf,h=>by
  rw[V_];unfold rj;have e1:IT (ag ns)=some ns:=by
   show (match fL (ns.map U.int) with|some (n::ns)=>some (n::ns)|_=>none)=_;rw[nI];cases ns with
   |nil=>exact absurd rfl (h [] Wi)
   |cons=>rfl
  rw[e1,yg λx hx=>h x (Wh _ hx)]
theorem C3 (h:d≠[])(ln:d.length<100000)(hr:∀p∈d,p.1≠[]):iy [DU d]=.ok (.lst ((l0 (d.map (·.1))).map ag)):=by
 have e:iy [DU d]=if ug (jh d)=true then iV (jh d) else .stk:=rfl
 rw[e,hZ (vU h)];unfold iV;have e2:rj (jh d)=some (d.map (·.1)):=by
  have:jh d=(d.map (·.1)).map ag:=by unfold jh;rw[WG];rfl
  rw[this];exact yg λns hn=>by obtain⟨p,hp,rfl⟩:=WY.mp hn;exact hr p hp
 rw[e2];dsimp only;rw[hZ (by rw[V6];lia)]
structure Sh (n:Nat)(l:List (List Int)):Prop where
 ne:l≠[]
 ln:l.length<=60
 n1:1<=n
 n8:n<=8
 len:∀a∈l,a.length=n
 bd:∀a∈l,∀i∈a,0<=i/\i<n
theorem Qg (n:Nd d)(p:Ps d)(t:zM d<1000)(ne:d≠[]):Sm d:=⟨ne,n,p,λq hq=>by have:=Nr p q hq;lia,by have:=rR p;lia⟩
theorem Nv (h:0<zM d):d≠[]:=λz=>by rw[z] at h;exact absurd h (by decide)
theorem Nw {l:List (List Int)}(h:l≠[])(hl:l.length<1000):Sm (jD l):=by
 obtain⟨n,p,_⟩:=F9 l;have t:=Jb l;have:0<l.length:=by cases l with
  |nil=>exact absurd rfl h
  |cons=>simp
 exact Qg n p (by lia) (Nv (by lia))
theorem pM (ss:List (List Int)):vg (SU ss)=λρ=>.ok (ss.map ag,ρ):=by funext ρ;exact zg
theorem gH (us:List U)(k:Nat):gR us none (some (k:Int))=us.take k:=by
 unfold gR;rw[HT.sIx_none,HT.sIx_nat,aaz,Nat.sub_zero];rcases Nat.le_total k us.length with h|h
 ·rw[XX h]
 ·rw[Nat.min_eq_right h,YK,Ye h]
theorem my (us:List U)(k:Nat):gR us (some (k:Int)) none=us.drop k:=by
 unfold gR;rw[HT.sIx_none,HT.sIx_nat];rcases Nat.le_total k us.length with h|h
 ·rw[XX h,Ye (by rw[W9];lia)]
 ·rw[Nat.min_eq_right h,ZQ,List.drop_of_length_le h,List.take_nil]
def vV (s:U):Prop:=∃v b,s=.lst [.int v,.bl b]/\0<=v/\(b=false->v<2147483647)
theorem gY {s:U}{m:Int}(h:vV s)(h0:0<m)(h1:m<18446744073709551616):∃r s',az [s,.int m]=.ok (.int r,s')/\0<=r/\r<m/\vV s':=by
 obtain⟨v,b,rfl,hv,hb⟩:=h;cases b with
 |true=>
  refine⟨v % m,.lst [.int (v / m),.bl true],?_,Zt _ (by lia),YQ _ h0,v / m,true,rfl,Int.ediv_nonneg hv (by lia),λh=>nomatch h⟩;simp only[Pzz,bJ,Nat.reduceAdd,Nat.reduceSub,az,gX,hG h0,vh h0 h1,AV]
 |false=>
  have g1:0<=(v*48271+29) % 2147483647:=Zt _ (by decide);have g2:(v*48271+29) % 2147483647<2147483647:=YQ _ (by decide);have c1:m8 v 48271=true:=MQ (by decide) (by decide);have d1:decide ((0:Int)<2147483647)=true:=by decide
  have d2:decide ((0:Int)<2147483629)=true:=by decide
  have d3:decide ((0:Int)<2147483587)=true:=by decide
  have e8:wZ (((((v*48271+29) % 2147483647)*((v*48271+29) % 2147483647)+39373*((v*48271+29) % 2147483647)+7) % 2147483629*((((v*48271+29) % 2147483647)*((v*48271+29) % 2147483647)+39373*((v*48271+29) % 2147483647)+7) % 2147483629)+16807*((((v*48271+29) % 2147483647)*((v*48271+29) % 2147483647)+39373*((v*48271+29) % 2147483647)+7) % 2147483629)) % 2147483587) 8=true:=vh (by decide) (by decide);have c2:m8 ((v*48271+29) % 2147483647) ((v*48271+29) % 2147483647)=true:=qB g1 (by lia);have c3:m8 39373 ((v*48271+29) % 2147483647)=true:=qB (by decide) (by decide);generalize hs:(v*48271+29) % 2147483647=s1 at *;have g3:0<=(s1*s1+39373*s1+7) % 2147483629:=Zt _ (by decide);have g4:(s1*s1+39373*s1+7) % 2147483629<2147483629:=YQ _ (by decide);have c4:m8 ((s1*s1+39373*s1+7) % 2147483629) ((s1*s1+39373*s1+7) % 2147483629)=true:=qB g3 (by lia);have c5:m8 16807 ((s1*s1+39373*s1+7) % 2147483629)=true:=qB (by decide) (by decide);refine⟨((s1*s1+39373*s1+7) % 2147483629*((s1*s1+39373*s1+7) % 2147483629)+16807*((s1*s1+39373*s1+7) % 2147483629)) % 2147483587 / 8 % m,.lst [.int s1,.bl false],?_,Zt _ (by lia),YQ _ h0,s1,false,rfl,g1,λ_=>g2⟩
  ·simp only[Pzz,bJ,Nat.reduceAdd,Nat.reduceSub,az,gX,hG h0,c1,d1,d2,d3,hs,c2,c3,c4,c5,e8,AV]
theorem Gj {us:List U}{k:Int}(hu:u=.scr (ns.map .int)\/u=.lst (ns.map .int))(h0:0<=k):∃s,cJ [u,.int k]=.ok s/\vV s:=by
 obtain⟨k,rfl⟩:∃n:Nat,k=n:=⟨k.toNat,(by lia)⟩;have uF:∃c:Int,cA [u,.int k]=.ok (.int c):=by
  by_cases hk:k<ns.length
  ·refine⟨ns[k],?_⟩;have d:decide ((k:Int)<((ns.map U.int).length:Nat))=true:=by rw[V6];exact hG (by lia)
   have e:ku (ns.map U.int) (k:Int)=some (.int ns[k]):=by rw[uc,Wu,V4 hk];rfl
   rcases hu with rfl|rfl<;>simp only[Pzz,bJ,Nat.reduceAdd,Nat.reduceSub,cA,ej,d,e]
  ·refine⟨0,?_⟩;have d:decide ((k:Int)<((ns.map U.int).length:Nat))=false:=by rw[V6];exact hJ (by lia)
   rcases hu with rfl|rfl<;>simp only[Pzz,bJ,Nat.reduceAdd,Nat.reduceSub,cA,ej,d]
 obtain⟨c,hc⟩:=uF;have Uq:Ib 10 18=true:=by decide
 have Ur:(10:Int) ^ (18:Int).toNat=1000000000000000000:=by decide
 have dm:decide ((0:Int)<2147483647)=true:=by decide
 by_cases h:1000000000000000000<=c
 ·refine⟨.lst [.int (c-1000000000000000000),.bl true],?_,_,true,rfl,(by lia),λh=>nomatch h⟩;simp only[Pzz,bJ,Nat.reduceAdd,Nat.reduceSub,cJ,fS,hc,Uq,Ur,hG h,hZ]
 ·refine⟨.lst [.int (c % 2147483647),.bl false],?_,_,false,rfl,Zt _ (by decide),λ_=>YQ _ (by decide)⟩;simp only[Pzz,bJ,Nat.reduceAdd,Nat.reduceSub,cJ,fS,hc,Uq,Ur,hJ h,dm,hZ]
theorem rW {α:Type}:∀(l:List α) (i:Nat) (h:i<l.length),(l[i]::l.eraseIdx i).Perm l
 |x::l,0,_=>X6 _
 |x::l,i+1,h=>by
  have h':i<l.length:=by simpa using h
  show (l[i]::x::l.eraseIdx i).Perm (x::l);exact (List.Perm.swap _ _ _).trans (List.Perm.cons x (rW l i h'))
theorem mB {α β:Type}(f:α->β):∀(l:List α) (i:Nat),(l.map f).eraseIdx i=(l.eraseIdx i).map f
 | [],_=>rfl
 |_::_,0=>rfl
 |x::l,i+1=>by
  show f x::(l.map f).eraseIdx i=f x::(l.eraseIdx i).map f;rw[mB f l i]
theorem Ny {k:Int}{y:U}(h1:abN k us.length=some j)(h2:us[j]? = some y)(h3:0<=k)(h4:k<1000000000):nh (.lst us) [.int k]=.ok (y,.lst (us.eraseIdx j)):=by
 unfold nh;dsimp only;rw[hZ (by lia),h1];dsimp only;rw[h2]
def yi (n:Nat)(os:List Int):Prop:=os.Perm (au n)
theorem mC {s:U}(h:vV s)(h1:m<=1000):∃(os:List Int) (s':U),aV [s,.int m]=.ok (.tup (os.map .int),s')/\yi m os/\vV s':=by
 obtain⟨ys,⟨left,s'⟩,e,l,os,hr,hp,hs'⟩:=lP (G:=iX) (js:=[none,some 2,some 0]) (sg:=cE 0) (ge:=gM "list" 1 nh (ae (jQ 2 2 az (ae (fO lE (ae (aa 1) aq)) aq)) aq))
  (λx:List Int×U=>[some x.2,some (.int m),some (.lst (x.1.map .int))]) m (λys x=>∃os:List Int,ys=os.map .int/\(os++x.1).Perm (au m)/\vV x.2)
  (λdone u x hd h00=>by
   obtain⟨os,hr,hp,hs⟩:=h00;obtain⟨left,s⟩:=x;have hl:0<left.length:=by
    have:=hp.length_eq;rw[V9,dN] at this;have h2:done.length=os.length:=by rw[hr,V6]
    dsimp only at this;lia
   have GO:left.length<=m:=by
    have:=hp.length_eq;rw[V9,dN] at this;dsimp only at this;lia
   obtain⟨r,s',b1,b2,b3,b4⟩:=gY (m:=left.length) hs (by lia) (by lia);obtain⟨k,rfl⟩:∃n:Nat,r=n:=⟨r.toNat,(by lia)⟩;have hk:k<left.length:=(by lia)
   refine⟨[some u,some (.lst (left.map .int)),some s],.int left[k],[some u,some (.lst ((left.eraseIdx k).map .int)),some s'],(left.eraseIdx k,s'),rfl,?_,rfl,os++[left[k]],by rw[hr,WH];rfl,?_,b4⟩
   ·have hx:abN (k:Int) (left.map U.int).length=some k:=by
     unfold abN;rw[V6];simp;lia
    have hy:(left.map U.int)[k]? = some (.int left[k]):=by rw[Wu,V4 hk];rfl
    have pp:=Ny hx hy (by lia) (by lia);rw[mB] at pp;simp only[Pzz,bJ,Nat.reduceAdd,Nat.reduceSub,V6,b1,pp]
   ·rw[Wz];refine List.Perm.trans (X2 os ?_) hp;exact rW left k hk) (aE 0 m) [] (au m,s) (by rw[aY];simp) ⟨[],rfl,X6 _,h⟩
 rw[aY] at l;have ln:os.length=m:=by
  have:=congrArg aan hr;rw[X7,V6] at this;lia
 have le:left=[]:=by
  have:=hp.length_eq;rw[V9,dN] at this;dsimp only at this;exact WM (by lia)
 subst le;rw[WN] at hp;rw[X7] at hr;dsimp only at e;refine⟨os,s',?_,hp,hs'⟩;rw[hr] at e;simp only[Pzz,bJ,Nat.reduceAdd,Nat.reduceSub,aV,iY,jy m (by lia),AR m (by lia),fj] at e ⊢;simp only[Pzz,bJ,Nat.reduceAdd,Nat.reduceSub,e]
noncomputable def tO (os:List Int):U:=.tup (os.map .int)
theorem jE (n:Nat):aE 0 n=(Xf n).map λi=>U.int (i:Nat):=by
 rw[fj];unfold au;rw[WG];rfl
theorem yj (n:Nat):au (n+1)=au n++[(n:Int)]:=by
 unfold au;rw[List.range_succ,WH];rfl
theorem yk {z:Nat}(h:z<=m):(au m).take z=au z:=by
 unfold au;rw[←Y8,List.take_range,XX h]
theorem Jf (us:List U)(a b:Nat)(h:a<=b)(h2:b<=us.length):gR us (some (a:Int)) (some (b:Int))=(us.drop a).take (b-a):=by
 unfold gR;rw[HT.sIx_nat,HT.sIx_nat,XX h2,XX (WD h h2)]
noncomputable def Rh:Nat->Nat
 |0=>1
 |n+1=>Rh n*(n+1)
theorem Gk {os:List Int}(h:os.Perm (au k)):(os.take j++[(k:Int)]++os.drop j).Perm (au (k+1)):=by
 rw[yj,Wz];refine (Xv).trans ?_;rw[Wz];have:(os.drop j++os.take j).Perm (au k):=(Xv).trans (by rw[Xh];exact h);exact ((X2 [(k:Int)] this)).trans Xv
theorem Jg {a b c d e f g:Option U}{oss:List (List Int)}(hk:k<=8)(hl:oss.length<=1000)(hp:∀os∈oss,os.Perm (au k))(v4:Option U) :
  ∃(ls:List (List Int)) (v4':Option U),cV (cE 4) (ke (gM "list" 9 iQ (ae (j8 (fh (ae (aW bV (aa 8) (gC (.int 1))) aq)) [none,some 4,some 8] (cE 0) d9 (aW bV (aW bV (j7 jg (aa 1) bN (bE (aa 0))) (i7 (ae (aa 2) aq))) (j7 jg (aa 1) (bE (aa 0)) bN))) aq))) (oss.map tO)
   [a,b,c,d,v4,e,f,g,some (.int k),some (.lst [])]=.nx [a,b,c,d,v4',e,f,g,some (.int k),some (.lst (ls.map tO))]/\ls.length=oss.length*(k+1)/\∀os∈ls,os.Perm (au (k+1)):=by
 obtain⟨ρ',e1,ls,v,e2,l2,p2⟩:=eQ (us:=oss.map tO) (sg:=cE 4) (s:=ke (gM "list" 9 iQ (ae (j8 (fh (ae (aW bV (aa 8) (gC (.int 1))) aq)) [none,some 4,some 8] (cE 0) d9 (aW bV (aW bV (j7 jg (aa 1) bN (bE (aa 0))) (i7 (ae (aa 2) aq))) (j7 jg (aa 1) (bE (aa 0)) bN))) aq)))
  (λi ρ=>∃(ls:List (List Int)) (v:Option U),ρ=[a,b,c,d,v,e,f,g,some (.int k),some (.lst (ls.map tO))]/\ls.length=i*(k+1)/\∀os∈ls,os.Perm (au (k+1)))
  (λi u ρ hu h00=>by
   obtain⟨ls,v,hr,GO,C8⟩:=h00;subst hr;rw[Wu] at hu;cases ho:oss[i]? with
   |none=>rw[ho] at hu;cases hu
   |some os=>
    rw[ho] at hu;cases hu;have G9:=hp os (Xq ho);have lo:os.length=k:=by have:=G9.length_eq;rwa [dN] at this
    have hi:i<oss.length:=by
     rcases aaH i oss.length with z|z
     ·exact z
     ·rw[Xz.mpr z] at ho;cases ho
    have sz:Wa=16777216:=rfl;have e0:wu (yT [none,some 4,some 8] (cE 0) d9 (aW bV (aW bV (j7 jg (aa 1) bN (bE (aa 0))) (i7 (ae (aa 2) aq))) (j7 jg (aa 1) (bE (aa 0)) bN)) [a,b,c,d,some (tO os),e,f,g,some (.int k),some (.lst (ls.map tO))]) ((Xf (k+1)).map λi=>U.int (i:Nat))=.ok ((Xf (k+1)).map λj=>tO (os.take j++[(k:Int)]++os.drop j)):=
     ft λj hj=>by
      have q1:((os.map U.int).take j).length+1<=Wa:=by rw[Wx,V6];lia
      have q2:((os.map U.int).take j++[U.int k]).length+((os.map U.int).drop j).length<=Wa:=by rw[V9,Wx,W9,V6,Xu];lia
      simp only[Pzz,bJ,Nat.reduceAdd,Nat.reduceSub,tO,gH,my,q1,q2];simp only[WH,Y8,List.map_drop,V_,Ym]
    have hm:i*(k+1)<=1000*9:=Nat.mul_le_mul (by lia) (by lia);have q3:(ls.map tO).length+((Xf (k+1)).map λj=>tO (os.take j++[(k:Int)]++os.drop j)).length<=Wa:=by
     rw[V6,V6,Xy];lia
    have ek:(k:Int)+1=((k+1:Nat):Int):=rfl;refine⟨[a,b,c,d,some (tO os),e,f,g,some (.int k),some (.lst (ls.map tO))],[a,b,c,d,some (tO os),e,f,g,some (.int k),some (.lst ((ls++(Xf (k+1)).map λj=>os.take j++[(k:Int)]++os.drop j).map tO))],rfl,.inl ?_,_,_,rfl,?_,?_⟩
    ·simp only[Pzz,bJ,Nat.reduceAdd,Nat.reduceSub,ek,jy (k+1) (by lia),jE,e0,Qf,q3];simp only[WH,WG];rfl
    ·rw[V9,V6,Xy,GO,Nat.add_mul,Nat.one_mul]
    ·intro x hx;rcases WE.mp hx with z|z
     ·exact C8 x z
     ·obtain⟨j,_,rfl⟩:=WY.mp z;exact Gk G9) (ρ:=[a,b,c,d,v4,e,f,g,some (.int k),some (.lst [])]) ⟨[],v4,rfl,by simp,λx hx=>by cases hx⟩
 subst e2;rw[V6] at l2;exact⟨ls,v,e1,l2,p2⟩
theorem Nz {os:List Int}(h:yi m os):os.length=m:=by have:=h.length_eq;rwa [dN] at this
theorem Gn (l:List Int)(k:Nat):(l.drop k++l.take k).Perm l:=(Xv).trans (by rw[Xh])
theorem C4 (l:List Int)(h:Nat):(((l.drop h).take h++l.take h)++l.drop (h+h)).Perm l:=by
 have e:l=l.take h++((l.drop h).take h++l.drop (h+h)):=by
  rw[←abI,Xh,Xh]
 have p:((l.drop h).take h++l.take h).Perm (l.take h++(l.drop h).take h):=Xv;refine (XQ _ p).trans ?_;rw[Wz,←e]
def jZ (m:Nat)(r:R (U×U)):Prop:=∃(oss:List (List Int)) (s':U),r=.ok (.tup (oss.map tO),s')/\(∀os∈oss,yi m os)/\1<=oss.length/\oss.length<=24/\vV s'
theorem Jh {s:U}{w:Int}(h8:m<=8)(e1:az [s,.int 6]=.ok (.int w,s1))(kP:vV s1)(hw:w=4\/w=5):jZ m (aI [s,.int m]):=by
 have sz:Wa=16777216:=rfl;obtain⟨t,s2,e2,t0,t1,bK⟩:=gY (m:=4) kP (by decide) (by decide);obtain⟨n,hn⟩:∃n:Nat,1+t=n:=⟨(1+t).toNat,(by lia)⟩;obtain⟨ys,s3,e3,ly,oss,hy,ho,Th⟩:=lP (G:=gy) (js:=[none,some 0,some 1]) (sg:=cE 0) (ge:=jQ 2 1 aV (ae (aa 2) aq))
  (λx:U=>[some x,some (.int m),some (.tup (aE 0 m)),some (.int w),none,none,none,none,none,none]) n (λys x=>∃oss:List (List Int),ys=oss.map tO/\(∀os∈oss,yi m os)/\vV x)
  (λdone u x hd h00=>by
   obtain⟨oss,hr,hp,hs⟩:=h00;obtain⟨os,x',b1,b2,b3⟩:=mC (m:=m) hs (by lia);refine⟨[some u,some x,some (.int m)],tO os,[some u,some x',some (.int m)],x',rfl,?_,rfl,oss++[os],by rw[hr,WH];rfl,?_,b3⟩
   ·simp only[Pzz,bJ,Nat.reduceAdd,Nat.reduceSub,b1,tO]
   ·intro y hy;rcases WE.mp hy with z|z
    ·exact hp y z
    ·rw[WK.mp z];exact b2) (aE 0 n) [] s2 (by rw[aY];simp) ⟨[],rfl,(λx hx=>by cases hx),bK⟩
 rw[X7] at hy;rw[aY] at ly;have lo:oss.length=n:=by
  have:=congrArg aan hy;rw[V6] at this;lia
 refine⟨oss,s3,?_,ho,(by lia),(by lia),Th⟩;rw[hy] at e3;rcases hw with rfl|rfl<;>simp only[Pzz,bJ,Nat.reduceAdd,Nat.reduceSub,aI,bS,iS m (by lia),e1,cL,Int.reduceBEq,id,e2,hn,jy n (by lia),e3]
theorem NA {s:U}(h1:1<=m)(h8:m<=8)(e1:az [s,.int 6]=.ok (.int 0,s1))(kP:vV s1):jZ m (aI [s,.int m]):=by
 have sz:Wa=16777216:=rfl;have e0:wu (yT [none,some 2] (cE 0) d9 (aW bV (j7 jg (aa 1) (bE (aa 0)) bN) (j7 jg (aa 1) bN (bE (aa 0)))) [some s1,some (.int m),some (.tup (aE 0 m)),some (.int 0),none,none,none,none,none,none]) (aE 0 m)
   = .ok ((Xf m).map λk=>.tup ((aE 0 m).drop k++(aE 0 m).take k)):=by
  have:=ft (f:=yT [none,some 2] (cE 0) d9 (aW bV (j7 jg (aa 1) (bE (aa 0)) bN) (j7 jg (aa 1) bN (bE (aa 0)))) [some s1,some (.int m),some (.tup (aE 0 m)),some (.int 0),none,none,none,none,none,none])
   (c:=λi:Nat=>U.int (i:Nat)) (g:=λk=>.tup ((aE 0 m).drop k++(aE 0 m).take k)) (xs:=Xf m) λk hk=>by
    have q:((aE 0 m).drop k).length+((aE 0 m).take k).length<=Wa:=by rw[W9,Wx,aY];lia
    simp only[Pzz,bJ,Nat.reduceAdd,Nat.reduceSub,gH,my,q]
  rwa [←jE] at this
 refine⟨(Xf m).map λk=>(au m).drop k++(au m).take k,s1,?_,?_,by rw[V6,Xy];exact h1,by rw[V6,Xy];lia,kP⟩
 ·simp only[Pzz,bJ,Nat.reduceAdd,Nat.reduceSub,aI,bS,iS m (by lia),e1,cL,Int.reduceBEq,id,jy m (by lia),e0];rw[WG];congr 4;funext k;show U.tup _=tO _;unfold tO;rw[fj,WH,List.map_drop,Y8]
 ·intro os ho;obtain⟨k,_,rfl⟩:=WY.mp ho;exact Gn _ _
theorem NB {s:U}(h8:m<=8)(e1:az [s,.int 6]=.ok (.int 1,s1))(kP:vV s1):jZ m (aI [s,.int m]):=by
 obtain⟨os,s2,b1,b2,b3⟩:=mC (m:=m) kP (by lia);refine⟨[au m,os],s2,?_,?_,by simp,by simp,b3⟩
 ·simp only[Pzz,bJ,Nat.reduceAdd,Nat.reduceSub,aI,bS,iS m (by lia),e1,cL,Int.reduceBEq,id,b1,tO,fj]
 ·intro x hx;simp only[Wn,Ys,or_false] at hx;rcases hx with rfl|rfl
  ·exact X6 _
  ·exact b2
theorem Ji {s:U}(h1:1<=m)(h8:m<=8)(e1:az [s,.int 6]=.ok (.int 2,s1))(kP:vV s1):jZ m (aI [s,.int m]):=by
 have sz:Wa=16777216:=rfl;have d1:wZ (m:Int) 2=true:=vh (by decide) (by decide);have d2:m8 2 ((m / 2:Nat):Int)=true:=qB (by decide) (by decide);have e2:(m:Int) / 2=((m / 2:Nat):Int):=(by lia)
 have e3:(2:Int)*((m / 2:Nat):Int)=((m / 2+m / 2:Nat):Int):=(by lia)
 have c1:gR (aE 0 m) (some ((m / 2:Nat):Int)) (some ((m / 2+m / 2:Nat):Int))=((aE 0 m).drop (m / 2)).take (m / 2):=by
  rw[Jf _ _ _ (by lia) (by rw[aY];lia),Nat.add_sub_cancel]
 have q1:(((aE 0 m).drop (m / 2)).take (m / 2)).length+((aE 0 m).take (m / 2)).length<=Wa:=by rw[Wx,W9,Wx,aY];lia
 have q2:(((aE 0 m).drop (m / 2)).take (m / 2)++(aE 0 m).take (m / 2)).length+((aE 0 m).drop (m / 2+m / 2)).length<=Wa:=by rw[V9,Wx,W9,Wx,W9,aY];lia
 refine⟨[au m,((au m).drop (m / 2)).take (m / 2)++(au m).take (m / 2)++(au m).drop (m / 2+m / 2)],s1,?_,?_,by simp,by simp,kP⟩
 ·simp only[Pzz,bJ,Nat.reduceAdd,Nat.reduceSub,aI,bS,iS m (by lia),e1,cL,Int.reduceBEq,id,d1,e2,d2,e3,c1,gH,my,q1,q2];simp only[tO,WH,Y8,List.map_drop,fj]
 ·intro x hx;simp only[Wn,Ys,or_false] at hx;rcases hx with rfl|rfl
  ·exact X6 _
  ·exact C4 _ _
theorem K2 (h:n<=4):1<=Rh n/\Rh n<=24:=by
 have:n=0\/n=1\/n=2\/n=3\/n=4:=(by lia)
 rcases this with rfl|rfl|rfl|rfl|rfl<;>decide
theorem NC {s:U}(h1:1<=m)(h8:m<=8)(e1:az [s,.int 6]=.ok (.int 3,s1))(kP:vV s1):jZ m (aI [s,.int m]):=by
 have sz:Wa=16777216:=rfl;obtain⟨t,s2,e2,t0,t1,bK⟩:=gY (m:=3) kP (by decide) (by decide);obtain⟨z,hz⟩:∃z:Nat,(if 2+t<(m:Int) then 2+t else (m:Int))=z:=⟨(if 2+t<(m:Int) then 2+t else (m:Int)).toNat,by split<;>lia⟩;have zb:1<=z/\z<=4/\z<=m:=by split at hz<;>lia
 obtain⟨ρ',e3,oss,v4,v8,rfl,l3,p3⟩:=eQ (us:=aE 0 z) (sg:=cE 8) (s:=(aD (aX 9 (cM aq))
 (aD (fD (gQ (aa 6)) (cE 4)
 (ke (gM "list" 9 iQ (ae (j8 (fh (ae (aW bV (aa 8) (gC (.int 1))) aq)) [none,some 4,some 8] (cE 0) d9 (aW bV (aW bV (j7 jg (aa 1) bN (bE (aa 0))) (i7 (ae (aa 2) aq))) (j7 jg (aa 1) (bE (aa 0)) bN))) aq))))
 (lh 6 9))))
  (λi ρ=>∃(oss:List (List Int)) (v4 v8:Option U),ρ=[some s2,some (.int m),some (.tup (aE 0 m)),some (.int 3),v4,none,some (.lst (oss.map tO)),some (.int z),v8,none]/\oss.length=Rh i/\∀os∈oss,os.Perm (au i))
  (λi u ρ hu h00=>by
   obtain⟨oss,v4,v8,hr,hl,hp⟩:=h00;subst hr;have hi:i<z:=by
    rcases aaH i z with y|y
    ·exact y
    ·rw[Xz.mpr (by rw[aY];exact y)] at hu;cases hu
   obtain rfl:u=.int i:=by
    rw[jE,Wu,ZU hi] at hu;cases hu;rfl
   obtain⟨ls,v4',g1,g2,g3⟩:=Jg (a:=some s2) (b:=some (.int m)) (c:=some (.tup (aE 0 m))) (d:=some (.int 3)) (e:=none) (f:=some (.lst (oss.map tO))) (g:=some (.int z)) (k:=i) (oss:=oss) (by lia) (by have:=K2 (n:=i) (by lia);lia) hp v4;refine⟨[some s2,some (.int m),some (.tup (aE 0 m)),some (.int 3),v4,none,some (.lst (oss.map tO)),some (.int z),some (.int i),none],[some s2,some (.int m),some (.tup (aE 0 m)),some (.int 3),v4',none,some (.lst (ls.map tO)),some (.int z),some (.int i),none],rfl,.inl ?_,ls,v4',some (.int i),rfl,by rw[g2,hl];rfl,g3⟩;simp only[Pzz,bJ,Nat.reduceAdd,Nat.reduceSub,g1])
  (ρ:=[some s2,some (.int m),some (.tup (aE 0 m)),some (.int 3),none,none,some (.lst [.tup []]),some (.int z),none,none]) ⟨[[]],none,none,rfl,rfl,λx hx=>by rw[WK.mp hx];exact X6 _⟩
 rw[aY] at l3 p3;have e4:wu (yT [none,some 2,some 7] (cE 0) d9 (aW bV (aa 0) (j7 jg (aa 1) (bE (aa 2)) bN)) [some s2,some (.int m),some (.tup (aE 0 m)),some (.int 3),v4,none,some (.lst (oss.map tO)),some (.int z),v8,none]) (oss.map tO)=.ok (oss.map λos=>tO (os++(au m).drop z)):=
  ft λos ho=>by
   have lo:os.length=z:=by have:=(p3 os ho).length_eq;rwa [dN] at this
   have q:(os.map U.int).length+((aE 0 m).drop z).length<=Wa:=by rw[V6,W9,aY];lia
   simp only[Pzz,bJ,Nat.reduceAdd,Nat.reduceSub,tO,my,q];simp only[WH,List.map_drop,fj]
 have fb:=K2 (n:=z) zb.2.1;refine⟨oss.map λos=>os++(au m).drop z,s2,?_,?_,by rw[V6];lia,by rw[V6];lia,bK⟩
 ·simp only[Pzz,bJ,Nat.reduceAdd,Nat.reduceSub,aI,bS,iS m (by lia),e1,cL,Int.reduceBEq,id,e2,hz,jy z (by lia),e3,e4];rw[WG];rfl
 ·intro x hx;obtain⟨os,ho,rfl⟩:=WY.mp hx;have:(au m)=au z++(au m).drop z:=by
   rw[←yk zb.2.2,Xh]
  show (os++_).Perm (au m);refine (XQ _ (p3 os ho)).trans ?_;rw[←this]
theorem zR {s:U}(h:vV s)(h1:1<=m)(h8:m<=8):jZ m (aI [s,.int m]):=by
 obtain⟨w,s1,e1,w0,w1,kP⟩:=gY (m:=6) h (by decide) (by decide);have hw:w=0\/w=1\/w=2\/w=3\/w=4\/w=5:=(by lia)
 rcases hw with rfl|rfl|rfl|rfl|hw
 ·exact NA h1 h8 e1 kP
 ·exact NB h8 e1 kP
 ·exact Ji h1 h8 e1 kP
 ·exact NC h1 h8 e1 kP
 ·exact Jh h8 e1 kP hw
noncomputable def DB (ks:List Rw):U:=.dct (ks.map ag) (ks.map λ_=>.bl true)
theorem Ri (ks:List Rw):ks.map ag=jh (ks.map λk=>(k,0)):=by unfold jh;rw[WG];rfl
theorem SG {ks:List Rw}{k:Rw}:ag k∈ks.map ag↔k∈ks:=by
 rw[Ri,rS,WG];show k∈ks.map (λk=>k)↔_;rw[List.map_id']
theorem Qh (ks:List Rw)(k:Rw):jb (ks.map ag) (ag k)=true:=by rw[Ri];exact mv _ k
theorem Qi {ks:List Rw}(h:ks≠[]):ug (ks.map ag)=true:=by rw[Ri];exact vU λz=>h (YF.mp z)
theorem K3 (k:Rw):∀ks:List Rw,(eN (ks.map ag) (ks.map λ_=>U.bl true) (ag k)).isSome=decide (k∈ks)
 | []=>rfl
 |a::ks=>by
  rw[V_,V_];unfold eN;by_cases c:ag a=ag k
  ·rw[hZ c,hG];rfl;rw[iE.mp c];exact Wi
  ·rw[hV c,K3 k ks];refine decide_eq_decide.mpr ⟨λz=>Wh _ z,λz=>(Wn.mp z).resolve_left λe=>c (by rw[e])⟩
theorem Gp {ks:List Rw}{k:Rw}:xj not (ag k) (DB ks)=.ok (.bl (!decide (k∈ks))):=by
 show (if jb (ks.map ag) (ag k)=true then R.ok (U.bl (!(eN (ks.map ag) (ks.map λ_=>U.bl true) (ag k)).isSome)) else .stk)=_;rw[hZ (Qh ks k),K3]
theorem C5 {ks:List Rw}(h:ks≠[]):l9 [DB ks]=.ok (.int (ks.length:Nat)):=by
 show (if ug (ks.map ag)=true then R.ok (U.int ((ks.map ag).length:Nat)) else .stk)=_;rw[hZ (Qi h),V6]
theorem Qj {ks:List Rw}{k:Rw}(hl:ks.length<1000000)(h:k∉ks):Nt i (.bl true) (ag k) ρ (some (some (DB ks)))=.nx (ρ.set i (some (DB (ks++[k])))):=by
 have sz:Wa=16777216:=rfl;have nm:ag k∉ks.map ag:=λz=>h (SG.mp z);have:Nt i (.bl true) (ag k) ρ (some (some (DB ks)))=.nx (ρ.set i (some (.dct (fM (ks.map ag) (ag k)) (ed (ks.map ag) (ks.map λ_=>U.bl true) (ag k) (.bl true))))):=hZ ⟨Qh ks k,by rw[V6,sz];lia⟩;rw[this];unfold fM ed DB;rw[hV nm,hV nm,WH,WH];rfl
theorem K4 {ks:List Rw}(h:ks≠[])(ln:ks.length<100000)(hr:∀k∈ks,k≠[]):iy [DB ks]=.ok (.lst ((l0 ks).map ag)):=by
 have e:=C3 (d:=ks.map λk=>(k,0)) (λz=>h (YF.mp z)) (by rw[V6];exact ln) λp hp=>by
  obtain⟨k,hk,rfl⟩:=WY.mp hp;exact hr k hk
 rw[WG] at e;have e2:ks.map ((λp:Rw×Int=>p.1)∘λk=>(k,(0:Int)))=ks:=List.map_id' ks;rw[e2] at e;rw[←e];show iy [.dct (ks.map ag) _]=iy [.dct (jh _) _];rw[←Ri];rfl
theorem Qk {ks:List Rw}(h:ks≠[]):rq [DB ks]=.ok (.lst (ks.map ag)):=by
 show (if ug (ks.map ag)=true then R.ok (U.lst (ks.map ag)) else .stk)=_;rw[hZ (Qi h)]
noncomputable def SH (u:U)(ρ:Ev):R (U×Ev):=match u with
 | .tup ks=>if xh (.tup ks)=true then .ok (.dct [.tup ks] [.bl true],ρ) else .stk
 |_=>.stk
theorem K5 {g:Ev->R (U×Ev)}:zF g ρ=(g ρ).bind λx=>SH x.1 x.2:=nr rfl
theorem Jj {k:Rw}:SH (ag k) ρ=.ok (DB [k],ρ):=hZ (rT k)
noncomputable abbrev MF:=List Rw×List Rw
noncomputable def ins (x:MF)(k:Rw):MF:=if k∈x.1 then x else (x.1++[k],x.2++[k])
noncomputable def lvl (op:Rw->Rw->Rw)(S F:List Rw)(x:MF):MF:=F.foldl (λy r=>S.foldl (λz s=>ins z (op r s)) y) x
theorem Jk (x:MF)(k:Rw):x.1.length<=(ins x k).1.length:=by
 unfold ins;split
 ·exact Wf _
 ·rw[V9];lia
theorem pN {op:Rw->Rw->Rw}{r:Rw}:∀(S:List Rw) (x:MF),x.1.length<=(S.foldl (λz s=>ins z (op r s)) x).1.length
 | [],_=>Wf _
 |s::S,x=>WD (Jk x _) (pN S _)
theorem Br {op:Rw->Rw->Rw}{S:List Rw}:∀(F:List Rw) (x:MF),x.1.length<=(lvl op S F x).1.length
 | [],_=>Wf _
 |r::F,x=>WD (pN S x) (Br F _)
structure Gd (x0 x:MF)(P:Rw->Prop):Prop where
 nd:x.1.Nodup
 mem:∀k,k∈x.1↔k∈x0.1\/P k
 new:∃F,x.1=x0.1++F/\x.2=x0.2++F
theorem Gd.refl {x:MF}(h:x.1.Nodup):Gd x x (λ_=>False):=⟨h,λk=>⟨λz=>.inl z,λz=>z.elim id XA⟩,[],by simp,by simp⟩
theorem Gd.ins {x0 x:MF}{P:Rw->Prop}(g:Gd x0 x P)(k:Rw):Gd x0 (ins x k) (λy=>P y\/y=k):=by
 unfold Hc.ins;by_cases c:k∈x.1
 ·rw[hZ c];refine⟨g.nd,λy=>?_,g.new⟩;rw[g.mem];constructor
  ·rintro (z|z)
   ·exact .inl z
   ·exact .inr (.inl z)
  ·rintro (z|z|z)
   ·exact .inl z
   ·exact .inr z
   ·rw[z];exact (g.mem k).mp c
 ·rw[hV c];obtain⟨F,e1,e2⟩:=g.new;refine⟨aas.mpr ⟨g.nd,by simp,λa ha b hb e=>?_⟩,λy=>?_,F++[k],by rw[←Wz,←e1],by rw[←Wz,←e2]⟩
  ·rw[WK.mp hb] at e;exact c (by rw[←e];exact ha)
  ·show y∈x.1++[k]↔_;rw[WE,g.mem,WK];constructor
   ·rintro ((z|z)|z)
    ·exact .inl z
    ·exact .inr (.inl z)
    ·exact .inr (.inr z)
   ·rintro (z|z|z)
    ·exact .inl (.inl z)
    ·exact .inl (.inr z)
    ·exact .inr z
theorem Gd.imp {x0 x:MF}{P Q:Rw->Prop}(g:Gd x0 x P)(h:∀k,P k↔Q k):Gd x0 x Q:=⟨g.nd,λk=>by rw[g.mem,h],g.new⟩
theorem Gd.row {op:Rw->Rw->Rw}{r:Rw}{x0:MF}:∀{S:List Rw} {x:MF} {P:Rw->Prop},Gd x0 x P->Gd x0 (S.foldl (λz s=>Hc.ins z (op r s)) x) (λy=>P y\/∃s∈S,y=op r s)
 | [],x,P,g=>g.imp λk=>⟨.inl,λz=>z.elim id fun⟨s,h,_⟩=>by cases h⟩
 |s::S,x,P,g=>(Gd.row (S:=S) (g.ins (op r s))).imp λk=>by
  constructor
  ·rintro ((z|z)|⟨t,ht,z⟩)
   ·exact .inl z
   ·exact .inr ⟨s,Wi,z⟩
   ·exact .inr ⟨t,Wh _ ht,z⟩
  ·rintro (z|⟨t,ht,z⟩)
   ·exact .inl (.inl z)
   ·rcases Wn.mp ht with e|e
    ·exact .inl (.inr (by rw[z,e]))
    ·exact .inr ⟨t,e,z⟩
theorem Gd.lvl {op:Rw->Rw->Rw}{S:List Rw}{x0:MF}:∀{F:List Rw} {x:MF} {P:Rw->Prop},Gd x0 x P->Gd x0 (Hc.lvl op S F x) (λy=>P y\/∃r∈F,∃s∈S,y=op r s)
 | [],x,P,g=>g.imp λk=>⟨.inl,λz=>z.elim id fun⟨r,h,_⟩=>by cases h⟩
 |r::F,x,P,g=>(Gd.lvl (F:=F) (Gd.row (op:=op) (r:=r) (S:=S) g)).imp λk=>by
  constructor
  ·rintro ((z|⟨s,hs,z⟩)|⟨t,ht,z⟩)
   ·exact .inl z
   ·exact .inr ⟨r,Wi,s,hs,z⟩
   ·exact .inr ⟨t,Wh _ ht,z⟩
  ·rintro (z|⟨t,ht,s,hs,z⟩)
   ·exact .inl (.inl z)
   ·rcases Wn.mp ht with e|e
    ·exact .inl (.inr ⟨s,hs,by rw[z,e]⟩)
    ·exact .inr ⟨t,e,s,hs,z⟩
def Ow (n:Nat)(a:Rw):Prop:=a.length=n/\∀i∈a,0<=i/\i<n
theorem nJ {a b:Rw}(ha:Ow n a)(hb:Ow n b):Ow n (aJ a b):=by
 refine⟨by unfold aJ;rw[V6];exact hb.1,λi hi=>?_⟩;obtain⟨j,hj,rfl⟩:=WY.mp hi;have:=hb.2 j hj;have l:=ha.1;have hl:j.toNat<a.length:=(by lia)
 rw[WW,V4 hl];exact ha.2 _ (WU hl)
theorem uD {a b c:Rw}(hb:Ow n b)(hc:Ow n c):aJ (aJ a b) c=aJ a (aJ b c):=by
 unfold aJ;rw[WG];refine Xm λi hi=>?_;have:=hc.2 i hi;have l:=hb.1;have hl:i.toNat<b.length:=(by lia)
 show (b.map _).getD i.toNat 0=a.getD (b.getD i.toNat 0).toNat 0;rw[WW,WW (l:=b),Wu,V4 hl];rfl
theorem K6 (n:Nat):Ow n (au n):=⟨dN n,λi hi=>qC.mp hi⟩
theorem Bs {a:Rw}(h:Ow n a):aJ (au n) a=a:=by
 unfold aJ;have:a.map (λi=>(au n).getD i.toNat 0)=a.map id:=Xm λi hi=>by
  have:=h.2 i hi;unfold au;rw[WW,Wu,ZU (by lia)];show ((i.toNat:Nat):Int)=i;lia
 rw[this,List.map_id]
theorem Bt {a:Rw}(h:Ow n a):aJ a (au n)=a:=by
 unfold aJ au;rw[WG];refine List.ext_getElem (by rw[V6,Xy,h.1]) λi h1 h2=>?_;rw[List.getElem_map,List.getElem_range];show a.getD ((i:Int)).toNat 0=_;rw[Xs,WW,V4 h2];rfl
def Wo (op:Rw->Rw->Rw)(e:Rw)(S:List Rw):Nat->Rw->Prop
 |0,x=>x=e
 |k+1,x=>Wo op e S k x\/∃w,Wo op e S k w/\∃s∈S,x=op w s
noncomputable def jd (w s:Rw):Rw:=aJ s w
theorem oK {op:Rw->Rw->Rw}(ho:∀a b,Ow n a->Ow n b->Ow n (op a b))(hS:∀s∈S,Ow n s):∀{k:Nat} {x:Rw},Wo op (au n) S k x->Ow n x
 |0,x,h=>by
  have:x=au n:=h;rw[this];exact K6 n
 |k+1,x,h=>by
  rcases h with h|⟨w,hw,s,hs,rfl⟩
  ·exact oK ho hS h
  ·exact ho _ _ (oK ho hS hw) (hS s hs)
theorem rX (hS:∀s∈S,Ow n s):∀{k:Nat} {x:Rw},Wo aJ (au n) S k x->∀s∈S,Wo aJ (au n) S (k+1) (aJ s x)
 |0,x,h,s,hs=>by
  have:x=au n:=h;rw[this,Bt (hS s hs)];exact .inr ⟨au n,rfl,s,hs,(Bs (hS s hs)).symm⟩
 |k+1,x,h,s,hs=>by
  rcases h with h|⟨w,hw,t,ht,rfl⟩
  ·exact .inl (rX hS h s hs)
  ·refine .inr ⟨aJ s w,rX hS hw s hs,t,ht,?_⟩;exact (uD (oK (λa b ha hb=>nJ ha hb) hS hw) (hS t ht)).symm
theorem vW (hS:∀s∈S,Ow n s):∀{k:Nat} {x:Rw},Wo jd (au n) S k x->∀s∈S,Wo jd (au n) S (k+1) (aJ x s)
 |0,x,h,s,hs=>by
  have:x=au n:=h;rw[this,Bs (hS s hs)];exact .inr ⟨au n,rfl,s,hs,(Bt (hS s hs)).symm⟩
 |k+1,x,h,s,hs=>by
  rcases h with h|⟨w,hw,t,ht,rfl⟩
  ·exact .inl (vW hS h s hs)
  ·refine .inr ⟨aJ w s,vW hS hw s hs,t,ht,?_⟩;show aJ (aJ t w) s=aJ t (aJ w s);exact uD (oK (λa b ha hb=>nJ hb ha) hS hw) (hS s hs)
theorem mD (hS:∀s∈S,Ow n s):∀(k:Nat) (x:Rw),Wo aJ (au n) S k x↔Wo jd (au n) S k x
 |0,x=>Iff.rfl
 |k+1,x=>by
  constructor
  ·rintro (h|⟨w,hw,s,hs,rfl⟩)
   ·exact .inl ((mD hS k x).mp h)
   ·exact vW hS ((mD hS k w).mp hw) s hs
  ·rintro (h|⟨w,hw,s,hs,rfl⟩)
   ·exact .inl ((mD hS k x).mpr h)
   ·exact rX hS ((mD hS k w).mpr hw) s hs
structure Lv (op:Rw->Rw->Rw)(e:Rw)(S:List Rw)(k:Nat)(M F:List Rw):Prop where
 nd:M.Nodup
 mem:∀x,x∈M↔Wo op e S k x
 sub:∀x∈F,x∈M
 ext:∀x∈M,x∈F\/∀s∈S,op x s∈M
 few:F.length<=M.length
theorem Lv.zero {op:Rw->Rw->Rw}{e:Rw}:Lv op e S 0 [e] [e]:=⟨by simp,λx=>WK,λx h=>h,λx h=>.inl h,Wf _⟩
theorem Lv.ne {op:Rw->Rw->Rw}{e:Rw}{M:List Rw}(h:Lv op e S k M F):M≠[]:=by
 have:∀k,Wo op e S k e:=λk=>by
  induction k with
  |zero=>exact rfl
  |succ k ih=>exact .inl ih
 exact List.ne_nil_of_mem ((h.mem e).mpr (this k))
theorem Lv.step {op:Rw->Rw->Rw}{e:Rw}{M:List Rw}(h:Lv op e S k M F):Lv op e S (k+1) (lvl op S F (M,[])).1 (lvl op S F (M,[])).2/\(lvl op S F (M,[])).1.length=M.length+(lvl op S F (M,[])).2.length:=by
 have g:=Gd.lvl (op:=op) (S:=S) (F:=F) (Gd.refl (x:=(M,[])) h.nd);generalize lvl op S F (M,[])=x at g ⊢;obtain⟨N,e1,e2⟩:=g.new;have e1:x.1=M++N:=e1;have e2:x.2=N:=e2;have mem:∀y,y∈x.1↔y∈M\/∃r∈F,∃s∈S,y=op r s:=λy=>by
  rw[g.mem];constructor
  ·rintro (z|z|z)
   ·exact .inl z
   ·exact z.elim
   ·exact .inr z
  ·rintro (z|z)
   ·exact .inl z
   ·exact .inr (.inr z)
 refine⟨⟨g.nd,λy=>?_,λy hy=>by rw[e1];rw[e2] at hy;exact WJ _ hy,λy hy=>?_,by rw[e1,e2,V9];lia⟩,by rw[e1,e2,V9]⟩
 ·rw[mem];constructor
  ·rintro (z|⟨r,hr,s,hs,z⟩)
   ·exact .inl ((h.mem y).mp z)
   ·exact .inr ⟨r,(h.mem r).mp (h.sub r hr),s,hs,z⟩
  ·rintro (z|⟨w,hw,s,hs,z⟩)
   ·exact .inl ((h.mem y).mpr z)
   ·have hw:=(h.mem w).mpr hw;rcases h.ext w hw with q|q
    ·exact .inr ⟨w,q,s,hs,z⟩
    ·exact .inl (by rw[z];exact q s hs)
 ·rw[e1] at hy;rcases WE.mp hy with z|z
  ·refine .inr λs hs=>(mem _).mpr ?_;rcases h.ext y z with q|q
   ·exact .inr ⟨y,q,s,hs,rfl⟩
   ·exact .inl (q s hs)
  ·exact .inl (by rw[e2];exact z)
theorem Lv.perm {M M' F':List Rw}(hS:∀s∈S,Ow n s)(h:Lv aJ (au n) S k M F)(h':Lv jd (au n) S k M' F'):M.Perm M' :=
 (List.perm_ext_iff_of_nodup h.nd h'.nd).mpr λx=>by rw[h.mem,h'.mem,mD hS]
theorem rY {c:String}{s:Ev->SR}:(SR.exc c u).turn s=.exc c u:=nr rfl
theorem vX {c:String}{s:Ev->SR}:(SR.exc c u).seq s=.exc c u:=nr rfl
theorem Gq {m:Md}{c:String}:CJ m (.exc c u)=.exc c u:=nr rfl
theorem Gs:lJ (.lst us) [u]=if us.length<Wa then .ok (.non,.lst (us++[u])) else .stk:=nr rfl
theorem Ql {x:Rw}:∃d,ja (ag x)=some d/\cF d<=1:=by
 have e:∀cs:List Int,fE (cs.map U.int)=some (cs.map D.int)/\dZ (cs.map D.int)=0:=λcs=>by
  induction cs with
  |nil=>simp[fE,dZ]
  |cons c cs ih=>rw[V_];simp[fE,ja,ih.1,dZ,cF,ih.2]
 exact⟨.tup (x.map D.int),by unfold ag ja;rw[(e x).1];rfl,by unfold cF;rw[(e x).2];lia⟩
theorem zS:∀F:List Rw,∃ds,fE (F.map ag)=some ds/\dZ ds<=1/\ds.length=F.length
 | []=>⟨[],by simp[fE],by simp[dZ],rfl⟩
 |x::F=>by
  obtain⟨d,e1,l1⟩:=Ql (x:=x);obtain⟨ds,e2,l2,n2⟩:=zS F;exact⟨d::ds,by rw[V_];simp[fE,e1,e2],by simp only[dZ];lia,by rw[Wl,Wl,n2]⟩
theorem vY:m9 (.lst (F.map ag)) (.lst [])=.ok F.isEmpty:=by
 obtain⟨ds,e,l,n⟩:=zS F;unfold m9;rw[show ja (.lst (F.map ag))=some (.lst ds) by unfold ja;rw[e];rfl,show ja (.lst [])=some (.lst []) by unfold ja fE;rfl];dsimp only;rw[hZ (by unfold cF;lia)];cases F with
 |nil=>rw[Z9] at n;rw[WM n];simp[fV,f9]
 |cons x F=>
  obtain⟨d,ds,rfl⟩:∃d ds',ds=d::ds':=abh (λz=>by rw[z] at n;cases n);simp[fV,f9]
noncomputable abbrev eP (a0 a1 a2 a4 a6 a7 a8:Option U)(x:MF):Ev:=[a0,a1,a2,some (DB x.1),a4,some (.lst (x.2.map ag)),a6,a7,a8]
theorem SJ {n:Nat}{r:Rw}(hr:Ow n r)(h8:n<=8){a0 a1 a2 a4:Option U}:∀(S:List Rw) (x:MF) (a7 a8:Option U),(∀s∈S,Ow n s)->x.1≠[]->x.1.length<=120->x.2.length<=x.1.length->
  ∃b7 b8,cV (cE 7) gx (S.map ag) (eP a0 a1 a2 a4 (some (ag r)) a7 a8 x)=if (S.foldl (λz s=>ins z (aJ r s)) x).1.length<=120 then .nx (eP a0 a1 a2 a4 (some (ag r)) b7 b8 (S.foldl (λz s=>ins z (aJ r s)) x)) else .exc "TooMany" .non
 | [],x,a7,a8,_,_,h,_=>⟨a7,a8,by rw[List.foldl_nil,hZ h];rfl⟩
 |s::S,x,a7,a8,hS,ne,h,hg=>by
  have Us:Wa=16777216:=rfl;have hs:=hS s Wi;have t:=Bp (a:=r) (b:=s) (λi hi=>by rw[hr.1];exact hs.2 i hi) (by have:=hs.1;lia);rw[V_,Ya,ir];by_cases c:aJ r s∈x.1
  ·have ei:ins x (aJ r s)=x:=hZ c;obtain⟨b7,b8,e⟩:=SJ hr h8 (a0:=a0) (a1:=a1) (a2:=a2) (a4:=a4) S x (some (ag s)) (some (ag (aJ r s))) (λy hy=>hS y (Wh _ hy)) ne h hg;refine⟨b7,b8,?_⟩;rw[ei,←e];have d:decide ((120:Int)<(x.1.length:Nat))=false:=hJ (by lia);unfold gx;simp only[Pzz,bJ,Nat.reduceAdd,Nat.reduceSub,t,Gp,hG c,Xo,C5 ne,d]
  ·have ei:ins x (aJ r s)=(x.1++[aJ r s],x.2++[aJ r s]):=hV c;have p:∀{i:Nat} {ρ:Ev},Nt i (.bl true) (ag (aJ r s)) ρ (some (some (DB x.1)))=.nx (ρ.set i (some (DB (x.1++[aJ r s])))):=Qj (by lia) c;have la:(x.2.map ag).length<Wa:=by rw[V6];lia
   have mm:x.2.map ag++[ag (aJ r s)]=(x.2++[aJ r s]).map ag:=by rw[WH];rfl
   have l1:(x.1++[aJ r s]).length=x.1.length+1:=by rw[V9];rfl
   have n1:x.1++[aJ r s]≠[]:=by simp
   by_cases c2:x.1.length+1<=120
   ·obtain⟨b7,b8,e⟩:=SJ hr h8 (a0:=a0) (a1:=a1) (a2:=a2) (a4:=a4) S (x.1++[aJ r s],x.2++[aJ r s]) (some (ag s)) (some (ag (aJ r s))) (λy hy=>hS y (Wh _ hy)) n1 (by rw[l1];exact c2) (by rw[V9,V9];lia);refine⟨b7,b8,?_⟩;rw[ei,←e];have d:decide ((120:Int)<((x.1++[aJ r s]).length:Nat))=false:=hJ (by rw[l1];lia);unfold gx;simp only[Pzz,bJ,Nat.reduceAdd,Nat.reduceSub,t,Gp,hJ c,XZ,rV,p,Gs,la,mm,C5 n1,d]
   ·refine⟨none,none,?_⟩;rw[ei,hV (λz=>by
     have:=pN (op:=aJ) (r:=r) S (x.1++[aJ r s],x.2++[aJ r s]);have t1:121<=(x.1++[aJ r s],x.2++[aJ r s]).1.length:=by show 121<=(x.1++[aJ r s]).length;rw[l1];lia
     exact absurd (WD (WD t1 this) z) (by decide))]
    have d:decide ((120:Int)<((x.1++[aJ r s]).length:Nat))=true:=hG (by rw[l1];lia);unfold gx;simp only[Pzz,bJ,Nat.reduceAdd,Nat.reduceSub,t,Gp,hJ c,XZ,rV,p,Gs,la,mm,C5 n1,d,vX,rY]
theorem K7 {x0 x:MF}{P:Rw->Prop}(g:Gd x0 x P)(h:x0.2.length<=x0.1.length):x.2.length<=x.1.length:=by
 obtain⟨F,e1,e2⟩:=g.new;rw[e1,e2,V9,V9];lia
theorem Qm {n:Nat}(h8:n<=8){S:List Rw}(hS:∀s∈S,Ow n s){a0 a2 a4:Option U}:∀(F:List Rw) (x:MF) (a6 a7 a8:Option U),(∀r∈F,Ow n r)->x.1.Nodup->x.1≠[]->x.1.length<=120->x.2.length<=x.1.length->
  ∃b6 b7 b8,cV (cE 6) eS (F.map ag) (eP a0 (some (.lst (S.map ag))) a2 a4 a6 a7 a8 x)=if (lvl aJ S F x).1.length<=120 then .nx (eP a0 (some (.lst (S.map ag))) a2 a4 b6 b7 b8 (lvl aJ S F x)) else .exc "TooMany" .non
 | [],x,a6,a7,a8,_,_,_,h,_=>⟨a6,a7,a8,by unfold lvl;rw[List.foldl_nil,hZ h];rfl⟩
 |r::F,x,a6,a7,a8,hF,nd,ne,h,hg=>by
  obtain⟨c7,c8,e⟩:=SJ (hF r Wi) h8 (a0:=a0) (a1:=some (.lst (S.map ag))) (a2:=a2) (a4:=a4) S x a7 a8 hS ne h hg;have g:=Gd.row (op:=aJ) (r:=r) (S:=S) (Gd.refl (x:=x) nd);have gl:=K7 g hg;have rl:=pN (op:=aJ) (r:=r) S x;have un:lvl aJ S (r::F) x=lvl aJ S F (S.foldl (λz s=>ins z (aJ r s)) x):=rfl;rw[un];generalize S.foldl (λz s=>ins z (aJ r s)) x=y at e g gl rl ⊢;have ny:y.1≠[]:=λz=>by
   rw[z] at rl;have:=aba.mpr ne;have e0:(([]:List Rw)).length=0:=rfl;lia
  rw[V_,ir];by_cases c:y.1.length<=120
  ·rw[hZ c] at e;obtain⟨b6,b7,b8,e2⟩:=Qm h8 hS (a0:=a0) (a2:=a2) (a4:=a4) F y (some (ag r)) c7 c8 (λz hz=>hF z (Wh _ hz)) g.nd ny c gl;refine⟨b6,b7,b8,?_⟩;rw[←e2];unfold eS;simp only[Pzz,bJ,Nat.reduceAdd,Nat.reduceSub,e]
  ·rw[hV c] at e;refine⟨none,none,none,?_⟩;rw[hV (λz=>c (WD (Br F y) z))];unfold eS;simp only[Pzz,bJ,Nat.reduceAdd,Nat.reduceSub,e,rY]
noncomputable abbrev eL (a0 a1 a3 a5 a6 a7:Option U)(x:MF):Ev:=[a0,a1,some (DB x.1),a3,some (.lst (x.2.map ag)),a5,a6,a7]
theorem SK {n:Nat}{r:Rw}(hr:Ow n r)(h8:n<=8){a0 a1 a3:Option U}:∀(S:List Rw) (x:MF) (a6 a7:Option U),(∀s∈S,Ow n s)->x.1.length+S.length<=100000->x.2.length<=x.1.length->
  ∃b6 b7,cV (cE 6) dG (S.map ag) (eL a0 a1 a3 (some (ag r)) a6 a7 x)=.nx (eL a0 a1 a3 (some (ag r)) b6 b7 (S.foldl (λz s=>ins z (jd r s)) x))
 | [],x,a6,a7,_,_,_=>⟨a6,a7,rfl⟩
 |s::S,x,a6,a7,hS,h,hg=>by
  have Us:Wa=16777216:=rfl;have hs:=hS s Wi;have t:=Bq (a:=s) (b:=r) (λi hi=>by rw[hs.1];exact hr.2 i hi) (by have:=hr.1;lia);rw[Wl] at h;rw[V_,Ya,ir];by_cases c:aJ s r∈x.1
  ·have ei:ins x (jd r s)=x:=hZ c;obtain⟨b6,b7,e⟩:=SK hr h8 (a0:=a0) (a1:=a1) (a3:=a3) S x (some (ag s)) (some (ag (aJ s r))) (λy hy=>hS y (Wh _ hy)) (by lia) hg;refine⟨b6,b7,?_⟩;rw[ei,←e];unfold dG;simp only[Pzz,bJ,Nat.reduceAdd,Nat.reduceSub,t,Gp,hG c,Xo]
  ·have ei:ins x (jd r s)=(x.1++[aJ s r],x.2++[aJ s r]):=hV c;have p:∀{i:Nat} {ρ:Ev},Nt i (.bl true) (ag (aJ s r)) ρ (some (some (DB x.1)))=.nx (ρ.set i (some (DB (x.1++[aJ s r])))):=Qj (by lia) c;have la:(x.2.map ag).length<Wa:=by rw[V6];lia
   have mm:x.2.map ag++[ag (aJ s r)]=(x.2++[aJ s r]).map ag:=by rw[WH];rfl
   have l1:(x.1++[aJ s r]).length=x.1.length+1:=by rw[V9];rfl
   obtain⟨b6,b7,e⟩:=SK hr h8 (a0:=a0) (a1:=a1) (a3:=a3) S (x.1++[aJ s r],x.2++[aJ s r]) (some (ag s)) (some (ag (aJ s r))) (λy hy=>hS y (Wh _ hy)) (by show (x.1++[aJ s r]).length+_<=_;rw[l1];lia) (by show (x.2++[aJ s r]).length<=(x.1++[aJ s r]).length;rw[V9,V9];lia);refine⟨b6,b7,?_⟩;rw[ei,←e];unfold dG;simp only[Pzz,bJ,Nat.reduceAdd,Nat.reduceSub,t,Gp,hJ c,XZ,rV,p,Gs,la,mm]
theorem ND (x:MF)(k:Rw):(ins x k).1.length<=x.1.length+1:=by
 unfold ins;split
 ·lia
 ·show (x.1++[k]).length<=_;rw[V9];exact Wf _
theorem Gu {op:Rw->Rw->Rw}{r:Rw}:∀(S:List Rw) (x:MF),(S.foldl (λz s=>ins z (op r s)) x).1.length<=x.1.length+S.length
 | [],_=>Wf _
 |s::S,x=>by
  have h1:=Gu (op:=op) (r:=r) S (ins x (op r s));have h2:=ND x (op r s);rw[Ya,Wl];lia
theorem Qn {n:Nat}(h8:n<=8){S:List Rw}(hS:∀s∈S,Ow n s)(h3:S.length<=3){a0 a3:Option U}:∀(F:List Rw) (x:MF) (a5 a6 a7:Option U),(∀r∈F,Ow n r)->x.1.Nodup->x.1.length+3*F.length<=90000->x.2.length<=x.1.length->
  ∃b5 b6 b7,cV (cE 5) cQ (F.map ag) (eL a0 (some (.lst (S.map ag))) a3 a5 a6 a7 x)=.nx (eL a0 (some (.lst (S.map ag))) a3 b5 b6 b7 (lvl jd S F x))
 | [],x,a5,a6,a7,_,_,_,_=>⟨a5,a6,a7,rfl⟩
 |r::F,x,a5,a6,a7,hF,nd,h,hg=>by
  rw[Wl] at h;obtain⟨c6,c7,e⟩:=SK (hF r Wi) h8 (a0:=a0) (a1:=some (.lst (S.map ag))) (a3:=a3) S x a6 a7 hS (by lia) hg;have g:=Gd.row (op:=jd) (r:=r) (S:=S) (Gd.refl (x:=x) nd);have gl:=K7 g hg;have rl:=Gu (op:=jd) (r:=r) S x;have un:lvl jd S (r::F) x=lvl jd S F (S.foldl (λz s=>ins z (jd r s)) x):=rfl;rw[un];generalize S.foldl (λz s=>ins z (jd r s)) x=y at e g gl rl ⊢;rw[V_,ir];obtain⟨b5,b6,b7,e2⟩:=Qn h8 hS h3 (a0:=a0) (a3:=a3) F y (some (ag r)) c6 c7 (λz hz=>hF z (Wh _ hz)) g.nd (by lia) gl;refine⟨b5,b6,b7,?_⟩;rw[←e2];unfold cQ;simp only[Pzz,bJ,Nat.reduceAdd,Nat.reduceSub,e]
noncomputable def hP:Ev->R (Bool×Ev):=gB (aW G1 (fO lE (ae (aa 4) aq)) (gC (.int 0)))
noncomputable def bP:Ev->SR:=aD (aX 5 (cM aq)) (aD (fD (gQ (aa 4)) (cE 6) eS) (lh 4 5))
theorem SM:jY=aD (aX 2 (qx (ae (aa 0) aq))) (aD (aX 3 (zF (aa 2))) (aD (aX 4 (cM (ae (aa 2) aq))) (aD (bG hP bP 1000) (bA (fO iy (ae (aa 3) aq)))))):=rfl
noncomputable def hW:Ev->R (Bool×Ev):=Ed (gB (aW (yW not) (aa 3) (cM aq))) (gB (aW QZ (fO l9 (ae (aa 2) aq)) (gC (.int 120))))
noncomputable def bW:Ev->SR:=aD (aX 4 (cM aq)) (aD (fD (gQ (aa 3)) (cE 5) cQ) (lh 3 4))
theorem SN:gD=aD (aX 2 (zF (qx (ae (aa 0) aq)))) (aD (aX 3 (fO rq (ae (aa 2) aq))) (aD (bG hW bW 1000) (aD (jt (gB (aW G1 (fO l9 (ae (aa 2) aq)) (gC (.int 120)))) (bA (gC (.str "many"))) bF) (bA (fO iy (ae (aa 2) aq)))))):=rfl
noncomputable abbrev rP (n:Nat)(S:List Rw)(a2 a5 a6 a7 a8:Option U)(M F:List Rw):Ev:=[some (.int n),some (.lst (S.map ag)),a2,some (DB M),some (.lst (F.map ag)),a5,a6,a7,a8]
noncomputable abbrev rL (n:Nat)(S:List Rw)(a4 a5 a6 a7:Option U)(M F:List Rw):Ev:=[some (.int n),some (.lst (S.map ag)),some (DB M),some (.lst (F.map ag)),a4,a5,a6,a7]
theorem Gv {a2:Option U}{M:List Rw}:hP (rP n S a2 a5 a6 a7 a8 M F)=.ok (!F.isEmpty,rP n S a2 a5 a6 a7 a8 M F):=by
 have d:decide ((0:Int)<((F.map ag).length:Nat)) = !F.isEmpty:=by
  cases F with
  |nil=>rfl
  |cons x F=>rw[V6,Wl];exact hG (by lia)
 unfold hP;simp only[Pzz,bJ,Nat.reduceAdd,Nat.reduceSub,d]
theorem Bu {M:List Rw}(ne:M≠[]):hW (rL n S a4 a5 a6 a7 M F)=.ok (!F.isEmpty&&decide (M.length<=120),rL n S a4 a5 a6 a7 M F):=by
 have d:decide (((M.length:Nat):Int)<=120)=decide (M.length<=120):=decide_eq_decide.mpr (by lia);unfold hW;cases c:F.isEmpty with
 |true=>simp only[Pzz,bJ,Nat.reduceAdd,Nat.reduceSub,vY,c,Xo,aaw]
 |false=>simp only[Pzz,bJ,Nat.reduceAdd,Nat.reduceSub,vY,c,XZ,C5 ne,d,aae]
theorem Qo (h8:n<=8)(hS:∀s∈S,Ow n s){a2:Option U}{M:List Rw}(hF:∀r∈F,Ow n r)(nd:M.Nodup)(ne:M≠[])(h:M.length<=120) :
  ∃b6 b7 b8,bP (rP n S a2 a5 a6 a7 a8 M F)=if (lvl aJ S F (M,[])).1.length<=120 then .nx (rP n S a2 none b6 b7 b8 (lvl aJ S F (M,[])).1 (lvl aJ S F (M,[])).2) else .exc "TooMany" .non:=by
 obtain⟨b6,b7,b8,e⟩:=Qm h8 hS (a0:=some (.int n)) (a2:=a2) (a4:=some (.lst (F.map ag))) F (M,[]) a6 a7 a8 hF nd ne h (Yi _);refine⟨b6,b7,b8,?_⟩;have e:cV (cE 6) eS (F.map ag) [some (.int n),some (.lst (S.map ag)),a2,some (DB M),some (.lst (F.map ag)),some (.lst []),a6,a7,a8]=_:=e;unfold bP;by_cases c:(lvl aJ S F (M,[])).1.length<=120
 ·rw[hZ c] at e ⊢;simp only[Pzz,bJ,Nat.reduceAdd,Nat.reduceSub,e]
 ·rw[hV c] at e ⊢;simp only[Pzz,bJ,Nat.reduceAdd,Nat.reduceSub,e,vX]
theorem Qp (h8:n<=8)(hS:∀s∈S,Ow n s)(h3:S.length<=3){M:List Rw}(hF:∀r∈F,Ow n r)(nd:M.Nodup)(h:M.length+3*F.length<=90000) :
  ∃b5 b6 b7,bW (rL n S a4 a5 a6 a7 M F)=.nx (rL n S none b5 b6 b7 (lvl jd S F (M,[])).1 (lvl jd S F (M,[])).2):=by
 obtain⟨b5,b6,b7,e⟩:=Qn h8 hS h3 (a0:=some (.int n)) (a3:=some (.lst (F.map ag))) F (M,[]) a5 a6 a7 hF nd h (Yi _);refine⟨b5,b6,b7,?_⟩;have e:cV (cE 5) cQ (F.map ag) [some (.int n),some (.lst (S.map ag)),some (DB M),some (.lst (F.map ag)),some (.lst []),a5,a6,a7]=_:=e;unfold bW;simp only[Pzz,bJ,Nat.reduceAdd,Nat.reduceSub,e]
def Rj (n:Nat)(S:List Rw)(r:SR)(r':SR):Prop:=
 (r=.exc "TooMany" .non/\∃a4 a5 a6 a7 M F,r'=.nx (rL n S a4 a5 a6 a7 M F)/\M≠[]/\120<M.length) \/
 ∃a2 a5 a6 a7 a8 b4 b5 b6 b7 M F M' F',r=.nx (rP n S a2 a5 a6 a7 a8 M F)/\r'=.nx (rL n S b4 b5 b6 b7 M' F')/\M.Perm M'/\M.length<=120/\M≠[]/\∀x∈M,Ow n x
theorem NF (h8:n<=8)(hS:∀s∈S,Ow n s)(h3:S.length<=3):∀(N k:Nat) (M F M' F':List Rw) (a2 a5 a6 a7 a8 b4 b5 b6 b7:Option U),Lv aJ (au n) S k M F->Lv jd (au n) S k M' F'->F.length=F'.length->M.length<=120->(F=[]\/122<=N+M.length)->
  Rj n S (bG hP bP (N+1) (rP n S a2 a5 a6 a7 a8 M F)) (bG hW bW (N+1) (rL n S b4 b5 b6 b7 M' F')):=by
 intro N
 induction N with
 |zero=>
  intro k M F M' F' a2 a5 a6 a7 a8 b4 b5 b6 b7 L L' hf hm hz;have hF:F=[]:=hz.resolve_right (by lia);subst hF;have QQ:F'=[]:=WM hf.symm;subst QQ;refine .inr ⟨a2,a5,a6,a7,a8,b4,b5,b6,b7,M,[],M',[],?_,?_,L.perm hS L',hm,L.ne,λx hx=>oK (λa b ha hb=>nJ ha hb) hS ((L.mem x).mp hx)⟩
  ·rw[fP,Gv];rfl
  ·rw[fP,Bu L'.ne];rfl
 |succ N ih=>
  intro k M F M' F' a2 a5 a6 a7 a8 b4 b5 b6 b7 L L' hf hm hz;have pm:=L.perm hS L';have lm:=pm.length_eq;by_cases hF:F=[]
  ·subst hF;have QQ:F'=[]:=WM hf.symm;subst QQ;refine .inr ⟨a2,a5,a6,a7,a8,b4,b5,b6,b7,M,[],M',[],?_,?_,pm,hm,L.ne,λx hx=>oK (λa b ha hb=>nJ ha hb) hS ((L.mem x).mp hx)⟩
   ·rw[fP,Gv];rfl
   ·rw[fP,Bu L'.ne];rfl
  ·have hz:=hz.resolve_left hF;have nf:(!F.isEmpty)=true:=by cases F with
    |nil=>exact absurd rfl hF
    |cons=>rfl
   have QQ:F'≠[]:=λz=>hF (WM (by rw[hf,z];rfl));have VL:(!F'.isEmpty)=true:=by cases F' with
    |nil=>exact absurd rfl QQ
    |cons=>rfl
   have fs:=L.few;obtain⟨L1,q1⟩:=L.step;obtain⟨L2,q2⟩:=L'.step;obtain⟨c6,c7,c8,e1⟩:=Qo h8 hS (a2:=a2) (a5:=a5) (a6:=a6) (a7:=a7) (a8:=a8) (λr hr=>oK (λa b ha hb=>nJ ha hb) hS ((L.mem r).mp (L.sub r hr))) L.nd L.ne hm;obtain⟨d5,d6,d7,e2⟩:=Qp h8 hS h3 (a4:=b4) (a5:=b5) (a6:=b6) (a7:=b7) (λr hr=>oK (λa b ha hb=>nJ hb ha) hS ((L'.mem r).mp (L'.sub r hr))) L'.nd (by lia);have lq:=(L1.perm hS L2).length_eq;rw[fP,Gv,nf,fP,Bu L'.ne,VL,hG (show M'.length<=120 by lia)];show Rj n S ((bP _).turn (bG hP bP (N+1))) ((bW _).turn (bG hW bW (N+1)));rw[e1,e2];generalize lvl aJ S F (M,[])=x at L1 q1 lq ⊢;generalize lvl jd S F' (M',[])=y at L2 q2 lq ⊢;by_cases c:x.1.length<=120
   ·rw[hZ c];show Rj n S (bG hP bP (N+1) _) (bG hW bW (N+1) _);refine ih (k+1) _ _ _ _ _ _ _ _ _ _ _ _ _ L1 L2 (by lia) c ?_;by_cases z:x.2=[]
    ·exact .inl z
    ·have:=aba.mpr z;exact .inr (by lia)
   ·rw[hV c];refine .inl ⟨rY,none,d5,d6,d7,y.1,y.2,?_,L2.ne,(by lia)⟩;show bG hW bW (N+1) _=_;rw[fP,Bu L2.ne,hJ (show ¬y.1.length<=120 by lia),aay];rfl
theorem rZ (h1:1<=n)(h8:n<=8)(hS:∀s∈S,Ow n s)(h3:S.length<=3):(bR [.int n,.lst (S.map ag)]=.exc "TooMany" .non/\bp [.int n,.lst (S.map ag)]=.ok (.str "many"))\/∃K:List Rw,bR [.int n,.lst (S.map ag)]=.ok (.lst (K.map ag))/\bp [.int n,.lst (S.map ag)]=.ok (.lst (K.map ag))/\K.length<=120:=by
 have T:=NF h8 hS h3 999 0 [au n] [au n] [au n] [au n] (some (ag (au n))) none none none none none none none none Lv.zero Lv.zero rfl (by show 1<=120;decide) (.inr (by show 122<=999+1;decide));have T:Rj n S (bG hP bP 1000 (rP n S (some (ag (au n))) none none none none [au n] [au n])) (bG hW bW 1000 (rL n S none none none none [au n] [au n])):=T;have er:ag (au n)=.tup (aE 0 n):=by rw[fj];rfl
 have dt:∀{ρ:Ev},SH (.tup (aE 0 n)) ρ=.ok (DB [au n],ρ):=by rw[←er];exact Jj
 have VM:[au n]≠[]:=by simp
 have lB:=Qk VM;have Tr:bR [.int n,.lst (S.map ag)]=CJ .O ((bG hP bP 1000 (rP n S (some (ag (au n))) none none none none [au n] [au n])).seq (bA (fO iy (ae (aa 3) aq)))):=by
  rw[bR,SM,er];have mm:[au n].map ag=[.tup (aE 0 n)]:=by rw[←er];rfl
  show _=CJ .O ((bG hP bP 1000 [some (.int n),some (.lst (S.map ag)),some (.tup (aE 0 n)),some (DB [au n]),some (.lst ([au n].map ag)),none,none,none,none]).seq _);rw[mm];simp only[Pzz,bJ,Nat.reduceAdd,Nat.reduceSub,iS n (by lia),K5,dt]
 have Tt:bp [.int n,.lst (S.map ag)]=CJ .S ((bG hW bW 1000 (rL n S none none none none [au n] [au n])).seq (aD (jt (gB (aW G1 (fO l9 (ae (aa 2) aq)) (gC (.int 120)))) (bA (gC (.str "many"))) bF) (bA (fO iy (ae (aa 2) aq))))):=by
  rw[bp,SN];simp only[Pzz,bJ,Nat.reduceAdd,Nat.reduceSub,iS n (by lia),K5,dt,lB];rfl
 rw[Tr,Tt];rcases T with⟨e1,a4,a5,a6,a7,M,F,e2,nM,hM⟩|⟨a2,a5,a6,a7,a8,b4,b5,b6,b7,M,F,M',F',e1,e2,pm,hM,nM,hO⟩
 ·left;have d:decide ((120:Int)<(M.length:Nat))=true:=hG (by lia);rw[e1,e2];refine⟨by rw[vX,Gq],?_⟩;simp only[Pzz,bJ,Nat.reduceAdd,Nat.reduceSub,C5 nM,d]
 ·right;have lm:=pm.length_eq;have Ut:M'≠[]:=λz=>nM (WM (by rw[lm,z];rfl));have d:decide ((120:Int)<(M'.length:Nat))=false:=hJ (by lia);have nn:∀x∈M,x≠[]:=λx hx z=>by
   have:=(hO x hx).1;rw[z] at this;have e0:(([]:Rw)).length=0:=rfl;lia
  have s1:=K4 nM (by lia) nn;have s2:=K4 Ut (by lia) λx hx=>nn x (pm.mem_iff.mpr hx);rw[←sZ pm] at s2;refine⟨l0 M,?_,?_,by rw[(gu M).length_eq];exact hM⟩
  ·rw[e1];simp only[Pzz,bJ,Nat.reduceAdd,Nat.reduceSub,s1]
  ·rw[e2];simp only[Pzz,bJ,Nat.reduceAdd,Nat.reduceSub,C5 Ut,d,s2]
theorem mE {α:Type}{sg:U->Ev->R Ev}{s:Ev->SR}(f:α->U)(c:α->Bool)(I:Ev->Prop):∀{xs:List α},(∀x∈xs,∀ρ,I ρ->∃ρ1,sg (f x) ρ=.ok ρ1/\((c x=true/\∃ρ2,s ρ1=.nx ρ2/\I ρ2)\/(c x=false/\∃ρ2,s ρ1=.rt (.bl false) ρ2)))->∀{ρ:Ev},I ρ ->
  (xs.all c=true/\∃ρ',cV sg s (xs.map f) ρ=.nx ρ'/\I ρ')\/(xs.all c=false/\∃ρ',cV sg s (xs.map f) ρ=.rt (.bl false) ρ')
 | [],_,ρ,h=>.inl ⟨rfl,ρ,vc,h⟩
 |x::xs,st,ρ,h=>by
  obtain⟨ρ1,e1,q⟩:=st x Wi ρ h;rw[V_,ir,e1,AG,Yj];rcases q with⟨cu,ρ2,e2,h2⟩|⟨cu,ρ2,e2⟩
  ·rw[e2,vd,cu,aae];exact mE f c I (λx hx=>st x (Wh _ hx)) h2
  ·rw[e2,vf,cu,aaw];exact .inr ⟨rfl,ρ2,rfl⟩
noncomputable def Rk (mn:Bool)(u:U)(ρ:Ev):R (U×Ev):=match u with
 | .dct ks us=>if ug ks=true then (match fL us with
  |some (n::ns)=>.ok (.int (xP mn n ns),ρ)
  |_=>.stk) else .stk
 |_=>.stk
theorem vZ {mn:Bool}{g:Ev->R (U×Ev)}:iW mn g ρ=(g ρ).bind λx=>Rk mn x.1 x.2:=nr rfl
theorem Bv {mn:Bool}{p:Rw×Int}:Rk mn (DU (p::d)) ρ=.ok (.int (xP mn p.2 (d.map (·.2))),ρ):=by
 have e:fL ((p::d).map λq=>U.int q.2)=some (p.2::d.map (·.2)):=by
  have:((p::d).map λq=>U.int q.2)=(p.2::d.map (·.2)).map U.int:=by rw[V_,V_,WG];rfl
  rw[this,nI]
 refine (hZ (vU (d:=p::d) (by simp))).trans ?_;rw[e]
theorem Gw:∀(ns:List Int) (m:Int),m<=kI m ns/\∀a∈ns,a<=kI m ns
 | [],m=>⟨aa_ _,λa h=>by cases h⟩
 |n::ns,m=>by
  obtain⟨h1,h2⟩:=Gw ns (if m<n then n else m);have e:kI m (n::ns)=kI (if m<n then n else m) ns:=rfl;rw[e];have:m<=(if m<n then n else m)/\n<=(if m<n then n else m):=by split<;>lia
  refine⟨Int.le_trans this.1 h1,λa ha=>?_⟩;rcases Wn.mp ha with rfl|z
  ·exact Int.le_trans this.2 h1
  ·exact h2 a z
theorem Jl {n0:Int}:l8 n0 ns=kI n0 ns↔∀a∈ns,a=n0:=by
 obtain⟨m1,m2,m3⟩:=vF ns n0;obtain⟨x1,x2⟩:=Gw ns n0;constructor
 ·intro e a ha;have:=m2 a ha;have:=x2 a ha;lia
 ·intro h;have c:∀(ns:List Int) (n0:Int),(∀a∈ns,a=n0)->l8 n0 ns=n0/\kI n0 ns=n0:=λns=>by
   induction ns with
   |nil=>intro n0 _;exact⟨rfl,rfl⟩
   |cons n ns ih=>
    intro n0 h;have e:=h n Wi;subst e;have q:=ih n λa ha=>h a (Wh _ ha);have i1:(if n<n then n else n)=n:=by split<;>rfl
    exact⟨by show l8 (if n<n then n else n) ns=n;rw[i1];exact q.1,by show kI (if n<n then n else n) ns=n;rw[i1];exact q.2⟩
  rw[(c ns n0 h).1,(c ns n0 h).2]
theorem ym:∀(l:List Nat) (v:Nat),(∀x∈l,x=v)->l.foldl aav v=v
 | [],_,_=>rfl
 |x::l,v,h=>by
  rw[Ya,h x Wi,Nat.gcd_self];exact ym l v λy hy=>h y (Wh _ hy)
theorem Bw:∀(l:List Nat) (g:Nat),l.foldl aav g ∣ g/\∀x∈l,l.foldl aav g ∣ x
 | [],g=>⟨Nat.dvd_refl _,λx h=>by cases h⟩
 |x::l,g=>by
  obtain⟨h1,h2⟩:=Bw l (aav g x);refine⟨Nat.dvd_trans h1 (Nat.gcd_dvd_left _ _),λy hy=>?_⟩;rcases Wn.mp hy with rfl|z
  ·exact Nat.dvd_trans h1 (Nat.gcd_dvd_right _ _)
  ·exact h2 y z
theorem Gx {p:Rw×Int}(h:Sm (p::d)):(∀q∈i8 (p::d),q.2=1)↔∀a∈d.map (·.2),a=p.2:=by
 have gp:=ye h;have dv:∀q∈p::d,i6 (p::d) ∣ q.2.toNat:=λq hq=>(Bw ((p::d).map λq=>q.2.toNat) 0).2 _ (W8 (f:=λq:Rw×Int=>q.2.toNat) hq);have ps:=h.ps;constructor
 ·intro a;have key:∀q∈p::d,q.2=(i6 (p::d):Int):=λq hq=>by
   have e:=a (q.1,q.2 / (i6 (p::d):Int)) (W8 (f:=λq:Rw×Int=>(q.1,q.2 / (i6 (p::d):Int))) hq);have e:q.2 / (i6 (p::d):Int)=1:=e;obtain⟨c,hc⟩:=dv q hq;have:=ps q hq;have q2:q.2=(i6 (p::d):Int)*(c:Nat):=by
    have:(q.2.toNat:Int)=q.2:=(by lia)
    rw[←this,hc];simp
   rw[q2,Int.mul_ediv_cancel_left _ (by lia)] at e;rw[q2,e];lia
  intro b hb;obtain⟨q,hq,rfl⟩:=WY.mp hb;rw[key q (Wh _ hq),key p Wi]
 ·intro a q hq;obtain⟨r,hr,rfl⟩:=WY.mp hq;have e:r.2=p.2:=by
   rcases Wn.mp hr with z|z
   ·rw[z]
   ·exact a _ (W8 (f:=λq:Rw×Int=>q.2) z)
  have g:i6 (p::d)=p.2.toNat:=by
   unfold i6;rw[V_,Ya,abX];exact ym _ _ λx hx=>by
    obtain⟨q,hq,rfl⟩:=WY.mp hx;rw[a _ (W8 (f:=λq:Rw×Int=>q.2) hq)]
  have:=ps p Wi;show r.2 / (i6 (p::d):Int)=1;rw[e,g,show ((p.2.toNat:Nat):Int)=p.2 by lia];exact Int.ediv_self (by lia)
theorem uE {α:Type}{f:U->R (Option U)}{c:α->U}{p:α->Bool}:∀{xs:List α},(∀x∈xs,f (c x)=.ok (if p x=true then some (c x) else none))->wu f (xs.map c)=.ok ((xs.filter p).map c)
 | [],_=>rfl
 |x::xs,h=>by
  rw[V_];unfold wu;rw[h x Wi];show (wu f (xs.map c)).bind _=_;rw[uE λy hy=>h y (Wh _ hy)];show R.ok _=_;rw[List.filter_cons];cases p x<;>rfl
theorem v5 (r:List Int):ja (ag r)=some (.tup (r.map .int)):=by unfold ag ja;rw[CL];rfl
theorem r6 {α:Type}{f:α->U}{g:α->D}(h:∀x,ja (f x)=some (g x)):∀xs:List α,fE (xs.map f)=some (xs.map g)
 | []=>by unfold fE;rfl
 |x::xs=>by rw[V_];unfold fE;rw[h,r6 h xs];rfl
theorem Bx (r:List Int):cF (.tup (r.map .int))<=1:=by unfold cF;rw[zj];lia
theorem By (a b:List Int):fV (.tup (a.map .int)) (.tup (b.map .int))=decide (a=b):=by unfold fV;exact ud a b
theorem zT (c:List Int)(JI:List (List Int)):Oo not (ag c) (.tup (JI.map ag))=.ok (.bl (!decide (c∈JI))):=by
 unfold Oo FR;rw[v5];show (match some (D.tup (c.map .int)),fE (JI.map ag) with|some dx,some ds=>_|_,_=>_)=_;rw[r6 v5];dsimp only;rw[hZ (by rw[aaC];exact WT.mpr λr _=>hG (by have:=Bx r;show cF (.tup (r.map .int))<=30;lia))];congr 3;rw[List.any_map];have:((λd=>fV d (.tup (c.map .int)))∘λr:List Int=>D.tup (r.map .int))=λr=>decide (r=c):=funext λr=>By r c;rw[this];by_cases h:c∈JI
 ·rw[hG h];exact aaK.mpr ⟨c,h,hG rfl⟩
 ·rw[hJ h];exact List.any_eq_false.mpr λr hr e=>h (by rw[←of_decide_eq_true e];exact hr)
noncomputable def tB:U->Bool
 | .bl b=>b
 |_=>true
theorem NG (bs:List Bool):u9 [.lst (bs.map U.bl)]=.ok (.bl (bs.all id)):=by
 have e:=qD (bs.map U.bl) tB;rw[WG,aaC] at e;exact e
theorem Bz {k:Rw}:∀(ws:List (Rw×Int)) (d:Dc),k∈(du d ws).map (·.1)↔k∈d.map (·.1)\/k∈ws.map (·.1)
 | [],d=>by show k∈d.map (·.1)↔_;simp
 |p::ws,d=>by
  show k∈(du (nG d p.1 p.2) ws).map (·.1)↔_;rw[Bz ws,V_,Wn];unfold nG;rw[rQ];by_cases c:p.1∈d.map (·.1)
  ·rw[hZ c];constructor
   ·rintro (z|z)
    ·exact .inl z
    ·exact .inr (.inr z)
   ·rintro (z|z|z)
    ·exact .inl z
    ·exact .inl (by rw[z];exact c)
    ·exact .inr z
  ·rw[hV c,WE,WK];constructor
   ·rintro ((z|z)|z)
    ·exact .inl z
    ·exact .inr (.inl z)
    ·exact .inr (.inr z)
   ·rintro (z|z|z)
    ·exact .inl (.inl z)
    ·exact .inl (.inr z)
    ·exact .inr z
theorem Jm {k:Rw}{l:List Rw}:k∈(jD l).map (·.1)↔k∈l:=by
 unfold jD;rw[Bz,WG];have:l.map ((λp:Rw×Int=>p.1)∘λx=>(x,(1:Int)))=l:=List.map_id' l;rw[this];simp
theorem SO {k:Rw}:xj id (ag k) (DU d)=.ok (.bl (decide (k∈d.map (·.1)))):=by
 show (if jb (jh d) (ag k)=true then R.ok (U.bl (id (eN (jh d) (xZ d) (ag k)).isSome)) else .stk)=_;rw[hZ (mv d k),vT];by_cases c:k∈d.map (·.1)
 ·rw[hZ c,hG c];rfl
 ·rw[hV c,hJ c];rfl
noncomputable def Jn (ss:List Rw):Bool:=ss.all λa=>ss.all λb=>decide (aJ a b∈ss)
theorem Gy {ks:List Rw}(h:∀k,k∈ks↔k∈ss):Jn ks=Jn ss:=by
 unfold Jn;rw[Xl,WT,WT];constructor
 ·intro a x hx;refine WT.mpr λy hy=>hG ((h _).mp ?_);exact of_decide_eq_true (WT.mp (a x ((h x).mpr hx)) y ((h y).mpr hy))
 ·intro a x hx;refine WT.mpr λy hy=>hG ((h _).mpr ?_);exact of_decide_eq_true (WT.mp (a x ((h x).mp hx)) y ((h y).mp hy))
theorem SQ:jB=aD (aX 1 (ip 1 eR (ae (aa 0) aq))) (aD (jt (gB (aW (iz not) (iW true (aa 1)) (iW false (aa 1)))) (bA (gC (.bl false))) bF) (aD (fD (IB (aa 1)) (cE 2) fR) (bA (gC (.bl true))))):=rfl
theorem v7 {ks:List Rw}{t:Bool}(h8:n<=8)(ck:eR [SU ss]=.ok (DU d))(nd:d≠[])(hk:d.map (·.1)=ks)(ko:∀k∈ks,Ow n k)(bv:∀(ρ:Ev),∃x y:Int,Rk true (DU d) ρ=.ok (.int x,ρ)/\Rk false (DU d) ρ=.ok (.int y,ρ)/\(x==y)=t):fo [SU ss]=.ok (.bl (t&&Jn ks)):=by
 have wk:∀{ρ:Ev},SF (DU d) ρ=.ok (ks.map ag,ρ):=λ{ρ}=>by rw[mw nd,←hk,WG];rfl
 have F:=mE (sg:=cE 2) (s:=fR) ag (λa=>ks.all λb=>decide (aJ a b∈ks)) (λρ=>∃o,ρ=[some (SU ss),some (DU d),o]) (xs:=ks) (λa ha ρ h00=>by
   obtain⟨o,hρ⟩:=h00;subst hρ;refine⟨[some (SU ss),some (DU d),some (ag a)],rfl,?_⟩;have e:wu (yT [none,some 1,some 2] (cE 0) d9 (aW (xj id) (ip 2 g8 (ae (aa 2) (ae (aa 0) aq))) (aa 1)) [some (SU ss),some (DU d),some (ag a)]) (ks.map ag)=.ok ((ks.map λb=>decide (aJ a b∈ks)).map U.bl):=by
    rw[WG];exact ft λb hb=>by
     have t:=Bp (a:=a) (b:=b) (λi hi=>by rw[(ko a ha).1];exact (ko b hb).2 i hi) (by have:=(ko b hb).1;lia);simp only[Pzz,bJ,Nat.reduceAdd,Nat.reduceSub,t,SO,hk];rfl
   have ea:=NG (ks.map λb=>decide (aJ a b∈ks));rw[aaC] at ea;have ea:u9 [.lst ((ks.map λb=>decide (aJ a b∈ks)).map U.bl)]=.ok (.bl (ks.all λb=>decide (aJ a b∈ks))):=ea;unfold fR;cases c:(ks.all λb=>decide (aJ a b∈ks)) with
   |true=>
    rw[c] at ea;refine .inl ⟨rfl,_,?_,some (ag a),rfl⟩;simp only[Pzz,bJ,Nat.reduceAdd,Nat.reduceSub,yd,wk,e,ea,Xo]
   |false=>
    rw[c] at ea;refine .inr ⟨rfl,[some (SU ss),some (DU d),some (ag a)],?_⟩;simp only[Pzz,bJ,Nat.reduceAdd,Nat.reduceSub,yd,wk,e,ea,XZ]) (ρ:=[some (SU ss),some (DU d),none]) ⟨none,rfl⟩
 have F:(Jn ks=true/\_)\/(Jn ks=false/\_):=F;obtain⟨x,y,b1,b2,eb⟩:=bv [some (SU ss),some (DU d),none];rw[fo,SQ];cases t with
 |false=>simp only[Pzz,bJ,Nat.reduceAdd,Nat.reduceSub,ck,vZ,b1,b2,cL,eb,XZ,aaw]
 |true=>
  rcases F with⟨cl,ρ',e,_⟩|⟨cl,ρ',e⟩
  ·rw[cl];simp only[Pzz,bJ,Nat.reduceAdd,Nat.reduceSub,ck,vZ,b1,b2,cL,eb,Xo,yd,wk,e,aae]
  ·rw[cl];simp only[Pzz,bJ,Nat.reduceAdd,Nat.reduceSub,ck,vZ,b1,b2,cL,eb,Xo,yd,wk,e,aae]
theorem SS:g_=aD (aX 1 (ip 1 cq (ae (aa 0) aq))) (aD (jt (gB (aW (yW not) (j8 (IB (aa 1)) [none,some 1] (cE 0) (gB (aW (iz not) (aW oW (aa 1) (aa 0)) (gC (.int 1)))) (aa 0)) (cM aq))) (bA (gC (.bl false))) bF) (aD (fD (gQ (aa 0)) (cE 2) cC) (bA (gC (.bl true))))):=rfl
theorem s_ (h8:n<=8)(lk:cq [SU ss]=.ok (DU d))(nd:d≠[])(nn:Nd d)(ko:∀k∈ss,Ow n k):dA [SU ss]=.ok (.bl ((d.all λq=>q.2==1)&&Jn ss)):=by
 have e:∀(o2 o3:Option U),wu (yT [none,some 1] (cE 0) (gB (aW (iz not) (aW oW (aa 1) (aa 0)) (gC (.int 1)))) (aa 0) [some (SU ss),some (DU d),o2,o3]) (d.map λq=>ag q.1)=.ok ((d.filter λq=> !(q.2==1)).map λq=>ag q.1):=λo2 o3=>uE λq hq=>by
  have g:=Gh (d:=d) (k:=q.1) (W8 (f:=λq:Rw×Int=>q.1) hq);rw[mq nn hq] at g;cases c:(q.2==1) with
  |true=>simp only[Pzz,bJ,Nat.reduceAdd,Nat.reduceSub,g,cL,c,Xo,Xj,if_false]
  |false=>simp only[Pzz,bJ,Nat.reduceAdd,Nat.reduceSub,g,cL,c,XZ,if_true]
 have en:m9 (.lst ((d.filter λq=> !(q.2==1)).map λq=>ag q.1)) (.lst [])=.ok (d.all λq=>q.2==1):=by
  have:=vY (F:=(d.filter λq=> !(q.2==1)).map (·.1));rw[WG] at this;have q:m9 (.lst ((d.filter λq=> !(q.2==1)).map λq=>ag q.1)) (.lst [])=.ok ((d.filter λq=> !(q.2==1)).map (·.1)).isEmpty:=this;rw[q];congr 1;rw[Xl,List.isEmpty_iff,YF,List.filter_eq_nil_iff,WT];constructor
  ·intro a x hx;have:=a x hx;cases c:(x.2==1) with
   |true=>rfl
   |false=>rw[c] at this;exact absurd rfl this
  ·intro a x hx;rw[a x hx];exact V5
 have G:∀(o1:Option U) (a:Rw) (ha:a∈ss) (o3:Option U),((ss.all λb=>decide (aJ a b∈ss))=true/\∃o,cC [some (SU ss),o1,some (ag a),o3]=.nx [some (SU ss),o1,some (ag a),o])\/((ss.all λb=>decide (aJ a b∈ss))=false/\∃ρ',cC [some (SU ss),o1,some (ag a),o3]=.rt (.bl false) ρ'):=λo1 a ha o3=>by
  have F:=mE (sg:=cE 3) (s:=gA) ag (λb=>decide (aJ a b∈ss)) (λρ=>∃o,ρ=[some (SU ss),o1,some (ag a),o]) (xs:=ss) (λb hb ρ h00=>by
   obtain⟨o,hρ⟩:=h00;subst hρ;refine⟨[some (SU ss),o1,some (ag a),some (ag b)],rfl,?_⟩;have t:=Bq (a:=a) (b:=b) (λi hi=>by rw[(ko a ha).1];exact (ko b hb).2 i hi) (by have:=(ko b hb).1;lia);have ni:Oo not (ag (aJ a b)) (SU ss)=_:=zT (aJ a b) ss;unfold gA;cases c:decide (aJ a b∈ss) with
   |true=>
    rw[c] at ni;refine .inl ⟨rfl,_,?_,some (ag b),rfl⟩;simp only[Pzz,bJ,Nat.reduceAdd,Nat.reduceSub,t,ni,Xo]
   |false=>
    rw[c] at ni;refine .inr ⟨rfl,[some (SU ss),o1,some (ag a),some (ag b)],?_⟩;simp only[Pzz,bJ,Nat.reduceAdd,Nat.reduceSub,t,ni,XZ]) (ρ:=[some (SU ss),o1,some (ag a),o3]) ⟨o3,rfl⟩
  have sb:∀{ρ:Ev},vg (SU ss) ρ=.ok (ss.map ag,ρ):=λ{ρ}=>by rw[pM]
  unfold cC;rcases F with⟨cl,ρ',e,o,rfl⟩|⟨cl,ρ',e⟩
  ·exact .inl ⟨cl,o,by simp only[Pzz,bJ,Nat.reduceAdd,Nat.reduceSub,sb,e]⟩
  ·exact .inr ⟨cl,ρ',by simp only[Pzz,bJ,Nat.reduceAdd,Nat.reduceSub,sb,e]⟩
 have sb:∀{ρ:Ev},vg (SU ss) ρ=.ok (ss.map ag,ρ):=λ{ρ}=>by rw[pM]
 have F:=mE (sg:=cE 2) (s:=cC) ag (λa=>ss.all λb=>decide (aJ a b∈ss)) (λρ=>∃o2 o3,ρ=[some (SU ss),some (DU d),o2,o3]) (xs:=ss) (λa ha ρ h00=>by
  obtain⟨o2,o3,hρ⟩:=h00;subst hρ;refine⟨[some (SU ss),some (DU d),some (ag a),o3],rfl,?_⟩;rcases G (some (DU d)) a ha o3 with⟨c,o,e⟩|⟨c,ρ',e⟩
  ·exact .inl ⟨c,_,e,_,_,rfl⟩
  ·exact .inr ⟨c,_,e⟩) (ρ:=[some (SU ss),some (DU d),none,none]) ⟨none,none,rfl⟩
 have F:(Jn ss=true/\_)\/(Jn ss=false/\_):=F;rw[dA,SS];cases c1:(d.all λq=>q.2==1) with
 |false=>
  rw[c1] at en;simp only[Pzz,bJ,Nat.reduceAdd,Nat.reduceSub,lk,yd,mw nd,e,en,XZ,aaw]
 |true=>
  rw[c1] at en;rcases F with⟨cl,ρ',e2,_⟩|⟨cl,ρ',e2⟩
  ·rw[cl];simp only[Pzz,bJ,Nat.reduceAdd,Nat.reduceSub,lk,yd,mw nd,e,en,Xo,sb,e2,aae]
  ·rw[cl];simp only[Pzz,bJ,Nat.reduceAdd,Nat.reduceSub,lk,yd,mw nd,e,en,Xo,sb,e2,aae]
theorem C6 (h8:n<=8)(hl:ss.length<1000)(ne:ss≠[])(hO:∀s∈ss,Ow n s):∃t:Bool,fo [SU ss]=.ok (.bl t)/\dA [SU ss]=.ok (.bl t):=by
 have sm:=Nw ne hl;have ck:=zO (pM ss) (by lia);have lk:=C2 (pM ss) (by lia) sm;have mk:∀k,k∈(jD ss).map (·.1)↔k∈ss:=λk=>Jm;generalize jD ss=d at sm ck lk mk;have ln:i8 d≠[]:=λz=>sm.ne (YF.mp z);have ko:∀k∈d.map (·.1),Ow n k:=λk hk=>hO k ((mk k).mp hk);have e2:=s_ h8 lk ln (Bh sm.nd) hO;refine⟨_,v7 (t:=(i8 d).all λq=>q.2==1) h8 ck sm.ne rfl ko λρ=>?_,by rw[Gy mk];exact e2⟩;obtain⟨p,d,rfl⟩:=abh sm.ne;refine⟨_,_,Bv,Bv,?_⟩;rw[Xl,beq_iff_eq,WT];show l8 p.2 _=kI p.2 _↔_;rw[Jl,←Gx sm];exact⟨λa q hq=>beq_iff_eq.mpr (a q hq),λa q hq=>beq_iff_eq.mp (a q hq)⟩
noncomputable def sA:Ev->SR:=(aD (aX 6 (ip 2 bM (ae (aa 3) (ae (aa 8) aq))))
 (aD (jt (HL (sO (gB (ip 2 (aL 6) (ae (aa 6) (ae (aa 9) aq))))) (gB (aW (yW not) (aa 8) (aa 7)))) (bA (gC (.bl false))) bF)
 (jt (gB (aW (yW not) (aa 9) (gC (.str "many")))) (aD (ke (gM "list" 6 qy aq))
 (jt (sO (gB (ip 2 (aL 6) (ae (ip 2 bM (ae (aa 3) (ae (aa 8) aq))) (ae (aa 9) aq))))) (bA (gC (.bl false))) bF)) bF)))
noncomputable def SV:Ev->SR:=(aD (aX 6 (ip 2 cH (ae (aa 3) (ae (aa 8) aq))))
 (aD (jt (HL (sO (gB (ip 2 (aL 6) (ae (aa 6) (ae (aa 9) aq))))) (gB (aW (yW not) (aa 8) (aa 7)))) (bA (gC (.bl false))) bF)
 (jt (gB (aW (yW not) (aa 9) (gC (.str "many")))) (λ_=>.stk) bF)))
theorem Qq:rG=(aD (aX 2 (ip 2 cJ (ae (aa 0) (ae (aa 1) aq))))
 (aD (aX 3 (aW bV (gC (.int 1)) (jQ 2 2 az (ae (gC (.int 8)) aq))))
 (aD (aX 4 (jQ 2 2 aI (ae (aa 3) aq)))
 (aD (nv 6 (fD (gQ (cM (ae (aa 4) (ae (j7 jg (aW qz (aa 4) (gC (.int 2))) bN (bE (gC (.int 24)))) (ae (aW bV (j7 jg (aa 4) bN (bE (gC (.int 23)))) (j7 jg (aa 4) bN (bE (gC (.int 1))))) aq))))) (cE 5)
 kK))
 (aD (aX 7 (uZ uy (fh (ae (jQ 2 2 az (ae (gC (.int 4)) aq)) aq)) [none,some 2,some 3] (cE 0) d9 (aW n6 (cM (ae (jQ 2 1 aV (ae (aa 2) aq)) (ae (jQ 2 1 cK (ae (aa 2) aq)) aq))) (jQ 2 1 az (ae (gC (.int 2)) aq)))))
 (aD (aX 8 (fO n9 (ae (aa 7) aq)))
 (aD (aX 9 (ip 2 bp (ae (aa 3) (ae (aa 7) aq))))
 (Oq sA (nv 6 SV))))))))):=rfl
theorem NH {α:Type}{k:α->SR}:SR.of (R.stk:R α) k=.stk:=nr rfl
theorem Jo {s:Ev->SR}:SR.stk.seq s=.stk:=nr rfl
theorem Gz:Rg i (.nx ρ)=.nx (ρ.set i none):=nr rfl
theorem K8 {g1 g2:Ev->SR}:Oq g1 g2 ρ=match g1 ρ with
 | .stk=>g2 ρ
 |r=>r:=rfl
theorem Jp:qy (.lst us) []=.ok (.non,.lst []):=nr rfl
theorem NI {n:Int}:qz (.tup us) (.int n)=if 2<=n/\us.length*n.toNat<=100000/\us≠[] then .ok (.tup (WO n.toNat us).flatten) else .stk:=nr rfl
theorem Jq (K:List Rw):m9 (.lst (K.map ag)) (.lst (K.map ag))=.ok true:=by
 have e:=r6 v5 K;have r:∀K:List Rw,f9 (K.map λr=>D.tup (r.map .int)) (K.map λr=>D.tup (r.map .int))=true/\dZ (K.map λr=>D.tup (r.map .int))<=1:=λK=>by
  induction K with
  |nil=>simp[f9,dZ]
  |cons x K ih=>
   rw[V_];refine⟨?_,?_⟩
   ·unfold f9;rw[By,hG rfl,ih.1];rfl
   ·unfold dZ;have:=Bx x;have:=ih.2;lia
 unfold m9;rw[show ja (.lst (K.map ag))=some (.lst (K.map λr=>D.tup (r.map .int))) by unfold ja;rw[e];rfl];dsimp only;rw[hZ (by unfold cF;have:=(r K).2;lia)];unfold fV;rw[(r K).1]
theorem Jr (K:List Rw)(x:Str):m9 (.lst (K.map ag)) (.str x)=.ok false:=by
 obtain⟨ds,e,l,n⟩:=zS K;unfold m9;rw[show ja (.lst (K.map ag))=some (.lst ds) by unfold ja;rw[e];rfl,show ja (.str x)=some (.str x) by unfold ja;rfl];dsimp only;rw[hZ (by unfold cF;lia)];simp[fV]
theorem Qr (x:Str):m9 (.str x) (.str x)=.ok true:=by
 unfold m9;rw[show ja (.str x)=some (.str x) by unfold ja;rfl];dsimp only;rw[hZ (by unfold cF;lia)];simp[fV]
noncomputable def NJ (us:List U)(ρ:Ev):R (List U×Ev):=match us with
 | [u,w]=>match Cw u,Cw w with
  |some us,some ws=>.ok (Zo (λa b=>.tup [a,b]) us ws,ρ)
  |_,_=>.stk
 |_=>.stk
theorem K9 {ga:Ev->R (List U×Ev)}:Im ga ρ=(ga ρ).bind λx=>NJ x.1 x.2:=nr rfl
theorem Js {ws:List U}:NJ [.tup us,.tup ws] ρ=.ok (Zo (λa b=>.tup [a,b]) us ws,ρ):=nr rfl
theorem Jt {ws:List U}:NJ [.lst us,.lst ws] ρ=.ok (Zo (λa b=>.tup [a,b]) us ws,ρ):=nr rfl
noncomputable def GA (T1 T2:String)(u:U)(ρ:Ev):R (U×Ev):=if Ce u="script" then .stk else .ok (.bl (dF (Ce u) T1||dF (Ce u) T2),ρ)
theorem pO {T1 T2:String}{g:Ev->R (U×Ev)}:ze T1 T2 g ρ=(g ρ).bind λx=>GA T1 T2 x.1 x.2:=nr rfl
theorem Ju {i:Int}:GA "tuple" "list" (.int i) ρ=.ok (.bl false,ρ):=(hV (show ¬("int"="script") by decide)).trans (congrArg (λz=>R.ok (U.bl z,ρ)) (show (dF "int" "tuple"||dF "int" "list")=false by decide))
theorem Jv {i:Str}:GA "tuple" "list" (.str i) ρ=.ok (.bl false,ρ):=(hV (show ¬("str"="script") by decide)).trans (congrArg (λz=>R.ok (U.bl z,ρ)) (show (dF "str" "tuple"||dF "str" "list")=false by decide))
theorem Jw:GA "tuple" "list" (.tup us) ρ=.ok (.bl true,ρ):=(hV (show ¬("tuple"="script") by decide)).trans (congrArg (λz=>R.ok (U.bl z,ρ)) (show (dF "tuple" "tuple"||dF "tuple" "list")=true by decide))
theorem Jx:GA "tuple" "list" (.lst us) ρ=.ok (.bl true,ρ):=(hV (show ¬("list"="script") by decide)).trans (congrArg (λz=>R.ok (U.bl z,ρ)) (show (dF "list" "tuple"||dF "list" "list")=true by decide))
theorem GB {i:Int}:aL (k+1) [.int i,.int i]=.ok (.bl true):=by
 simp only[Pzz,bJ,Nat.reduceAdd,Nat.reduceSub,aL,b9,pO,Ju,cL,kM,beq_self_eq_true,id]
theorem GC {i:Str}:aL (k+1) [.str i,.str i]=.ok (.bl true):=by
 simp only[Pzz,bJ,Nat.reduceAdd,Nat.reduceSub,aL,b9,pO,Jv,vS,kM,beq_self_eq_true,id]
theorem BA (us:List U):Zo (λa b=>U.tup [a,b]) us us=us.map λa=>.tup [a,a]:=by
 induction us with
 |nil=>rfl
 |cons u us ih=>rw[Zc,ih];rfl
theorem BB (n:Nat):fi .S 2 (b9 n)=aL n:=rfl
theorem BC {x:U}(h:∀u∈us,aL k [u,u]=.ok (.bl true)):wu (yT [none,none] (wR 2 (jr (cE 0) (jr (cE 1) wQ))) d9 (ip 2 (aL k) (ae (aa 0) (ae (aa 1) aq))) [some x,some x]) (us.map λa=>U.tup [a,a])=.ok (us.map λ_=>.bl true)/\u9 [.lst (us.map λ_=>U.bl true)]=.ok (.bl true):=by
 refine⟨ft λx hx=>by
  rw[Fg,UH];simp only[Pzz,bJ,Nat.reduceAdd,Nat.reduceSub,h x hx],?_⟩
 have ea:=qD us λ_=>true;have eb:(us.all λ_=>true)=true:=by rw[WT];intros;rfl
 rw[eb] at ea;exact ea
theorem GD (h:∀u∈us,aL k [u,u]=.ok (.bl true)):aL (k+1) [.tup us,.tup us]=.ok (.bl true):=by
 obtain⟨e,ea⟩:=BC (x:=.tup us) h;rw[aL,b9,BB];simp only[Pzz,bJ,Nat.reduceAdd,Nat.reduceSub,pO,Jw,cL,kM,beq_self_eq_true,Xo,K9,Js,BA,id,e,ea]
theorem GF (h:∀u∈us,aL k [u,u]=.ok (.bl true)):aL (k+1) [.lst us,.lst us]=.ok (.bl true):=by
 obtain⟨e,ea⟩:=BC (x:=.lst us) h;rw[aL,b9,BB];simp only[Pzz,bJ,Nat.reduceAdd,Nat.reduceSub,pO,Jx,cL,kM,beq_self_eq_true,Xo,K9,Jt,BA,id,e,ea]
theorem C7 (K:List Rw):aL 6 [.lst (K.map ag),.lst (K.map ag)]=.ok (.bl true):=GF λu hu=>by
 obtain⟨x,_,rfl⟩:=WY.mp hu;exact GD λu hu=>by
  obtain⟨y,_,rfl⟩:=WY.mp hu;exact GB
theorem zU {os:Rw}(h:yi m os):Ow m os:=⟨Nz h,λi hi=>qC.mp (h.mem_iff.mp hi)⟩
theorem Qs (h:i<n):yG n (i:Int)=some i:=by
 unfold yG;rw[hZ (by lia),hZ (by lia)];simp
theorem GG {s:U}(hs:vV s)(h1:1<=m)(h8:m<=8):∃a s',cK [s,.int m]=.ok (ag a,s')/\Ow m a/\vV s':=by
 obtain⟨r,s1,e1,r0,r1,kP⟩:=gY (m:=3) hs (by decide) (by decide);obtain⟨c,hc,c0⟩:∃c:Nat,ku [U.int 2,U.int 3,U.int 5] r=some (.int c)/\1<=c:=by
  have:r=0\/r=1\/r=2:=(by lia)
  rcases this with rfl|rfl|rfl
  ·exact⟨2,rfl,(by decide)⟩
  ·exact⟨3,rfl,(by decide)⟩
  ·exact⟨5,rfl,(by decide)⟩
 obtain⟨os,s2,e2,ho,bK⟩:=mC (m:=m) kP (by lia);have O:=zU ho;obtain⟨z,hz,z1,zm⟩:∃z:Nat,(if ((c:Nat):Int)<(m:Int) then ((c:Nat):Int) else (m:Int))=z/\1<=z/\z<=m:=by
  by_cases q:((c:Nat):Int)<(m:Int)
  ·exact⟨c,hZ q,c0,(by lia)⟩
  ·exact⟨m,hV q,h1,Wf _⟩
 have tl:(os.take z).length=z:=by rw[Wx,O.1];lia
 have at_:∀i:Nat,i<z->∃v:Nat,ku ((os.take z).map U.int) (i:Int)=some (.int v)/\v<m:=λi hi=>by
  have hl:i<(os.take z).length:=(by lia)
  have b:=O.2 _ (Xr (WU hl));refine⟨((os.take z)[i]).toNat,?_,(by lia)⟩;rw[uc,Wu,V4 hl];show some (U.int _)=_;rw[show (((os.take z)[i]).toNat:Int)=(os.take z)[i] by lia]
 obtain⟨ρ',e,a,o,rfl,A⟩:=eQ (sg:=cE 5) (s:=tU 4 (aW n6 (aa 3) (aW oV (aW bV (aa 5) (gC (.int 1))) (aa 2))) (aW n6 (aa 3) (aa 5))) (us:=aE 0 z) (λi ρ=>∃(a:Rw) (o:Option U),ρ=[some s2,some (.int m),some (.int z),some (.lst ((os.take z).map U.int)),some (.lst (a.map U.int)),o]/\Ow m a)
  (λi v ρ hv h00=>by
   obtain⟨a,o,hρ,A⟩:=h00;subst hρ;have hi:i<z:=by
    rcases aaH i z with y|y
    ·exact y
    ·rw[Xz.mpr (by rw[aY];exact y)] at hv;cases hv
   obtain rfl:v=.int i:=by
    rw[jE,Wu,ZU hi] at hv;cases hv;rfl
   obtain⟨v,hv2,vm⟩:=at_ i hi;have md:((i:Int)+1) % (z:Int)=(((i+1) % z:Nat):Int):=by rw[Int.natCast_emod];rfl
   obtain⟨w,hw,wm⟩:=at_ ((i+1) % z) (Nat.mod_lt _ (by lia));have zp:decide (0<((z:Nat):Int))=true:=hG (by lia);have ix:yG (a.map U.int).length ((v:Nat):Int)=some v:=Qs (by rw[V6,A.1];exact vm);refine⟨_,_,rfl,.inl ?_,a.set v (w:Int),some (.int i),rfl,by rw[XI];exact A.1,λj hj=>?_⟩
   ·rw[List.map_set];simp only[Pzz,bJ,Nat.reduceAdd,Nat.reduceSub,Xk,W7,hv2,md,zp,hw,Ki ix]
   ·rcases List.mem_or_eq_of_mem_set hj with q|q
    ·exact A.2 j q
    ·rw[q];lia) (ρ:=[some s2,some (.int m),some (.int z),some (.lst ((os.take z).map U.int)),some (.lst ((au m).map U.int)),none]) ⟨_,_,rfl,K6 m⟩
 refine⟨a,s2,?_,A,bK⟩;rw[←fj] at e;unfold ag;simp only[Pzz,bJ,Nat.reduceAdd,Nat.reduceSub,cK,iZ,e1,hc,hz,e2,gH,←Y8,AR m (by lia),jy z (by lia),e]
noncomputable def gO:Ev->R (U×Ev):=aW n6 (cM (ae (jQ 2 1 aV (ae (aa 2) aq)) (ae (jQ 2 1 cK (ae (aa 2) aq)) aq))) (jQ 2 1 az (ae (gC (.int 2)) aq))
theorem Jy (h1:1<=m)(h8:m<=8){t:Nat}{s:U}(hs:vV s){a1 a9:Option U}:∃(S:List Rw) (s':U),mZ uy [none,some 2,some 3] (cE 0) d9 gO (aE 0 t) [a0,a1,some s,some (.int m),a4,a5,none,a7,a8,a9]=.ok (S.map ag,[a0,a1,some s',some (.int m),a4,a5,none,a7,a8,a9])/\S.length=t/\(∀x∈S,Ow m x)/\vV s':=by
 obtain⟨ys,s',e,ly,S,hy,hS,hs'⟩:=lP (G:=uy) (js:=[none,some 2,some 3]) (sg:=cE 0) (ge:=gO)
  (λx:U=>[a0,a1,some x,some (.int m),a4,a5,none,a7,a8,a9]) t (λys x=>∃S:List Rw,ys=S.map ag/\(∀x∈S,Ow m x)/\vV x)
  (λdone u x hd h00=>by
   obtain⟨S,hr,hS,hx⟩:=h00;obtain⟨os,x1,f1,ho,G6⟩:=mC (m:=m) hx (by lia);obtain⟨b,x2,f2,hb,Rr⟩:=GG (m:=m) G6 h1 h8;obtain⟨r,x3,f3,r0,r1,hx3⟩:=gY (m:=2) Rr (by decide) (by decide);obtain⟨y,hy,Y⟩:∃y:Rw,ku [ag os,ag b] r=some (ag y)/\Ow m y:=by
    have:r=0\/r=1:=(by lia)
    rcases this with rfl|rfl
    ·exact⟨os,rfl,zU ho⟩
    ·exact⟨b,rfl,hb⟩
   refine⟨[some u,some x,some (.int m)],ag y,[some u,some x3,some (.int m)],x3,rfl,?_,rfl,S++[y],by rw[hr,WH];rfl,λz hz=>?_,hx3⟩
   ·unfold gO;have f1:aV [x,.int m]=.ok (ag os,x1):=f1;simp only[Pzz,bJ,Nat.reduceAdd,Nat.reduceSub,f1,f2,f3,hy]
   ·rcases WE.mp hz with q|q
    ·exact hS z q
    ·rw[WK.mp q];exact Y) (aE 0 t) [] s (by rw[aY];simp) ⟨[],rfl,(λb h=>by cases h),hs⟩
 rw[X7] at hy;subst hy;rw[aY,V6] at ly;exact⟨S,s',e,ly,hS,hs'⟩
theorem GH (h8:m<=8)(hl:ss.length<=24)(ne:ss≠[])(hO:∀s∈ss,Ow m s){a1 a2 a3 a9:Option U}:∃b5 b6,cV (cE 5) kK [SU ss,SU ((WO 2 ss).flatten.take 24),SU (ss.take 23++ss.take 1)] [a0,a1,a2,a3,a4,a5,a6,a7,a8,a9]=.nx [a0,a1,a2,a3,a4,b5,b6,a7,a8,a9]:=by
 have fl:(WO 2 ss).flatten=ss++ss:=by simp[WO]
 obtain⟨ρ',e,b5,b6,rfl⟩:=eQ (sg:=cE 5) (s:=kK) (us:=[ss,(WO 2 ss).flatten.take 24,ss.take 23++ss.take 1].map SU) (λ_ ρ=>∃b5 b6,ρ=[a0,a1,a2,a3,a4,b5,b6,a7,a8,a9])
  (λi u ρ hu h00=>by
   obtain⟨b5,b6,hρ⟩:=h00;subst hρ;obtain⟨x,hx,rfl⟩:=WY.mp (Xq hu);have lp:=aba.mpr ne;have key:x≠[]/\x.length<1000/\∀s∈x,s∈ss:=by
    simp only[Wn,aaM,or_false] at hx;rcases hx with rfl|rfl|rfl
    ·exact⟨ne,(by lia),λs h=>h⟩
    ·rw[fl];refine⟨λz=>?_,by rw[Wx];lia,λs h=>?_⟩
     ·have:=congrArg aan z;rw[Wx,V9] at this;have e0:(([]:List Rw)).length=0:=rfl;lia
     ·exact (WE.mp (Xr h)).elim id id
    ·refine⟨λz=>?_,by rw[V9,Wx,Wx];lia,λs h=>(WE.mp h).elim Xr Xr⟩;have:=congrArg aan z;rw[V9,Wx,Wx] at this;have e0:(([]:List Rw)).length=0:=rfl;lia
   obtain⟨t,f1,f2⟩:=C6 h8 key.2.1 key.1 λs hs=>hO s (key.2.2 s hs);refine⟨_,_,rfl,.inl ?_,some (SU x),some (.bl t),rfl⟩;unfold kK;simp only[Pzz,bJ,Nat.reduceAdd,Nat.reduceSub,Xk,W7,f1,f2,kM,beq_self_eq_true,Xo]) (ρ:=[a0,a1,a2,a3,a4,a5,a6,a7,a8,a9]) ⟨_,_,rfl⟩
 exact⟨b5,b6,e⟩
theorem NK (h1:1<=m)(h8:m<=8)(hS:∀s∈S,Ow m s)(h3:S.length<=3){a1 a2 d:Option U}{due:U}(hd:bp [.int m,.lst (S.map ag)]=.ok due):∃b6,Oq sA (nv 6 SV) [a0,a1,a2,some (.int m),a4,a5,a6,some (.lst (S.map ag)),some (.lst (S.map ag)),some due]=.nx [a0,a1,a2,some (.int m),a4,a5,b6,some (.lst (S.map ag)),some (.lst (S.map ag)),some due]:=by
 have er:=Jq S;rcases rZ h1 h8 hS h3 with⟨f1,f2⟩|⟨K,f1,f2,_⟩
 ·rw[f2] at hd;cases hd;have tO:bM [.int m,.lst (S.map ag)]=.stk:=by
   rw[bM];have e1:ip 2 bR (ae (aa 0) (ae (aa 1) aq)) [some (.int m),some (.lst (S.map ag)),none]=(bR [.int m,.lst (S.map ag)]).bind λz=>.ok (z,[some (.int m),some (.lst (S.map ag)),none]):=rfl;show (match SR.of (ip 2 bR (ae (aa 0) (ae (aa 1) aq)) [some (.int m),some (.lst (S.map ag)),none]) (λx=>.rt x.1 x.2) with
      | .rt u _=>R.ok u
      | .nx _=>if Md.O=Md.S then .ok .non else .stk
      | .exc c u=>.exc c u
      |_=>.stk)=_
   rw[e1,f1];rfl
  have tS:cH [.int m,.lst (S.map ag)]=.ok (.str "many"):=by unfold cH;rw[f1]
  have A:sA [a0,a1,a2,some (.int m),a4,a5,a6,some (.lst (S.map ag)),some (.lst (S.map ag)),some (.str "many")]=.stk:=by
   unfold sA;simp only[Pzz,bJ,Nat.reduceAdd,Nat.reduceSub,tO,NH,Jo]
  refine⟨none,?_⟩;rw[K8,A];dsimp only;unfold SV;simp only[Pzz,bJ,Nat.reduceAdd,Nat.reduceSub,Gg,tS,Xk,W7,GC (k:=5),Xo,er,Qr,Gz]
 ·rw[f2] at hd;cases hd;have tO:bM [.int m,.lst (S.map ag)]=.ok (.lst (K.map ag)):=by
   rw[bM];simp only[Pzz,bJ,Nat.reduceAdd,Nat.reduceSub,f1]
  have A:sA [a0,a1,a2,some (.int m),a4,a5,a6,some (.lst (S.map ag)),some (.lst (S.map ag)),some (.lst (K.map ag))]=.nx [a0,a1,a2,some (.int m),a4,a5,some (.lst []),some (.lst (S.map ag)),some (.lst (S.map ag)),some (.lst (K.map ag))]:=by
   unfold sA;simp only[Pzz,bJ,Nat.reduceAdd,Nat.reduceSub,tO,Xk,W7,C7,Xo,er,Jr,XZ,Jp]
  refine⟨some (.lst []),?_⟩;rw[K8,A]
theorem Qt {x2 x3 x4 x5 x6 x7 x8 x9:Option U}:∃a b c d e f g h:Option U,rG [some (.scr (ns.map .int)),some (.int i),x2,x3,x4,x5,x6,x7,x8,x9]=.nx [some (.scr (ns.map .int)),some (.int i),a,b,c,d,e,f,g,h]:=by
 have Us:Wa=16777216:=rfl;obtain⟨s0,e0,h0⟩:=Gj (us:=[]) (u:=.scr (ns.map .int)) (ns:=ns) (k:=i) (.inl rfl) (by lia);obtain⟨t,s1,e1,t0,t1,h1⟩:=gY (m:=8) h0 (by decide) (by decide);obtain⟨m,hm⟩:∃m:Nat,1+t=m:=⟨(1+t).toNat,(by lia)⟩;obtain⟨ss,s2,e2,hO,n1,n24,h2⟩:=zR (m:=m) h1 (by lia) (by lia);have e2:aI [s1,.int m]=.ok (SU ss,s2):=e2;have ne:ss≠[]:=λz=>by rw[z] at n1;exact absurd n1 (by decide)
 obtain⟨b5,b6,e3⟩:=GH (m:=m) (by lia) n24 ne (λs hs=>zU (hO s hs)) (a0:=some (.scr (ns.map .int))) (a1:=some (.int i)) (a2:=some s2) (a3:=some (.int m)) (a4:=some (SU ss)) (a5:=x5) (a6:=x6) (a7:=x7) (a8:=x8) (a9:=x9);obtain⟨q,s3,e4,q0,q1,h3⟩:=gY (m:=4) h2 (by decide) (by decide);obtain⟨z,rfl⟩:∃z:Nat,q=z:=⟨q.toNat,(by lia)⟩;obtain⟨S,s4,e5,lS,hS,h4⟩:=Jy (m:=m) (by lia) (by lia) (t:=z) h3 (a0:=some (.scr (ns.map .int))) (a1:=some (.int i)) (a4:=some (SU ss)) (a5:=b5) (a7:=x7) (a8:=x8) (a9:=x9);obtain⟨due,e6⟩:∃due,bp [.int m,.lst (S.map ag)]=.ok due:=by
  rcases rZ (n:=m) (by lia) (by lia) hS (by lia) with⟨_,f2⟩|⟨K,_,f2,_⟩
  ·exact⟨_,f2⟩
  ·exact⟨_,f2⟩
 obtain⟨c6,e7⟩:=NK (m:=m) (by lia) (by lia) hS (by lia) (a0:=some (.scr (ns.map .int))) (a1:=some (.int i)) (a2:=some s4) (a4:=some (SU ss)) (a5:=b5) (a6:=none) (d:=none) e6;refine⟨some s4,some (.int m),some (SU ss),b5,c6,some (.lst (S.map ag)),some (.lst (S.map ag)),some due,?_⟩;have a1:∀(s:Ev->SR) (ρ ρ':Ev) (g:Ev->SR),g ρ=.nx ρ'->aD g s ρ=s ρ':=λs ρ ρ' g h=>by rw[EX,h];rfl
 rw[Qq];have k1:aX 2 (ip 2 cJ (ae (aa 0) (ae (aa 1) aq))) [some (.scr (ns.map .int)),some (.int i),x2,x3,x4,x5,x6,x7,x8,x9]=.nx [some (.scr (ns.map .int)),some (.int i),some s0,x3,x4,x5,x6,x7,x8,x9]:=by
  simp only[Pzz,bJ,Nat.reduceAdd,Nat.reduceSub,e0,Xk,W7]
 have k2:aX 3 (aW bV (gC (.int 1)) (jQ 2 2 az (ae (gC (.int 8)) aq))) [some (.scr (ns.map .int)),some (.int i),some s0,x3,x4,x5,x6,x7,x8,x9]=.nx [some (.scr (ns.map .int)),some (.int i),some s1,some (.int m),x4,x5,x6,x7,x8,x9]:=by
  simp only[Pzz,bJ,Nat.reduceAdd,Nat.reduceSub,e1,hm,Xk,W7]
 have k3:aX 4 (jQ 2 2 aI (ae (aa 3) aq)) [some (.scr (ns.map .int)),some (.int i),some s1,some (.int m),x4,x5,x6,x7,x8,x9]=.nx [some (.scr (ns.map .int)),some (.int i),some s2,some (.int m),some (SU ss),x5,x6,x7,x8,x9]:=by
  simp only[Pzz,bJ,Nat.reduceAdd,Nat.reduceSub,e2,Xk,W7]
 have k4:nv 6 (fD (gQ (cM (ae (aa 4) (ae (j7 jg (aW qz (aa 4) (gC (.int 2))) bN (bE (gC (.int 24)))) (ae (aW bV (j7 jg (aa 4) bN (bE (gC (.int 23)))) (j7 jg (aa 4) bN (bE (gC (.int 1))))) aq))))) (cE 5) kK) [some (.scr (ns.map .int)),some (.int i),some s2,some (.int m),some (SU ss),x5,x6,x7,x8,x9]=.nx [some (.scr (ns.map .int)),some (.int i),some s2,some (.int m),some (SU ss),b5,none,x7,x8,x9]:=by
  have mu:qz (SU ss) (.int 2)=.ok (.tup (WO 2 (ss.map ag)).flatten):=by
   unfold SU;rw[NI,hZ ⟨(by decide),by rw[V6];show ss.length*2<=_;lia,λz=>ne (YF.mp z)⟩];rfl
  have m2:(WO 2 (ss.map ag)).flatten.take 24=((WO 2 ss).flatten.take 24).map ag:=by
   rw[Y8];congr 1;simp[WO]
  have m3:(ss.map ag).take 23++(ss.map ag).take 1=(ss.take 23++ss.take 1).map ag:=by rw[WH,Y8,Y8]
  have VN:∀us:List U,gR us none (some 24)=us.take 24:=λus=>gH us 24;have VO:∀us:List U,gR us none (some 23)=us.take 23:=λus=>gH us 23;have c1:∀us:List U,gR us none (some 1)=us.take 1:=λus=>gH us 1;have ll:((ss.map ag).take 23).length+((ss.map ag).take 1).length<=Wa:=by rw[Wx,Wx,V6];lia
  have e3:cV (cE 5) kK [U.tup (ss.map ag),.tup (((WO 2 ss).flatten.take 24).map ag),.tup ((ss.take 23++ss.take 1).map ag)] [some (.scr (ns.map .int)),some (.int i),some s2,some (.int m),some (.tup (ss.map ag)),x5,x6,x7,x8,x9]=.nx [some (.scr (ns.map .int)),some (.int i),some s2,some (.int m),some (.tup (ss.map ag)),b5,b6,x7,x8,x9]:=e3;unfold SU at mu ⊢;generalize (WO 2 ss).flatten.take 24=X at e3 m2;generalize (WO 2 (ss.map ag)).flatten=R2 at mu m2;simp only[Pzz,bJ,Nat.reduceAdd,Nat.reduceSub,Gg,mu,VN,VO,c1,ll,m2,m3,e3,Gz,Xk,W7]
 have k5:aX 7 (uZ uy (fh (ae (jQ 2 2 az (ae (gC (.int 4)) aq)) aq)) [none,some 2,some 3] (cE 0) d9 (aW n6 (cM (ae (jQ 2 1 aV (ae (aa 2) aq)) (ae (jQ 2 1 cK (ae (aa 2) aq)) aq))) (jQ 2 1 az (ae (gC (.int 2)) aq)))) [some (.scr (ns.map .int)),some (.int i),some s2,some (.int m),some (SU ss),b5,none,x7,x8,x9]=.nx [some (.scr (ns.map .int)),some (.int i),some s4,some (.int m),some (SU ss),b5,none,some (.lst (S.map ag)),x8,x9]:=by
  unfold gO at e5;simp only[Pzz,bJ,Nat.reduceAdd,Nat.reduceSub,e4,jy z (by lia),e5,Xk,W7]
 have k6:aX 8 (fO n9 (ae (aa 7) aq)) [some (.scr (ns.map .int)),some (.int i),some s4,some (.int m),some (SU ss),b5,none,some (.lst (S.map ag)),x8,x9]=.nx [some (.scr (ns.map .int)),some (.int i),some s4,some (.int m),some (SU ss),b5,none,some (.lst (S.map ag)),some (.lst (S.map ag)),x9]:=by
  simp only[Pzz,bJ,Nat.reduceAdd,Nat.reduceSub,Xk,W7]
 have k7:aX 9 (ip 2 bp (ae (aa 3) (ae (aa 7) aq))) [some (.scr (ns.map .int)),some (.int i),some s4,some (.int m),some (SU ss),b5,none,some (.lst (S.map ag)),some (.lst (S.map ag)),x9]=.nx [some (.scr (ns.map .int)),some (.int i),some s4,some (.int m),some (SU ss),b5,none,some (.lst (S.map ag)),some (.lst (S.map ag)),some due]:=by
  simp only[Pzz,bJ,Nat.reduceAdd,Nat.reduceSub,e6,Xk,W7]
 rw[a1 _ _ _ _ k1,a1 _ _ _ _ k2,a1 _ _ _ _ k3,a1 _ _ _ _ k4,a1 _ _ _ _ k5,a1 _ _ _ _ k6,a1 _ _ _ _ k7];exact e7
theorem GI:F4=(aD (fD (fh (ae (fO w9 (ae (gC (.int 1)) (ae (fO qv (ae (fO lE (ae (aa 0) aq)) (ae (gC (.int 3)) aq))) aq))) aq)) (cE 1) rG) (bA (gC (.bl true)))):=rfl
theorem pure_law (ns:List Int)(hl:ns.length<=63):xT [.scr (ns.map .int)]=.ok (.bl true):=by
 obtain⟨z,hz⟩:∃z:Nat,(if (if (3:Int)<(((ns.map U.int).length:Nat):Int) then 3 else (((ns.map U.int).length:Nat):Int))>1 then (if (3:Int)<(((ns.map U.int).length:Nat):Int) then 3 else (((ns.map U.int).length:Nat):Int)) else 1)=z:=⟨(if (if (3:Int)<(((ns.map U.int).length:Nat):Int) then 3 else (((ns.map U.int).length:Nat):Int))>1 then (if (3:Int)<(((ns.map U.int).length:Nat):Int) then 3 else (((ns.map U.int).length:Nat):Int)) else 1).toNat,by split<;>(try split)<;>lia⟩;have zb:z<=1000:=by split at hz<;>(try split at hz)<;>lia
 obtain⟨ρ',e,a,b,c,d,e',f,g,h,j,rfl⟩:=eQ (us:=aE 0 z) (sg:=cE 1) (s:=rG) (λ_ ρ=>∃a b c d e f g h j:Option U,ρ=[some (.scr (ns.map .int)),a,b,c,d,e,f,g,h,j])
  (λi u ρ hu h00=>by
   obtain⟨a,b,c,d,e,f,g,h,j,hr⟩:=h00;subst hr;have hi:i<z:=by
    rcases aaH i z with y|y
    ·exact y
    ·rw[Xz.mpr (by rw[aY];exact y)] at hu;cases hu
   obtain rfl:u=.int i:=by
    rw[jE,Wu,ZU hi] at hu;cases hu;rfl
   obtain⟨a1,b1,c1,d1,e1,f1,g1,h1,q⟩:=Qt (ns:=ns) (i:=i) (x2:=b) (x3:=c) (x4:=d) (x5:=e) (x6:=f) (x7:=g) (x8:=h) (x9:=j);exact⟨_,_,rfl,.inl q,_,_,_,_,_,_,_,_,_,rfl⟩)
  (ρ:=[some (.scr (ns.map .int)),none,none,none,none,none,none,none,none,none]) ⟨_,_,_,_,_,_,_,_,_,rfl⟩
 unfold xT;rw[GI];simp only[Pzz,bJ,Nat.reduceAdd,Nat.reduceSub,hz,jy z (by lia),e]
theorem walk {q:YG}{d:DefRec}{K:Params->Wc}(Qx:d.params.defaults=[])(hY:∀(w:Xt) (h:Y5),YP w h->(K w.params).In h)(F:∀(w:Xt) (mg:Str->Option Wd) (fa:Ww) (h:Y5),(K w.params).In h->h.Ns WL mg->mg d.name=some (.ref fa)->
   ∃fd:Zu,(∀(s:Wr) (u:Wd),BindsTo s fd ⟨[u],[]⟩ [("script",u)])/\∀base:Y5,(K w.params).In base->base.Ns WL mg->iI PySem.Challenge.rw_hushcards_k14_closed_and_spanned.prog w (K w.params) mg base uQ 8 fa fd ["script"] (wX (K w.params))) :
  PySem.W.WalkO q loose XP YP PySem.Challenge.rw_hushcards_k14_closed_and_spanned.row.toRowW d [] (λf vs=>PySem.call f vs):=
 L2.walk_of (l:=PySem.Challenge.rw_hushcards_k14_closed_and_spanned) (n:=63) (k:=8) (x:="script") (CX:=λ_=>uQ) (sp:=λw=>wX (K w.params)) rfl (by decide) Qx ⟨rfl,(by decide),(by decide)⟩ hY F (λ_ _ a ns hl hO hS=>⟨a,ns,rfl,Mm hO hS,hl,λ_=>rfl⟩) λ_ _ _ _ _ z=>z
end Hc
open PySem PySem.W PyProof.Rows
set_option maxRecDepth 100000 in
set_option maxHeartbeats 0 in
theorem PySem.Challenge.cw_hushcards_k14_closed_and_spanned_holds : PySem.Challenge.rw_hushcards_k14_closed_and_spanned.Holds := by
 w_on
 refine PySem.W.holds_law (by decide+kernel) λTu=>?_;refine' PySem.W.holds_open Hc.left (PySem.W.Hook.of _) (PySem.W.Hook.keeps _) (XP:=PySem.W.XL Hc.vw [])
  (λs e=>PySem.W.xl_of s (Bool.and_eq_true_iff.mp e).1) PySem.W.XL.keeps ?d ?t ?k
  (λs e=>PySem.W.recFacts_of (Bool.and_eq_true_iff.mp e).2) ?w Tu ?g ⟨rfl,rfl,rfl,rfl,rfl,by decide+kernel⟩ ?hw ?hc
 case d=>rfl
 case t=>rfl
 case k=>rfl
 case w=>rfl
 case g=>decide+kernel
 case hw=>w_witness2
 show PySem.W.WalkO Hc.vw [] (PySem.W.XL Hc.vw []) (PySem.W.InK Hc.Kf) _ _ _ _
 k_fill
 refine Hc.walk rfl (λw h Y=>Y) ?F
 case F=>
  intro w mg fa h KX G Qy;refine' Hc.all_mk KX G Qy ?_ ?_ ?_ ?_ ?_ ?_ ?_ ?_ ?_ ?_ ?_ ?_ ?_ ?_ ?_ ?_ ?_ ?_ ?_ ?_ ?_ ?_ ?_ ?_ ?_ ?_ ?_ ?_ ?_ ?_ ?_ ?_ ?_ ?_ ?su ?wd ?we ?jI ?j4 ?sv ?nR ?jJ ?GW ?N8 ?N9 ?N_ ?Oa ?Ob ?JH ?Oc ?z9 ?Od ?GX ?sC ?wg ?wj ?jK ?nS ?sD ?nU Hc.pure_law
  (case su=>k_is)
  (case wd=>k_is)
  (case we=>k_is)
  (case jI=>k_is)
  (case j4=>k_is)
  (case sv=>k_is)
  (case nR=>k_is)
  (case jJ=>k_is)
  (case GW=>k_exc)
  (case N8=>k_is)
  (case N9=>k_is)
  (case N_=>k_is)
  (case Oa=>k_is)
  (case Ob=>k_is)
  (case JH=>k_is)
  (case Oc=>k_is)
  (case z9=>kts_exm)
  (case Od=>kit_is)
  (case GX=>k_is)
  (case sC=>kit_is)
  (case wg=>kit_is)
  (case wj=>kit_is)
  (case jK=>kit_is)
  (case nS=>kit_is)
  (case sD=>kit_is)
  (case nU=>kit_is)
  all_goals first|k_is|exact .mk (by k_is) (by k_is) (by k_is) (by k_is)|skip