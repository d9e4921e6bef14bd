import PyProof.Rows.All
import Wide.All
import OpenK.AllK
import Wide.FinOn
import Lean
import PyProof.EqAt
import PyProof.EqKinds
import PyProof.TupleCall
import PyProof.NeKinds
import PyProof.TupleKey
import PyProof.DictRoadsH
import PySem.SetTable
import PyProof.SetRoads
import PyProof.DictKeyH
import PyProof.IsRules
import PyProof.Rows.SetFrom
import PyProof.WalksMore
import PyProof.ListMulRoad
import PyProof.FactsAll.subtypes_4
import PyProof.Rows.ListMulArg
import PyProof.ZipIter
import PyProof.Rows.SortRuns
import PyProof.Rows.SortKey
import PyProof.Rows.SortShell
import PyProof.Rows.SortWalk
import KE.KSortTup
import KE.KDictList
import PyProof.AutoListH
import PyProof.SumWalk
import PyProof.WalkInts
import KE.KRevSl
import PySem.Challenge.RW_hushcards_k71_plans_of_a_menu
set_option Elab.async false
set_option linter.all false
set_option maxRecDepth 100000
set_option maxHeartbeats 4000000
open List renaming getElem?_eq_getElem->Uv,length_map->Ux,size_toArray->UC,length_append->UH,length_cons->UI,getElem?_eq_some_iff->UJ,mem_cons_self->UL,mem_cons_of_mem->UM,map_cons->UT,mem_cons->UU,append_assoc->UZ,mem_append->U2,mem_singleton->U6,length_take->U7,getElem?_map->U8,mem_append_right->U9,map_append->Va,range->Vc,mem_map->Vg,flatten_cons->Vj,length_drop->Vl,getElem?_set_ne->Vp,take_append_drop->Vr,mem_of_getElem?->Vt,append_nil->Vw,length_range->Vx,mem_range->Vz,getElem_mem->VA,getElem?_append_right->VG,eq_nil_of_length_eq_zero->VJ,map_map->VL,all_eq_true->VM,perm_append_comm->VO,getElem?_cons_succ->VR,lookup_cons->VS,replicate->VT,getElem?_append_left->VU,mem_append_left->V4,mem_of_mem_take->V5,set_cons_zero->V6,take_of_length_le->V7,drop_eq_getElem_cons->V9,getElem?_eq_none_iff->V_,nil_append->Wc,replicate_succ->Wf,length_set->Wo,take_succ_eq_append_getElem->Wt,map_take->Ww,mem_nil_iff->Wz,mem_iff_getElem->WC,mem_of_mem_drop->WD,pairwise_map->WJ,nodup_cons->WL,length_nil->WM,map_congr_left->WO,flatten_append->WQ,mem_map_of_mem->WR,take_length->WU,map_nil->WW,length_singleton->WY,set_cons_succ->W6,pairwise_iff_getElem->W_,extract_eq_take_drop->Xb,getElem?_range->Xk,drop_eq_nil_of_le->Xo,pairwise_cons->Xr,exists_cons_of_ne_nil->XH,drop_length->XR,length->XU,reverse_append->XX,zip_cons_cons->X5,forIn_cons->X8,getD->X9,getElem?_drop->X_,getElem?_take->Yd,getElem?_set_self->Yf,getElem_take->Yq,reverse_cons->Yr,drop_zero->Yu,length_replicate->YA,nodup_range->YE,not_mem_nil->YF,any_eq_true->YH,map_drop->YM,mem_filter->YN,filterMap_cons->YO,length_reverse->YX,map_eq_nil_iff->YY,getD_eq_getElem?_getD->Y5,mem_filterMap->Y6,drop_drop->Zf,exists_mem_of_ne_nil->Zh,any_eq_false->Zk,getElem?_take_of_lt->Zl,filterMap_cons_some->Zq,ext_getElem?->Zr,nodup_append->Zt
open PySem renaming wpAny_bind->Uw,Value->Uz,sizeLine->UA,wpAny_pure->UD,Shared->UQ,starEach->UX,Addr->UY,mainGlobals->U3,wpAny->U4,model->Vf,bootBuiltins->Vs,Around->VE,wpAny_newObj_type->VI,mem_of_lookup->VP,wpAny_callSpecial?_slot->VQ,wpAny_setState_of->VY,wpAny_call_entry->V2,wpAny_mono->V3,foldedSetIterable->Wh,wpAny_holding->Wl,bindArgs->Wm,wpAny_field->Wn,wpAny_askSetting->WA,Expr->WI,codeAny_builtin->WN,compareOp->WV,wpAny_setField_rec->W4,sizeLine_eq->W7,wpAny_seqItems->Xa,wpAny_truthy_bool->Xd,Heap->Xi,assignEach->Xm,wpAny_rule->Xn,binaryOp->Xq,cLine->Xu,World->Xx,behindInMarks->Xy,backTo->XF,IsPair->XG,Program->XI,SetTable->XQ,unsupported->XW,start->X2,wpAny_passesOwn->X4,wpAny_attempt->Yc,eval->Yg,wpAny_pyIter_list->Yi,sliceBounds->Yl,HeapKind->Yv,wpAny_setField->Yx,swapsWith->Yy,codeAny_mono->Yz,wpAny_typeOf->YB,wpAny_updateSeq_pair->YI,FuncData->YJ,letOwnedTupleGo->YQ,wpAny_of_eq->YS,wpAny_setEntries_of->YV,wpAny_Call_Name_kw->Y7,firstArgMember->Zc,Scope->Zi,seqIndex?->Zm,call_meets->Zn,NameKind->Zx,pickOrder->Zz
open PySem.Heap renaming get?_push_of_some->Uy,get?_push_size->UN,lt_size->UR,size_push->WE,get?_update_self->WX,SameBut->Xs
open PySem.W renaming Frag->UB,fnOf->US,nsIn->Vb,keepIn->Vd,codeIn->Vn,mg_none_of->Vy,mg_of->VB,kia_one->V8,kia_tup->Wx,kitx_list->Yj,kitx_dict->Yk,findIn->Ys,kitAny->Zd,methodObj->Zj
open Array renaming length_toList->UE,getElem?_toList->U_,getElem?_eq_getElem->Vh,toList_append->VF,getElem?_eq_some_iff->VH,toList_extract->Xc,toList_push->Xh,toList_reverse->XJ,getD->Yo,toList_setIfInBounds->Y3,perm_iff_toList_perm->Y4
open Bool renaming false_ne_true->UG,false_eq_true->Vi,and_eq_true->Vu,or_eq_false_iff->WB,eq_iff_iff->Xe,eq_false_iff->XC,or_self->X1,not_true->Ya,and_false->Yt,not_false->Yw
open Nat renaming le_refl->UK,ne_of_lt->Ve,lt_of_lt_of_le->Vo,le_trans->VC,min_eq_left->Wb,le_add_right->We,lt_irrefl->Wj,mul_assoc->Wq,add_sub_cancel_left->Wr,zero_le->Wy,pow_succ->WG,mul_comm->WH,le_of_lt_succ->WK,zero_add->WZ,lt_or_ge->W0,succ_pos->Xv,mod_lt->XD,ne_of_gt->XY,lt_of_le_of_lt->X7,lt_succ_of_lt->Ym,mul_left_comm->Yn,lt_trichotomy->Yp,sub_self->Y9,add_zero->Y_,add_sub_cancel->Zb
open PySem.Str renaming ofString->UO
open PyProof.Rows renaming wpS_bind->UP,wpS_pure->UW,SortSt->U1,Keyed->U5,pendingOf->Vk,arrOf->Vq,kindOf->V0,wpS_forRange->V1,slot_tuple_getitem->Wu,wpS_mono->W5,IntsAre->W8,callWith_type1->Xt,SortKind->XS,failedOf->XT,wpS_modify->X0,reverseSlice'->YL,envOfC->Y8,gallopOf->Za,elem'->Ze,wpS_get->Zg,KeyOrd->Zy
open Option.some renaming inj->U0
open PyProof.Rows.KeyOrd renaming kle_trans->Vm,kle_of_klt->VD,kle_refl->Wd
open PySem.Builtin.SmallTypes renaming nextOf->Vv,ownedTupleIsFree->Wg,ownedTupleHandOut->XO
open List.Perm renaming append_left->VN,append_right->VZ,refl->Wa
open Int renaming toNat_natCast->VX,emod_lt_of_pos->W2,emod_nonneg->Xw
open PySem.Builtin.Tuple renaming tupleExact->Wi,tupleItemsOf->Y1,tupleIsExact->Y2
open PySem.Around renaming under_plainId->Ws
open PySem.Heap.SameBut renaming update->Wv
open PySem.PassesOwn renaming never->WS
open PySem.F renaming slot_tuple_iterator_next->WT,plainAttrs_list->Xl,args_tuple_add_2->XZ,entry_tuple_add->X6,slot_tuple_add->Yh,args_tuple_iterator_next_1->YK,entry_tuple_iterator_next->YT,slot_zip_next->YU,slot_list_extend->Zv,type_list_extend->Zw
open PySem.Obj renaming data_mapFields->W3,mapSeq->XB,isFreed_of_fields->YC,putSet->Zs,cls_mapFields->Zu
open PySem.Builtin.Slice renaming slicePlaces->W9,sliceAdjust->XM,sliceApplied->Y0
open PySem.Builtin.List renaming listTooLong->Xf,listExtendWith->YR,listLengthHint->YW
open List.Pairwise renaming imp_of_mem->Xg
open List.Nodup renaming length_le_of_subset->Xj
open Option renaming map_eq_some_iff->Xp,getD_none->YD,getD_some->YG
open False renaming elim->Xz
open PySem.SeqAt renaming EqAt->XA
open Classical renaming byContradiction->XN
open PySem.Builtin.Range renaming rangeSize->X3
open PyProof.Rows.F renaming plain_set_update_loop->Yb
open Nat.Coprime renaming dvd_of_dvd_mul_right->Ye
open PySem.Calls renaming Name_function_global->YZ
open PySem.SeqAt.RcAt renaming lists_lengths->Zo
open PySem PySem.Spec PyProof.Rows
variable {a b it f z i1 i2 a1 a2:UY}{o y l T ra rb S:List U5}{P prog:XI}{w:Xx}{h h':Xi}{t' i j k n g d m mask bc ep:Nat}{ch fp:List UY}{x qual:Str}{N ps loose:List Str}{M:Model}{A:UY→Prop}{E Q:Uz→UQ→Prop}{t:XQ}{s:UQ}{pins:List (UY×Obj)}{pos p2:Pos}{op:CmpOp}{c tg iter elt:WI}{K:UB}{st:Stmt}{es:Array (Int×Uz)}{lo hi:Option Int}{body:List Stmt}{C:Nat→Option (Int×Uz)}{ar:List Uz}{mg:Str→Option Uz}{base rows:List (List Int)}{fd:YJ}{scope:Zi}{items ys:Array Uz}{ns os:List Int}{q:Uz}{XP:(Str→Option Uz)→Xi→Prop}{YP:Xx→Xi→Prop}{js:List (Option Nat)}{nQ:List WI}{l1 l2:Bool}{arr:Array U5}
namespace L2
noncomputable abbrev qy:=Sum Int Str
noncomputable def E8:qy→Uz→Bool
 | .inl k,v=>Value.isInt k v
 | .inr x,v=>Value.isStrOf x v
noncomputable def Mf (w:Xx):qy→Int
 | .inl k=>hashInt k
 | .inr x=>hashStr w x
theorem cT:∀{k:qy} {v:Uz},E8 k v=true→(∃i t,k=Sum.inl i∧v=Value.int i t)∨(∃x t,k=Sum.inr x∧v=Value.str x t)
 | .inl i,v,h=>by
  obtain⟨t,e⟩:=Value.isInt_shape (k:=i) (v:=v) h
  exact .inl ⟨i,t,rfl,e⟩
 | .inr x,v,h=>by
  obtain⟨t,e⟩:=Value.isStrOf_shape (x:=x) (v:=v) h
  exact .inr ⟨x,t,rfl,e⟩
theorem GK (a b:Int):decide ((Sum.inl a:qy)=Sum.inl b)=(a==b):=by
 by_cases e:a=b
 ·subst e;simp
 ·have h:¬(Sum.inl a:qy)=Sum.inl b:=fun q=>e (Sum.inl.inj q)
  rw[decide_eq_false h]
  exact (beq_eq_false_iff_ne.mpr e).symm
theorem GL (a b:Str):decide ((Sum.inr a:qy)=Sum.inr b)=decide (a=b):=by
 by_cases e:a=b
 ·subst e;simp
 ·have h:¬(Sum.inr a:qy)=Sum.inr b:=fun q=>e (Sum.inr.inj q)
  rw[decide_eq_false h,decide_eq_false e]
theorem GN (a:Int)(b:Str):decide ((Sum.inl a:qy)=Sum.inr b)=false:=decide_eq_false (fun q=>nomatch q)
theorem GO (a:Str)(b:Int):decide ((Sum.inr a:qy)=Sum.inl b)=false:=decide_eq_false (fun q=>nomatch q)
noncomputable def sf (prog:XI)(w:Xx):PySem.KeyKind prog w qy where
 is:=E8
 hash:=Mf w
 inj:=fun v a b ha hb=>by
  rcases cT ha with⟨i,t,rfl,rfl⟩|⟨x,t,rfl,rfl⟩
  ·rcases cT hb with⟨j,u,rfl,e⟩|⟨y,u,rfl,e⟩
   ·injection e with e1 _;rw[e1]
   ·exact nomatch e
  ·rcases cT hb with⟨j,u,rfl,e⟩|⟨y,u,rfl,e⟩
   ·exact nomatch e
   ·injection e with e1 _;rw[e1]
 byValue:=fun k v h=>by
  rcases cT h with⟨i,t,rfl,rfl⟩|⟨x,t,rfl,rfl⟩<;>rfl
 pyHash:=fun hv h=>by
  rcases cT hv with⟨i,t,rfl,rfl⟩|⟨x,t,rfl,rfl⟩
  ·exact wpAny_pyHash_int h
  ·exact wpAny_pyHash_str h
 eqBool:=fun hu hv h=>by
  rcases cT hu with⟨i,t,rfl,rfl⟩|⟨x,t,rfl,rfl⟩
  ·rcases cT hv with⟨j,u,rfl,rfl⟩|⟨y,u,rfl,rfl⟩
   ·rw[GK] at h;exact wpAny_eqBool_int h
   ·rw[GN] at h;exact SeqAt.EqAt.int_str i t y u _ _ _ _ h
  ·rcases cT hv with⟨j,u,rfl,rfl⟩|⟨y,u,rfl,rfl⟩
   ·rw[GO] at h;exact SeqAt.EqAt.str_int x t j u _ _ _ _ h
   ·rw[GL] at h;exact wpAny_eqBool_str h
 «strs»:=fun k x t v h=>by
  rcases cT h with⟨i,u,rfl,e⟩|⟨y,u,rfl,e⟩
  ·exact nomatch e
  ·injection e with e1 _
   subst e1
   cases v<;>rfl
end L2
namespace L2
inductive V where
 |non|bl (b:Bool)|int (i:Int)|str (x:Str)|byt (b:Array UInt8)|flt (b:UInt64)|ref (a:UY)|ty (n:String)
 deriving DecidableEq
noncomputable def bN:V→Uz→Prop
 | .non,u=>u=Value.none
 | .bl b,u=>u=Value.bool b
 | .int i,u=>∃t,u=Value.int i t
 | .str x,u=>∃t,u=Value.str x t
 | .byt b,u=>∃t,u=Value.bytes b t
 | .flt b,u=>∃t,u=Value.float b t
 | .ref a,u=>u=Value.ref a
 | .ty n,u=>u=Value.type n
noncomputable abbrev aU:List V→List Uz→Prop:=Paired bN
theorem aU.length {xs:List V}{us:List Uz}(r:aU xs us):xs.length=us.length:=Paired.length r
theorem aU.get:∀{xs:List V} {us:List Uz} {i:Nat} {x:V},aU xs us→xs[i]? = some x→∃u,us[i]? = some u∧bN x u
 |_,_,_,_,.nil,e=>by simp at e
 |_,_,0,_,.cons r _,e=>by simp at e;subst e;exact⟨_,rfl,r⟩
 |_,_,i+1,x,.cons _ t,e=>by
  obtain⟨u,h1,h2⟩:=aU.get (i:=i) (x:=x) t (by simpa using e)
  exact⟨u,by simpa using h1,h2⟩
theorem aU.set {x:V}{u:Uz}(r:bN x u):∀{xs:List V} {us:List Uz} (i:Nat),aU xs us→aU (xs.set i x) (us.set i u)
 |_,_,_,.nil=>.nil
 |_,_,0,.cons _ t=>.cons r t
 |_,_,i+1,.cons q t=>.cons q (aU.set r i t)
theorem aU.append:∀{xs ys:List V} {us ws:List Uz},aU xs us→aU ys ws→aU (xs++ys) (us++ws)
 |_,_,_,_,.nil,s=>s
 |_,_,_,_,.cons r t,s=>.cons r (aU.append t s)
theorem aU.take:∀{xs:List V} {us:List Uz} (n:Nat),aU xs us→aU (xs.take n) (us.take n)
 |_,_,0,_=>.nil
 |_,_,_+1,.nil=>.nil
 |_,_,n+1,.cons r t=>.cons r (aU.take n t)
theorem aU.drop:∀{xs:List V} {us:List Uz} (n:Nat),aU xs us→aU (xs.drop n) (us.drop n)
 |_,_,0,r=>r
 |_,_,_+1,.nil=>.nil
 |_,_,n+1,.cons _ t=>aU.drop n t
noncomputable def GP:Option V→Option Uz→Prop
 |some v,some u=>bN v u
 |none,none=>True
 |_,_=>False
noncomputable def KV {κ:Type}:List (κ×V)→List (κ×Uz)→Prop:=Paired fun (p:κ×V) (q:κ×Uz)=>p.1=q.1∧bN p.2 q.2
noncomputable def kV:qy→V
 | .inl i=>.int i
 | .inr x=>.str x
inductive HO where
 |lst (xs:List V)
 |tup (xs:List V)
 |dK (gg:List (qy×V))|dT (gg:List (List qy×V))
 |set (S:Int→Bool) (n:Nat)
 |ins (C dx:UY) (fs:List (Str×V))
 |own (x:UY)
 |xd (fs:List (Str×V))
 |met (f x:UY)
 |rng (lo hi:Int)
 |frz (o:Obj) (u:HO)
 |tbl (ps:Array Uz)
 |ext (φ:Xi→Prop)
noncomputable abbrev Hp:=UY→Option HO
noncomputable def eB (H:Hp)(a:UY)(o:HO):Hp:=fun b=>if b=a then some o else H b
theorem cC {H:Hp}{o:HO}:eB H a o a=some o:=by unfold eB;rw[if_pos rfl]
theorem bh {H:Hp}{o:HO}(h:b≠a):eB H a o b=H b:=by unfold eB;rw[if_neg h]
theorem bO {H:Hp}{o:HO}(h:H a=some o)(h':H b=none):a≠b:=by
 intro e;subst e;rw[h] at h';cases h'
section
variable (P:XI)(w:Xx)
noncomputable def cU (H:Hp)(h:Xi)(a:UY):HO→Prop
 | .lst xs=>xs.length≤UA∧∃(ar:List Uz) (n:Nat),aU xs ar∧h.get? a=some {cls:=.type "list",data:=.seq ar.toArray n}
 | .tup xs=>xs.length≤UA∧∃ar:List Uz,aU xs ar∧IsTup h a ar.toArray∧∃n,h.get? a=some {cls:=.type "tuple",data:=.seq ar.toArray n}
 | .dK gg=>gg.length≤UA∧(a==sysModules)=false∧∃vs,KV gg vs∧h.DictOf (sf P w) a vs
 | .dT gg=>gg.length≤UA∧(a==sysModules)=false∧∃xs:List (List qy×UY×Uz),
   Paired (fun (p:List qy×V) (q:List qy×UY×Uz)=>p.1=q.1∧H q.2.1=some (.tup (p.1.map kV))∧bN p.2 q.2.2) gg xs ∧
   ∃o es ep,h.get? a=some o∧o.ExactDict∧o.data=.dict es ep∧es.toList=xs.map (entryOfKey (tupleKind (sf P w)))∧(xs.map (·.1)).Nodup
 | .set S n=>h.SetOf (intKind P w) a S n
 | .ins C dx fs=>H dx=some (.own a)∧fs.length≤1000∧dx≠a∧h.get? a=some (PySem.W.instObj C dx) ∧
   ∃mA,h.Ns1 dx mA∧(∀f,GP (fs.lookup f) (mA f))∧PySem.Within mA (fs.map (·.1))
 | .own _=>∃o,h.get? a=some o
 | .xd fs=>∃mA,h.Ns1 a mA∧∀f,GP (fs.lookup f) (mA f)
 | .rng lo hi=>∃t u v,h.get? a=some {cls:=.type "range",data:=.fields #[.int lo t,.int hi u,.int 1 v]}
 | .frz o u=>h.get? a=some o∧cU H h a u
 | .tbl ps=>h.get? a=some {cls:=.none,data:=.fields ps}
 | .met f x=>h.get? a=some (Zj (.ref f) (.ref x))
 | .ext φ=>φ h∧(∃o,h.get? a=some o)∧∀h1 h2:Xi,φ h1→(∀o,h1.get? a=some o→h2.get? a=some o)→φ h2
noncomputable def lT (H:Hp)(h:Xi):Prop:=∀a o,H a=some o→cU P w H h a o
end
section
variable {H H':Hp}{o:HO}
theorem cU.lt (x:cU P w H h a o):a<h.objs.size:=by
 cases o with
 |lst xs=>obtain⟨_,_,_,_,e⟩:=x;exact UR e
 |tup xs=>obtain⟨_,_,_,p,_⟩:=x;exact p.lt
 |dK gg=>obtain⟨_,_,_,_,o,_,_,e,_⟩:=x;exact UR e
 |dT gg=>obtain⟨_,_,_,_,o,_,_,e,_⟩:=x;exact UR e
 |set S n=>obtain⟨o,_,_,_,e,_⟩:=x;exact UR e
 |ins C dx fs=>obtain⟨_,_,_,e,_⟩:=x;exact UR e
 |own y=>obtain⟨_,e⟩:=x;exact UR e
 |xd fs=>obtain⟨_,⟨_,_,_,e,_⟩,_⟩:=x;exact UR e
 |rng lo hi=>obtain⟨_,_,_,e⟩:=x;exact UR e
 |frz ob u=>obtain⟨e,_⟩:=x;exact UR e
 |tbl ps=>exact UR (show h.get? a=some _ from x)
 |met f y=>exact UR (show h.get? a=some _ from x)
 |ext φ=>obtain⟨_,⟨_,e⟩,_⟩:=x;exact UR e
theorem Paired.mapP {α β:Type}{F G:α→β→Prop}:∀{l₁:List α} {l₂:List β},Paired F l₁ l₂→(∀a b,F a b→G a b)→Paired G l₁ l₂
 |_,_,.nil,_=>.nil
 |_,_,.cons r t,f=>.cons (f _ _ r) (Paired.mapP t f)
theorem cU.stay (x:cU P w H h a o)(k:∀b u,(b=a∨H b=some (.own a))→h.get? b=some u→h'.get? b=some u)
  (ho:∀b,H b=some (.own a)→H' b=some (.own a)) (ht:∀b xs,H b=some (.tup xs)→H' b=some (.tup xs)):cU P w H' h' a o:=by
 induction o with
 |lst xs=>obtain⟨z,ar,n,r,e⟩:=x;exact⟨z,ar,n,r,k _ _ (.inl rfl) e⟩
 |tup xs=>obtain⟨z,ar,r,⟨ob,e,c⟩,n2,e2⟩:=x;exact⟨z,ar,r,⟨ob,k _ _ (.inl rfl) e,c⟩,n2,k _ _ (.inl rfl) e2⟩
 |dK gg=>obtain⟨z,y,vs,r,ob,es,ep,e,c⟩:=x;exact⟨z,y,vs,r,ob,es,ep,k _ _ (.inl rfl) e,c⟩
 |dT gg =>
  obtain⟨z,y,xs,r,ob,es,ep,e,c⟩:=x
  exact⟨z,y,xs,Paired.mapP r fun p q z=>⟨z.1,ht _ _ z.2.1,z.2.2⟩,ob,es,ep,k _ _ (.inl rfl) e,c⟩
 |set S n=>obtain⟨ob,es,ep,t,e,c⟩:=x;exact⟨ob,es,ep,t,k _ _ (.inl rfl) e,c⟩
 |ins C dx fs =>
  obtain⟨d,z,ne,e,mA,⟨od,es,ep,e2,c⟩,r⟩:=x
  exact⟨ho _ d,z,ne,k _ _ (.inl rfl) e,mA,⟨od,es,ep,k _ _ (.inr d) e2,c⟩,r⟩
 |own y=>obtain⟨ob,e⟩:=x;exact⟨ob,k _ _ (.inl rfl) e⟩
 |xd fs=>obtain⟨mA,⟨od,es,ep,e,c⟩,r⟩:=x;exact⟨mA,⟨od,es,ep,k _ _ (.inl rfl) e,c⟩,r⟩
 |rng lo hi=>obtain⟨t,u,v,e⟩:=x;exact⟨t,u,v,k _ _ (.inl rfl) e⟩
 |frz ob u ih=>obtain⟨e,q⟩:=x;exact⟨k _ _ (.inl rfl) e,ih q⟩
 |tbl ps =>
  have e:h.get? a=some {cls:=.none,data:=.fields ps}:=x
  show h'.get? a=some {cls:=.none,data:=.fields ps}
  exact k a _ (.inl rfl) e
 |met f y =>
  have e:h.get? a=some (Zj (.ref f) (.ref y)):=x
  show h'.get? a=some (Zj (.ref f) (.ref y))
  exact k a _ (.inl rfl) e
 |ext φ=>obtain⟨p,⟨o,e⟩,st⟩:=x;exact⟨st _ _ p fun o q=>k _ _ (.inl rfl) q,⟨o,k _ _ (.inl rfl) e⟩,st⟩
theorem lT.lt (x:lT P w H h)(e:H a=some o):a<h.objs.size:=(x a o e).lt
theorem lT.fresh (x:lT P w H h)(e:h.objs.size≤a):H a=none:=by
 cases q:H a with
 |none=>rfl
 |some u=>exact absurd (Vo (x.lt q) e) (Wj _)
theorem lT.kept (x:lT P w H h)(k:∀b u,h.get? b=some u→h'.get? b=some u):lT P w H h':=fun a o e =>
 (x a o e).stay (fun b u _ q=>k b u q) (fun _ q=>q) fun _ _ q=>q
theorem lT.laid (x:lT P w H h)(k:∀b u,h.get? b=some u→h'.get? b=some u)(hp:h.objs.size≤a)(new:cU P w (eB H a o) h' a o):lT P w (eB H a o) h':=fun b u e=>by
 have hn:=x.fresh hp
 by_cases hb:b=a
 ·subst hb;rw[cC] at e;cases e;exact new
 ·rw[bh hb] at e
  exact (x b u e).stay (fun c v _ q=>k c v q) (fun c q=>by rw[bh (bO q hn)];exact q) fun c xs q=>by rw[bh (bO q hn)];exact q
end
noncomputable def Rd (H:Hp)(a:UY)(u:HO):Prop:=H a=some u∨∃o,H a=some (.frz o u)
theorem Rd.ok {H:Hp}{u:HO}(r:Rd H a u)(x:lT P w H h):cU P w H h a u:=by
 rcases r with r|⟨o,r⟩
 ·exact x a u r
 ·obtain⟨_,q⟩:=x a _ r
  exact q
noncomputable def LC:Option HO→Prop
 |some (.lst _)=>True
 |some (.dK _)=>True
 |some (.dT _)=>True
 |some (.set _ _)=>True
 |some (.ins _ _ _)=>True
 |some (.ext _)=>True
 |_=>False
section
variable {H:Hp}{x e:UY}{o':HO}
theorem lT.write (ok:lT P w H h)(mu:LC (H x))(he:e=x∨H e=some (.own x))(k:∀b u,b≠e→h.get? b=some u→h'.get? b=some u)(Jn:∃u,h'.get? e=some u)
  (new:cU P w (eB H x o') h' x o'):lT P w (eB H x o') h':=fun b u q=>by
 have K1:∀c y,H c=some (.own y)→c≠x:=fun c y r z=>by subst z;rw[r] at mu;exact mu
 have Nq:∀c xs,H c=some (.tup xs)→c≠x:=fun c xs r z=>by subst z;rw[r] at mu;exact mu
 by_cases hb:b=x
 ·subst hb;rw[cC] at q;cases q;exact new
 ·rw[bh hb] at q
  by_cases hbe:b=e
  ·have q':H b=some (.own x):=by
    rcases he with z|z
    ·exact absurd (hbe.trans z) hb
    ·rw[hbe];exact z
   rw[q] at q';cases q'
   obtain⟨v,hv⟩:=Jn
   exact⟨v,by rw[hbe];exact hv⟩
  ·refine (ok b u q).stay (fun c v hc r=>k c v ?_ r) (fun c r=>by rw[bh (K1 c b r)];exact r) fun c xs r=>by rw[bh (Nq c xs r)];exact r
   rcases hc with rfl|hc
   ·exact hbe
   ·rintro rfl
    rcases he with z|z
    ·exact K1 c b hc z
    ·rw[hc] at z;cases z;exact hb rfl
end
structure Un (fs ex:List UY)(H H':Hp)(h h':Xi):Prop where
 keep:∀b o,h.get? b=some o→H b=none→b∉fs→b∉ex→h'.get? b=some o
 slot:∀b o,h.get? b=some o→H b=none→b∈fs→b∉ex→∃sl,h'.get? b=some {o with slots:=sl}
 free:∀b o,h.get? b=some o→H b=none→b∉ex→H' b=none
 there:∀b o,h.get? b=some o→b∉ex→∃o',h'.get? b=some o'
 tups:∀b xs,H b=some (.tup xs)→H' b=some (.tup xs)
 frzs:∀b o u,H b=some (.frz o u)→H' b=some (.frz o u)
 tbls:∀b ps,H b=some (.tbl ps)→∃more,H' b=some (.tbl (ps++more))
section
variable {fs fs' ex ex':List UY}{H H1 H2:Hp}{h1 h2:Xi}{x e:UY}{o:HO}
theorem Un.any (u:Un fs ex H H1 h h1){ob:Obj}(q:h.get? b=some ob)(n:H b=none)(hx:b∉ex):∃sl,h1.get? b=some {ob with slots:=sl}:=by
 by_cases hb:b∈fs
 ·exact u.slot b ob q n hb hx
 ·exact⟨ob.slots,u.keep b ob q n hb hx⟩
theorem Un.kept (k:∀b u,h.get? b=some u→h'.get? b=some u):Un fs ex H H h h' :=
 ⟨fun b ob q _ _ _=>k b ob q,fun b ob q _ _ _=>⟨ob.slots,k b ob q⟩,fun _ _ _ n _=>n,fun b ob q _=>⟨ob,k b ob q⟩,fun _ _ q=>q,fun _ _ _ q=>q,fun _ ps q=>⟨#[],by rw[q];simp⟩⟩
theorem Un.refl:Un fs ex H H h h:=Un.kept fun _ _ q=>q
theorem Un.laid (k:∀b u,h.get? b=some u→h'.get? b=some u)(hp:h.objs.size≤a)(hn:H a=none):Un fs ex H (eB H a o) h h' where
 keep:=fun b u q _ _ _=>k b u q
 slot:=fun b u q _ _ _=>⟨u.slots,k b u q⟩
 free:=fun b u q n _=>by rw[bh (Ve (Vo (UR q) hp))];exact n
 there:=fun b u q _=>⟨u,k b u q⟩
 tups:=fun b xs q=>by rw[bh (bO q hn)];exact q
 frzs:=fun b u xs q=>by rw[bh (bO q hn)];exact q
 tbls:=fun b ps q=>⟨#[],by rw[bh (bO q hn),q];simp⟩
theorem Un.write (mu:LC (H x))(he:e=x∨H e=some (.own x))(k:∀b u,b≠e→h.get? b=some u→h'.get? b=some u)(Jn:∃u,h'.get? e=some u):Un fs ex H (eB H x o) h h':=by
 have hx:∀b,H b=none→b≠x:=fun b n z=>by subst z;rw[n] at mu;exact mu
 have hb:∀b,H b=none→b≠e:=fun b n z=>by
  subst z
  rcases he with r|r
  ·exact hx b n r
  ·rw[n] at r;cases r
 have hm:∀b u,H b=some u→¬LC (some u)→b≠x:=fun b u q nm z=>by subst z;rw[q] at mu;exact nm mu
 refine⟨fun b u q n _ _=>k b u (hb b n) q,fun b u q n _ _=>⟨u.slots,k b u (hb b n) q⟩,fun b u q n _=>by rw[bh (hx b n)];exact n,fun b u q _ => ?_,
  fun b xs q=>by rw[bh (hm b _ q fun z=>z)];exact q,fun b u xs q=>by rw[bh (hm b _ q fun z=>z)];exact q,fun b ps q=>⟨#[],by rw[bh (hm b _ q fun z=>z),q];simp⟩⟩
 by_cases hbe:b=e
 ·subst hbe;exact Jn
 ·exact⟨u,k b u hbe q⟩
end
noncomputable def LD (h:Xi)(H:Hp):List UY:=(Vc h.objs.size).filter fun a=>(H a).isSome
noncomputable def su (h:Xi)(H:Hp):Xi:=PySem.W.hideAll h (LD h H)
theorem yP (h:Xi)(H:Hp):(su h H).objs.size=h.objs.size:=PySem.W.hideAll_size _ _
theorem zX {H:Hp}{o:Obj}(e:h.get? b=some o)(n:H b=none):(su h H).get? b=some o :=
 PySem.W.hideAll_get _ e fun hm=>by
  have q:(H b).isSome=true:=(YN.mp hm).2
  rw[n] at q;simp at q
theorem Dh {H:Hp}{o:Obj}(e:(su h H).get? b=some o):h.get? b=some o∧H b=none:=by
 have e':h.get? b=some o:=PySem.W.of_hideAll (LD h H) e
 refine⟨e',?_⟩
 cases q:H b with
 |none=>rfl
 |some x =>
  have hm:b∈LD h H:=YN.mpr ⟨Vz.mpr (UR e'),by simp[q]⟩
  have z:(su h H).get? b=none:=PySem.W.hideAll_none (LD h H) hm
  rw[z] at e;cases e
end L2
variable {xs vs:List L2.V}{H H' H1 H2:L2.Hp}{v:L2.V}
namespace L2
structure Mod (K:UB)(mg:Str→Option Uz)(base:Xi):Prop where
 kin:K.In base
 glob:base.Ns U3 mg
 blt:∃mb,base.Ns builtinsNs mb∧∀x:Str,x≠"__name__"→mb x=Vs x
 nolimit:base.NoLimit
structure Cx where
 prog:XI
 w:Xx
 K:UB
 mg:Str→Option Uz
 base:Xi
 A:VE
 N:List Str
 s₀:UQ
 H₀:Hp
 env:Env
 outer:List Env
 stack:List Env
 ex:List UY
 fn:Str→Bool
 calm:Bool
 pn:List (UY×Obj)
 xe:Uz→UQ→Prop
noncomputable def xg (l:List Env):List UY:=l.filterMap (·.frame)
noncomputable abbrev Cx.fs (X:Cx):List UY:=xg X.outer
noncomputable def Di (sc:Zi)(x:Str):Prop:=sc.names.lookup x=some .local∨sc.names.lookup x=some .cell∨sc.names.lookup x=some .free
noncomputable def zY (sc:Zi)(x:Str):Prop:=sc.names.lookup x=some .local∨sc.names.lookup x=some .cell
noncomputable def Mg (env:Env)(h:Xi)(m:Str→Option Uz)(x:Str)(u:Uz):Prop :=
 (env.kindOf x=some .local∧m x=some u)∨((env.kindOf x=some .cell∨env.kindOf x=some .free)∧∃c,env.cells.lookup x=some c∧h.IsCell c (some u))
structure Cx.Ok (X:Cx):Prop where
 mod:Mod X.K X.mg X.base
 kind:X.env.scope.kind=.function
 glob:X.env.globals=U3
 blt:X.env.builtins=builtinsNs
 above:X.s₀.heap.objs.size≤X.env.locals
 inj:∀x y c,X.env.cells.lookup x=some c→X.env.cells.lookup y=some c→x=y
 has:∀x,(X.env.kindOf x=some .cell∨X.env.kindOf x=some .free)→∃c,X.env.cells.lookup x=some c
 cab:∀x c,X.fn x=true→X.env.cells.lookup x=some c→X.s₀.heap.objs.size≤c
 hd:X.calm=true→X.A.handled=none
 frames:X.A.frames=some X.stack
 stk:X.stack=X.outer∨(X.stack=X.env::X.outer∧X.env.frame=some X.env.locals)
 exf:∀b∈X.ex,b≠X.env.locals∧∀x c,X.env.cells.lookup x=some c→c≠b
 bs:∀b o,X.base.get? b=some o→X.s₀.heap.get? b=some o∧X.H₀ b=none
 bsz:X.base.objs.size≤X.s₀.heap.objs.size
 noex:∀b o,X.base.get? b=some o→b∉X.ex
 exfs:∀b∈X.ex,b∉X.fs
 funs:X.s₀.heap.FunFrames X.base X.outer
 frf:∀b∈X.fs,X.H₀ b=none
structure aF (X:Cx)(pins:List (UY×Obj))(σ:List (Option V))(H:Hp)(s:UQ):Prop where
 ok:X.Ok
 os:s.os=X.s₀.os
 bare:AllBare s.gens
 base:Un X.fs X.ex X.H₀ H X.s₀.heap s.heap
 loc:∃m,s.heap.Ns X.env.locals m∧∀(i:Nat) (x:Str) (v:V),X.N[i]? = some x→σ[i]? = some (some v)→Di X.env.scope x→∃u,bN v u∧Mg X.env s.heap m x u
 cell:∀x c,X.env.cells.lookup x=some c→∃v,s.heap.IsCell c v
 free:H X.env.locals=none
 freeC:∀x c,X.env.cells.lookup x=some c→H c=none
 pin:∀p∈X.pn++pins,s.heap.get? p.1=some p.2∧H p.1=none∧p.1≠X.env.locals∧p.1∉X.fs∧∀v,p.2.data≠.cell v
 hok:lT X.prog X.w H s.heap
 len:σ.length=X.N.length
section
variable {X:Cx}{σ:List (Option V)}
theorem Cx.Ok.nofr (ok:X.Ok){o:Obj}(e:X.base.get? b=some o):b∉X.fs:=fun hb=>by
 have:=(ok.funs.mem hb).1
 rw[e] at this;cases this
theorem aF.bs (I:aF X pins σ H s):∀b o,X.base.get? b=some o→s.heap.get? b=some o∧H b=none:=fun b o e =>
 ⟨I.base.keep b o (I.ok.bs b o e).1 (I.ok.bs b o e).2 (I.ok.nofr e) (I.ok.noex b o e),I.base.free b o (I.ok.bs b o e).1 (I.ok.bs b o e).2 (I.ok.noex b o e)⟩
theorem aF.bk (I:aF X pins σ H s):∀b o,X.base.get? b=some o→s.heap.get? b=some o:=fun b o e=>(I.bs b o e).1
theorem aF.mod (I:aF X pins σ H s):Mod X.K X.mg X.base:=I.ok.mod
theorem aF.kIn (I:aF X pins σ H s):X.K.In s.heap:=I.ok.mod.kin.keeps I.bk
theorem aF.lt (I:aF X pins σ H s):X.env.locals<s.heap.objs.size:=let ⟨_,hn,_⟩:=I.loc;hn.lt
theorem aF.sz (I:aF X pins σ H s):X.s₀.heap.objs.size≤s.heap.objs.size:=VC I.ok.above (Nat.le_of_lt I.lt)
theorem aF.nofs (I:aF X pins σ H s)(h:s.heap.objs.size≤a):a∉X.fs:=fun hb=>by
 obtain⟨_,o,ho,_⟩:=I.ok.funs.mem hb
 exact absurd (Vo (UR ho) (VC I.sz h)) (Wj _)
theorem aF.cne (I:aF X pins σ H s):∀x c,X.env.cells.lookup x=some c→c≠X.env.locals:=fun x c e z=>by
 obtain⟨v,o,ho,hd⟩:=I.cell x c e
 obtain⟨m,⟨o',es,ep,ho',hd',_⟩,_⟩:=I.loc
 rw[z,ho'] at ho;cases ho;rw[hd'] at hd;cases hd
theorem aF.funs (I:aF X pins σ H s):s.heap.FunFrames X.base X.outer:=by
 have all:∀(l:List Env),(∀b∈xg l,b∈X.fs)→X.s₀.heap.FunFrames X.base l→s.heap.FunFrames X.base l:=by
  intro l
  induction l with
  |nil=>intro _ _;trivial
  |cons env r ih =>
   intro hs hl
   obtain⟨hk,⟨L,o,hf,hn,ho,hd⟩,hr⟩:=hl
   have hL:L∈X.fs:=hs L (by unfold xg;rw[YO,hf];exact UL)
   obtain⟨sl,e⟩:=I.base.slot L o ho (I.ok.frf L hL) hL fun z=>I.ok.exfs L z hL
   exact⟨hk,⟨L,_,hf,hn,e,hd⟩,ih (fun b hb=>hs b (by unfold xg;rw[YO,hf];exact UM _ hb)) hr⟩
 exact all X.outer (fun _ hb=>hb) I.ok.funs
theorem aF.stack (I:aF X pins σ H s):s.heap.FunFrames X.base X.stack:=by
 rcases I.ok.stk with e|⟨e,hf⟩
 ·rw[e];exact I.funs
 ·rw[e]
  obtain⟨m,hn,_⟩:=I.loc
  refine .cons (by rw[I.ok.kind];decide) hf hn ?_ I.funs
  exact Heap.get?_none_of_le (VC I.ok.bsz I.ok.above)
theorem aF.stkSub (I:aF X pins σ H s):∀b∈xg X.stack,b∈X.env.locals::X.fs:=fun b hb=>by
 rcases I.ok.stk with e|⟨e,hf⟩
 ·rw[e] at hb;exact UM _ hb
 ·rw[e] at hb
  unfold xg at hb
  rw[YO,hf] at hb
  exact hb
theorem aF.stkFree (I:aF X pins σ H s):∀b∈xg X.stack,H b=none:=fun b hb=>by
 rcases UU.mp (I.stkSub b hb) with e|hb
 ·rw[e];exact I.free
 ·obtain⟨_,o,ho,_⟩:=I.ok.funs.mem hb
  exact I.base.free b o ho (I.ok.frf b hb) fun z=>I.ok.exfs b z hb
theorem aF.step {t':Nat}{g':Array GenState}{d':Drawn}(I:aF X pins σ H s)(C4:∀b∈ch,(b∈X.ex∨X.s₀.heap.objs.size≤b)∧b≠X.env.locals∧(∀x c,X.env.cells.lookup x=some c→c≠b)∧∀p∈X.pn++pins,p.1≠b)(keep:∀b o,b≠X.env.locals→b∉X.fs→b∉ch→s.heap.get? b=some o→H b=none→h'.get? b=some o)(slot:∀b o,b≠X.env.locals→b∈X.fs→b∉ch→s.heap.get? b=some o→H b=none→∃sl,h'.get? b=some {o with slots:=sl})(free:∀b o,b∉ch→s.heap.get? b=some o→H b=none→H' b=none)(there:∀b o,b∉ch→s.heap.get? b=some o→∃o',h'.get? b=some o')(tups:∀b xs,H b=some (.tup xs)→H' b=some (.tup xs))(frzs:∀b o u,H b=some (.frz o u)→H' b=some (.frz o u))(tbls:∀b ps,H b=some (.tbl ps)→∃more,H' b=some (.tbl (ps++more)))(ns:∀m,s.heap.Ns X.env.locals m→h'.Ns X.env.locals m)(hok:lT X.prog X.w H' h')(hg:AllBare g') :
  aF X pins σ H' {s with heap:=h',gens:=g',drawn:=d',toks:=t'}:=by
 have Qq:∀b o,X.s₀.heap.get? b=some o→b≠X.env.locals:=fun b o e=>Ve (Vo (UR e) I.ok.above)
 have L1:∀b o,X.s₀.heap.get? b=some o→b∉X.ex→b∉ch:=fun b o e hx hb=>by
  rcases (C4 b hb).1 with z|z
  ·exact hx z
  ·exact absurd (Vo (UR e) z) (Wj _)
 have Gv:∀x c,X.env.cells.lookup x=some c→∀v,s.heap.IsCell c v→h'.IsCell c v:=fun x c e v h00=>by
  obtain⟨o,ho,hd⟩:=h00
  have K2:c∉ch:=fun z=>(C4 c z).2.2.1 x c e rfl
  by_cases hc:c∈X.fs
  ·obtain⟨sl,q⟩:=slot c o (I.cne x c e) hc K2 ho (I.freeC x c e)
   exact⟨_,q,hd⟩
  ·exact⟨o,keep c o (I.cne x c e) hc K2 ho (I.freeC x c e),hd⟩
 refine⟨I.ok,I.os,hg,⟨fun b o e n hb hx => ?_,fun b o e n hb hx => ?_,fun b o e n hx => ?_,fun b o e hx => ?_,fun b xs e=>tups b xs (I.base.tups b xs e),fun b o xs e=>frzs b o xs (I.base.frzs b o xs e),fun b ps e => ?_⟩,?_,fun x c e => ?_,?_,fun x c e => ?_,fun p hp => ?_,hok,I.len⟩
 ·exact keep b o (Qq b o e) hb (L1 b o e hx) (I.base.keep b o e n hb hx) (I.base.free b o e n hx)
 ·obtain⟨sl,e1⟩:=I.base.slot b o e n hb hx
  obtain⟨sl',e2⟩:=slot b _ (Qq b o e) hb (L1 b o e hx) e1 (I.base.free b o e n hx)
  exact⟨sl',e2⟩
 ·obtain⟨o',e1⟩:=I.base.there b o e hx
  exact free b o' (L1 b o e hx) e1 (I.base.free b o e n hx)
 ·obtain⟨o',e1⟩:=I.base.there b o e hx
  exact there b o' (L1 b o e hx) e1
 ·obtain⟨m1,e1⟩:=I.base.tbls b ps e
  obtain⟨m2,e2⟩:=tbls b _ e1
  exact⟨m1++m2,by rw[e2,Array.append_assoc]⟩
 ·obtain⟨m,hn,hl⟩:=I.loc
  refine⟨m,ns m hn,fun i x v e1 e2 e3 => ?_⟩
  obtain⟨u,r,l⟩:=hl i x v e1 e2 e3
  refine⟨u,r,?_⟩
  rcases l with l|⟨k,c,e,z⟩
  ·exact .inl l
  ·exact .inr ⟨k,c,e,Gv x c e _ z⟩
 ·obtain⟨v,z⟩:=I.cell x c e
  exact⟨v,Gv x c e v z⟩
 ·obtain⟨m,⟨o,_,_,ho,_⟩,_⟩:=I.loc
  exact free _ o (fun z=>(C4 _ z).2.1 rfl) ho I.free
 ·obtain⟨v,o,ho,hd⟩:=I.cell x c e
  exact free c o (fun z=>(C4 c z).2.2.1 x c e rfl) ho (I.freeC x c e)
 ·obtain⟨e,n,ne,nf,d⟩:=I.pin p hp
  have K2:p.1∉ch:=fun z=>(C4 p.1 z).2.2.2 p hp rfl
  exact⟨keep p.1 p.2 ne nf K2 e n,free p.1 p.2 K2 e n,ne,nf,d⟩
theorem aF.un {t':Nat}(I:aF X pins σ H s)(u:Un X.fs [] H H' s.heap h')(hok:lT X.prog X.w H' h'):aF X pins σ H' {s with heap:=h',toks:=t'}:=by
 obtain⟨m,⟨o,es,ep,ho,r⟩,_⟩:=id I.loc
 obtain⟨sl,hL⟩:=u.any ho I.free (by simp)
 exact I.step (g':=s.gens) (d':=s.drawn) (ch:=[]) (fun _ z=>nomatch z) (fun b o _ hb _ e n=>u.keep b o e n hb (by simp)) (fun b o _ hb _ e n=>u.slot b o e n hb (by simp)) (fun b o _ e n=>u.free b o e n (by simp)) (fun b o _ e=>u.there b o e (by simp)) u.tups u.frzs u.tbls (fun m' hm=>by
  obtain⟨o',CV,ep',ho',r'⟩:=hm
  rw[ho] at ho';cases ho'
  exact⟨_,CV,ep',hL,r'⟩) hok I.bare
theorem aF.call {t':Nat}{g':Array GenState}{d':Drawn}(I:aF X pins σ H s)(u:Un (xg X.stack) ch H H' s.heap h')(hok:lT X.prog X.w H' h')(hg:AllBare g')(C4:∀b∈ch,(b∈X.ex∨X.s₀.heap.objs.size≤b)∧b≠X.env.locals∧(∀x c,X.env.cells.lookup x=some c→c≠b)∧∀p∈X.pn++pins,p.1≠b) :
  aF X pins σ H' {s with heap:=h',gens:=g',drawn:=d',toks:=t'}:=by
 obtain⟨m,⟨o,es,ep,ho,r⟩,_⟩:=id I.loc
 obtain⟨sl,hL⟩:=u.any ho I.free fun z=>(C4 _ z).2.1 rfl
 exact I.step (ch:=ch) C4 (fun b o hL hb hc e n=>u.keep b o e n (fun z=>(UU.mp (I.stkSub b z)).elim hL hb) hc) (fun b o _ _ hc e n=>u.any e n hc) (fun b o hc e n=>u.free b o e n hc) (fun b o hc e=>u.there b o e hc) u.tups u.frzs u.tbls (fun m' hm=>by
  obtain⟨o',CV,ep',ho',r'⟩:=hm
  rw[ho] at ho';cases ho'
  exact⟨_,CV,ep',hL,r'⟩) hok hg
theorem aF.turned {t':Nat}(I:aF X pins σ H s)(k:∀b o,b≠it→s.heap.get? b=some o→h'.get? b=some o)(hn:H it=none)(hL:it≠X.env.locals)(h1:it∈X.ex∨X.s₀.heap.objs.size≤it)(h2:∀x c,X.env.cells.lookup x=some c→c≠it)(h3:∀p∈X.pn++pins,p.1≠it):aF X pins σ H {s with heap:=h',toks:=t'}:=by
 have Qr:∀b u,H b=some u→b≠it:=fun b u e z=>by rw[z,hn] at e;cases e
 refine I.step (g':=s.gens) (d':=s.drawn) (ch:=[it]) (fun b hb => ?_) (fun b o _ _ hc e _=>k b o (fun z=>hc (by simp[z])) e) (fun b o _ _ hc e _=>⟨o.slots,k b o (fun z=>hc (by simp[z])) e⟩) (fun _ _ _ _ n=>n)
  (fun b o hc e=>⟨o,k b o (fun z=>hc (by simp[z])) e⟩) (fun _ _ e=>e) (fun _ _ _ e=>e) (fun b ps e=>⟨#[],by rw[e];simp⟩) (fun m hm => ?_) (fun b u e => ?_) I.bare
 ·have e:b=it:=by simpa using hb
  subst e
  exact⟨h1,hL,h2,h3⟩
 ·obtain⟨o,es,ep,ho,r⟩:=hm
  exact⟨o,es,ep,k _ o (Ne.symm hL) ho,r⟩
 ·refine (I.hok b u e).stay (fun c v hc q=>k c v ?_ q) (fun _ q=>q) fun _ _ q=>q
  rcases hc with z|z
  ·rw[z];exact Qr b u e
  ·exact Qr c _ z
theorem aF.tok (I:aF X pins σ H s)(t:Nat):aF X pins σ H {s with toks:=t}:=I.un (h':=s.heap) (t':=t) Un.refl I.hok
theorem aF.kept {t':Nat}(I:aF X pins σ H s)(k:∀b u,s.heap.get? b=some u→h'.get? b=some u):aF X pins σ H {s with heap:=h',toks:=t'}:=I.un (Un.kept k) (I.hok.kept k)
theorem aF.laid {t':Nat}{o:HO}(I:aF X pins σ H s)(k:∀b u,s.heap.get? b=some u→h'.get? b=some u)(hp:s.heap.objs.size≤a)(new:cU X.prog X.w (eB H a o) h' a o) :
  aF X pins σ (eB H a o) {s with heap:=h',toks:=t'}:=I.un (Un.laid k hp (I.hok.fresh hp)) (I.hok.laid k hp new)
theorem aF.write {t':Nat}{x e:UY}{o:HO}(I:aF X pins σ H s)(mu:LC (H x))(he:e=x∨H e=some (.own x))(k:∀b u,b≠e→s.heap.get? b=some u→h'.get? b=some u)(Jn:∃u,h'.get? e=some u)(new:cU X.prog X.w (eB H x o) h' x o):aF X pins σ (eB H x o) {s with heap:=h',toks:=t'}:=I.un (Un.write mu he k Jn) (I.hok.write mu he k Jn new)
theorem aF.pins_of {Gw:List (UY×Obj)}(I:aF X pins σ H s)(h:∀p∈Gw,s.heap.get? p.1=some p.2∧H p.1=none∧p.1≠X.env.locals∧p.1∉X.fs∧∀v,p.2.data≠.cell v):aF X Gw σ H s :=
 ⟨I.ok,I.os,I.bare,I.base,I.loc,I.cell,I.free,I.freeC,fun p hp=>(U2.mp hp).elim (fun z=>I.pin p (V4 _ z)) (h p),I.hok,I.len⟩
theorem ue (hN:N.Nodup)(a:N[i]? = some x)(b:N[j]? = some x):i=j:=by
 obtain⟨h1,e1⟩:=UJ.mp a
 obtain⟨h2,e2⟩:=UJ.mp b
 exact (List.getElem_inj hN).mp (e1.trans e2.symm)
theorem qP {A:VE}{u:Uz}{Q:Unit→UQ→Prop}(I:aF X pins σ H s)(hN:X.N.Nodup)(hi:X.N[i]? = some x)(hx:zY X.env.scope x)(r:bN v u)(h:∀s',aF X pins (σ.set i (some v)) H s'→(∃a,Xs a s.heap s'.heap∧(a=X.env.locals∨X.env.cells.lookup x=some a))→Q () s')(hf:X.fn x=true∨X.env.scope.names.lookup x=some .local:=by first|exact .inl rfl|exact .inr rfl|assumption):U4 M A (storeName X.env x u) Q E s:=by
 obtain⟨m,hn,hl⟩:=id I.loc
 have Nr:(X.env.scope.kind==.class||(X.env.scope.kind==.module&&X.env.locals != X.env.globals))=false:=by rw[I.ok.kind];rfl
 have Qs:i<σ.length:=by rw[I.len];exact (UJ.mp hi).1
 have cne:=I.cne
 have yJ:∀{a:UY} {h':Xi},(∃o,s.heap.get? a=some o∧H a=none)→Xs a s.heap h'→lT X.prog X.w H h':=fun {a h'} ha hs b ob e=>by
  obtain⟨_,_,qx⟩:=ha
  refine (I.hok b ob e).stay (fun c w' hc q=>(hs.2 c ?_).trans q) (fun _ q=>q) fun _ _ q=>q
  rintro rfl
  rcases hc with rfl|hc
  ·rw[qx] at e;cases e
  ·rw[qx] at hc;cases hc
 rcases hx with hk|hk
 ·refine wpAny_storeName_local hk hn (fun h' Jo hs => ?_) Nr
  obtain⟨oL,_,_,Ll,_⟩:=id hn
  refine h _ ⟨I.ok,I.os,I.bare,⟨fun b o e n hb hx => ?_,fun b o e n hb hx => ?_,I.base.free,fun b o e hx => ?_,I.base.tups,I.base.frzs,I.base.tbls⟩,⟨_,Jo,fun j y v' e1 e2 e3 => ?_⟩,fun y c e => ?_,I.free,I.freeC,fun p hp => ?_,yJ ⟨oL,Ll,I.free⟩ hs,by simpa using I.len⟩ ⟨_,hs,.inl rfl⟩
  ·exact (hs.2 b (Ve (Vo (UR e) I.ok.above))).trans (I.base.keep b o e n hb hx)
  ·obtain⟨sl,e1⟩:=I.base.slot b o e n hb hx
   exact⟨sl,(hs.2 b (Ve (Vo (UR e) I.ok.above))).trans e1⟩
  ·obtain⟨o',e1⟩:=I.base.there b o e hx
   exact⟨o',(hs.2 b (Ve (Vo (UR e) I.ok.above))).trans e1⟩
  ·by_cases hj:j=i
   ·subst hj
    rw[hi] at e1;cases e1
    rw[Yf Qs] at e2
    cases e2
    exact⟨u,r,.inl ⟨hk,by simp⟩⟩
   ·rw[Vp (Ne.symm hj)] at e2
    obtain⟨u',r',q⟩:=hl j y v' e1 e2 e3
    refine⟨u',r',?_⟩
    rcases q with⟨k,e⟩|⟨k,c,e,z⟩
    ·refine .inl ⟨k,?_⟩
     have:y≠x:=fun e=>hj (ue hN e1 (e▸hi))
     simp[this,e]
    ·exact .inr ⟨k,c,e,z.sameBut hs (cne y c e)⟩
  ·obtain⟨w',z⟩:=I.cell y c e
   exact⟨w',z.sameBut hs (cne y c e)⟩
  ·obtain⟨e,n,ne,nf,d⟩:=I.pin p hp
   exact⟨(hs.2 p.1 ne).trans e,n,ne,nf,d⟩
 ·have Nt:X.fn x=true:=by
   rcases hf with z|z
   ·exact z
   ·rw[z] at hk;cases hk
  obtain⟨c,hc⟩:=I.ok.has x (.inl hk)
  obtain⟨w',z⟩:=I.cell x c hc
  refine wpAny_storeName_cell I.ok.kind hk hc z (fun h' L3 hs => ?_)
  obtain⟨oc,hoc,hocd⟩:=id z
  refine h {s with heap:=h'} ⟨I.ok,I.os,I.bare,⟨fun b o e n hb hx => ?_,fun b o e n hb hx => ?_,I.base.free,fun b o e hx => ?_,I.base.tups,I.base.frzs,I.base.tbls⟩,⟨m,hn.sameBut hs (Ne.symm (cne x c hc)),fun j y v' e1 e2 e3 => ?_⟩,fun y c' e => ?_,I.free,I.freeC,fun p hp => ?_,yJ ⟨oc,hoc,I.freeC x c hc⟩ hs,by simpa using I.len⟩ ⟨c,hs,.inr hc⟩
  ·exact (hs.2 b (Ve (Vo (UR e) (I.ok.cab x c Nt hc)))).trans (I.base.keep b o e n hb hx)
  ·obtain⟨sl,e1⟩:=I.base.slot b o e n hb hx
   exact⟨sl,(hs.2 b (Ve (Vo (UR e) (I.ok.cab x c Nt hc)))).trans e1⟩
  ·obtain⟨o',e1⟩:=I.base.there b o e hx
   exact⟨o',(hs.2 b (Ve (Vo (UR e) (I.ok.cab x c Nt hc)))).trans e1⟩
  ·by_cases hj:j=i
   ·subst hj
    rw[hi] at e1;cases e1
    rw[Yf Qs] at e2
    cases e2
    exact⟨u,r,.inr ⟨.inl hk,c,hc,L3⟩⟩
   ·rw[Vp (Ne.symm hj)] at e2
    obtain⟨u',r',q⟩:=hl j y v' e1 e2 e3
    refine⟨u',r',?_⟩
    rcases q with q|⟨k,c',e,z'⟩
    ·exact .inl q
    ·refine .inr ⟨k,c',e,z'.sameBut hs ?_⟩
     rintro rfl
     exact hj (ue hN e1 (I.ok.inj _ _ _ e hc▸hi))
  ·by_cases hcc:c'=c
   ·subst hcc;exact⟨_,L3⟩
   ·obtain⟨w2,z2⟩:=I.cell y c' e
    exact⟨w2,z2.sameBut hs hcc⟩
  ·obtain⟨e,n,ne,nf,d⟩:=I.pin p hp
   refine⟨(hs.2 p.1 ?_).trans e,n,ne,nf,d⟩
   intro q
   rw[q,hoc] at e
   have q':oc=p.2:=U0 e
   exact d w' (by rw[←q'];exact hocd)
theorem uf {A:VE}{u:Uz}{Q:Unit→UQ→Prop}(I:aF X pins σ H s)(hN:X.N.Nodup)(hi:X.N[i]? = some x)(hx:zY X.env.scope x)(r:bN v u)(h:∀s',aF X pins (σ.set i (some v)) H s'→Q () s')(hf:X.fn x=true∨X.env.scope.names.lookup x=some .local:=by first|exact .inl rfl|exact .inr rfl|assumption):U4 M A (storeName X.env x u) Q E s :=
 qP I hN hi hx r (fun s' I' _=>h s' I') hf
theorem aF.call' {s':UQ}(I:aF X pins σ H s)(ho:s'.os=s.os)(u:Un (xg X.stack) ch H H' s.heap s'.heap)(hok:lT X.prog X.w H' s'.heap)(hg:AllBare s'.gens)(C4:∀b∈ch,(b∈X.ex∨X.s₀.heap.objs.size≤b)∧b≠X.env.locals∧(∀x c,X.env.cells.lookup x=some c→c≠b)∧∀p∈X.pn++pins,p.1≠b):aF X pins σ H' s':=by
 obtain⟨h',g',d',t',o'⟩:=s'
 have e:o'=s.os:=ho
 subst e
 exact I.call (g':=g') (t':=t') (d':=d') u hok hg C4
end
noncomputable abbrev XK:=Uz→Option UY→Hp→Prop
noncomputable abbrev St:=List (Option V)
noncomputable abbrev VK:=V→Hp→Prop
noncomputable abbrev TE:=St→Hp→VK→Prop
noncomputable abbrev TT:=St→Hp→(Bool→Hp→Prop)→Prop
noncomputable abbrev TA:=St→Hp→(List V→Hp→Prop)→Prop
structure oJ where
 nx:St→Hp→Prop
 rt:VK
 bk:St→Hp→Prop:=fun _ _=>False
 ct:St→Hp→Prop:=fun _ _=>False
noncomputable abbrev TS:=oJ→St→Hp→Prop
noncomputable def EP (X:Cx)(pins:List (UY×Obj))(σ:St)(Q:VK)(u:Uz)(s':UQ):Prop:=∃v H',aF X pins σ H' s'∧bN v u∧Q v H'
noncomputable def TP (X:Cx)(pins:List (UY×Obj))(σ:St)(Q:Bool→Hp→Prop)(b:Bool)(s':UQ):Prop:=∃H',aF X pins σ H' s'∧Q b H'
noncomputable def AP (X:Cx)(pins:List (UY×Obj))(σ:St)(Q:List V→Hp→Prop)(us:List Uz)(s':UQ):Prop:=∃vs H',aF X pins σ H' s'∧aU vs us∧Q vs H'
noncomputable def SP (X:Cx)(pins:List (UY×Obj))(D:oJ)(f:Flow)(s':UQ):Prop :=
 match f with
 | .next=>∃σ' H',aF X pins σ' H' s'∧D.nx σ' H'
 | .brk=>∃σ' H',aF X pins σ' H' s'∧D.bk σ' H'
 | .cont=>∃σ' H',aF X pins σ' H' s'∧D.ct σ' H'
 | .ret u=>∃v σ' H',aF X pins σ' H' s'∧bN v u∧D.rt v H'
noncomputable def PE (X:Cx)(e:WI)(t:TE):Prop :=
 ∀(pins:List (UY×Obj)) (s:UQ) (σ:St) (H:Hp) (Q:VK),aF X pins σ H s→t σ H Q→U4 (Vf X.prog X.w) X.A (Yg e X.env) (EP X pins σ Q) X.xe s
noncomputable def PT (X:Cx)(e:WI)(t:TT):Prop :=
 ∀(pins:List (UY×Obj)) (s:UQ) (σ:St) (H:Hp) (Q:Bool→Hp→Prop),aF X pins σ H s→t σ H Q→U4 (Vf X.prog X.w) X.A (isTrue e X.env (Yg e X.env)) (TP X pins σ Q) X.xe s
noncomputable def PW (X:Cx)(e:WI)(t:TT):Prop :=
 ∀(lQ:Sem Uz) (pins:List (UY×Obj)) (s:UQ) (σ:St) (H:Hp) (Q:Bool→Hp→Prop),aF X pins σ H s→t σ H Q→U4 (Vf X.prog X.w) X.A (isTrue e X.env lQ) (TP X pins σ Q) X.xe s
theorem PW.pt {X:Cx}{e:WI}{t:TT}(h:PW X e t):PT X e t:=h _
noncomputable def PA (X:Cx)(es:List WI)(t:TA):Prop :=
 ∀(pos:Pos) (pins:List (UY×Obj)) (s:UQ) (σ:St) (H:Hp) (Q:List V→Hp→Prop),aF X pins σ H s→t σ H Q→U4 (Vf X.prog X.w) X.A (spliced (XF pos (UX es X.env))) (AP X pins σ Q) X.xe s
noncomputable def PS (X:Cx)(st:Stmt)(t:TS):Prop :=
 ∀(pins:List (UY×Obj)) (s:UQ) (σ:St) (H:Hp) (D:oJ),aF X pins σ H s→t D σ H→U4 (Vf X.prog X.w) X.A (exec st X.env) (SP X pins D) X.xe s
noncomputable def sv (X:Cx)(st:List Stmt)(t:TS):Prop :=
 ∀(pins:List (UY×Obj)) (s:UQ) (σ:St) (H:Hp) (D:oJ),aF X pins σ H s→t D σ H→U4 (Vf X.prog X.w) X.A (execs st X.env) (SP X pins D) X.xe s
theorem e_ {α:Type}{t:Sem α}{Q Q':α→UQ→Prop}{A:VE}(h:U4 M A t Q E s)(hQ:∀a s,Q a s→Q' a s):U4 M A t Q' E s:=V3 h hQ fun _ _ x=>x
end L2
variable {X:L2.Cx}{σ:L2.St}{te:L2.TE}
namespace L2
section
theorem Ue {a b:WI}{ta tb:TE}(ha:PE X a ta)(hb:PE X b tb){R:V→V→Hp→Prop}(I:aF X pins σ H s)(h:ta σ H fun x H1=>tb σ H1 fun y H2=>R x y H2){α:Type}{Q:α→UQ→Prop}{f:Uz→Uz→Sem α}(hf:∀v u s2 x y H2,aF X pins σ H2 s2→bN x v→bN y u→R x y H2→U4 (Vf X.prog X.w) X.A (f v u) Q X.xe s2) :
  U4 (Vf X.prog X.w) X.A (Yg a X.env) (fun v s₁=>U4 (Vf X.prog X.w) X.A (Yg b X.env) (fun u s₂=>U4 (Vf X.prog X.w) X.A (f v u) Q X.xe s₂) X.xe s₁) X.xe s:=by
 refine e_ (ha pins s σ H _ I h) fun v s1 ⟨x,H1,I1,r1,q1⟩ => ?_
 refine e_ (hb pins s1 σ H1 _ I1 q1) fun u s2 ⟨y,H2,I2,r2,q2⟩ => ?_
 exact hf v u s2 x y H2 I2 r1 r2 q2
noncomputable def GQ (i:Nat):TE:=fun σ H Q=>∃v,σ[i]? = some (some v)∧Q v H
noncomputable def tC (v:V):TE:=fun _ H Q=>Q v H
theorem j0 (hN:X.N[i]? = some x)(hv:Di X.env.scope x)(hd:(x==("__debug__":Str))=false:=by decide)(qv:(x==("__classdict__":Str))=false:=by decide):PE X (.Name x pos) (GQ i):=by
 intro pins s σ H Q I h
 obtain⟨v,e,h⟩:=h
 obtain⟨m,hn,hl⟩:=I.loc
 obtain⟨u,r,l⟩:=hl i x v hN e hv
 have fin:EP X pins σ Q u s:=⟨v,H,I,r,h⟩
 rcases l with⟨hk,hm⟩|⟨hk,c,hc,sd⟩
 ·exact wpAny_Name (wpAny_loadName_local I.ok.kind hk hn hm fin) hd
 ·rcases hk with hk|hk
  ·exact wpAny_Name (wpAny_loadName_cell I.ok.kind hk hc sd fin) hd
  ·exact wpAny_Name (wpAny_loadName_free I.ok.kind hk hc sd fin qv) hd
theorem zZ {i j pos}:PE X (.Constant (.int i) j pos) (tC (.int i)):=fun _ _ _ H _ I h=>wpAny_Constant_int ⟨.int i,H,I.tok _,⟨_,rfl⟩,h⟩
theorem Jt {b j pos}:PE X (.Constant (.bool b) j pos) (tC (.bl b)):=fun _ _ _ H _ I h=>Constant_bool ⟨.bl b,H,I,rfl,h⟩
theorem GR {j pos}:PE X (.Constant .none j pos) (tC .non):=fun _ _ _ H _ I h=>Constant_none ⟨.non,H,I,rfl,h⟩
theorem GU {x j pos}:PE X (.Constant (.str x) j pos) (tC (.str x)):=fun _ _ _ H _ I h=>Calls.Constant_str ⟨.str x,H,I.tok _,⟨_,rfl⟩,h⟩
noncomputable def Gl (X:Cx)(x:Str):Prop:=X.env.kindOf x=some .globalImplicit
theorem Dj {u:Uz}(I:aF X pins σ H s)(hg:Gl X x)(hm:X.mg x=some u)(h:Q u s)(hd:(x==("__debug__":Str))=false:=by decide):U4 (Vf X.prog X.w) X.A (Yg (.Name x pos) X.env) Q E s :=
 YZ I.ok.kind hg (Calls.loadGlobal_global (by rw[I.ok.glob];exact I.mod.glob.keeps I.bk) hm h) hd
theorem oK {u:Uz}(I:aF X pins σ H s)(hg:Gl X x)(hm:X.mg x=none)(hv:Vs x=some u)(h:Q u s)(hn:x≠"__name__":=by decide)(hd:(x==("__debug__":Str))=false:=by decide):U4 (Vf X.prog X.w) X.A (Yg (.Name x pos) X.env) Q E s:=by
 obtain⟨mb,h1,h2⟩:=I.mod.blt
 exact YZ I.ok.kind hg (Calls.loadGlobal_builtin (by rw[I.ok.glob];exact I.mod.glob.keeps I.bk) hm (by rw[I.ok.blt];exact h1.keeps I.bk) ((h2 x hn).trans hv) h) hd
theorem sC {u:Uz}(hg:Gl X x)(hm:X.mg x=none)(hv:Vs x=some u)(r:bN v u)(hn:x≠"__name__":=by decide)(hd:(x==("__debug__":Str))=false:=by decide):PE X (.Name x pos) (tC v) :=
 fun _ _ _ H _ I h=>oK I hg hm hv ⟨v,H,I,r,h⟩ hn hd
variable {a b:WI}{ta tb:TE}
noncomputable def PC (X:Cx)(op:CmpOp)(a b:WI)(t:TE):Prop :=
 ∀(pins:List (UY×Obj)) (s:UQ) (σ:St) (H:Hp) (Q:VK),aF X pins σ H s→t σ H Q →
  U4 (Vf X.prog X.w) X.A (Yg a X.env) (fun v s₁=>U4 (Vf X.prog X.w) X.A (Yg b X.env) (fun u s₂=>U4 (Vf X.prog X.w) X.A (WV op v u) (EP X pins σ Q) X.xe s₂) X.xe s₁) X.xe s
noncomputable def tB (t:TE):TT:=fun σ H Q=>t σ H fun x H1=>∃c,x=.bl c∧Q c H1
theorem Mh {t:TE}(h:PC X op a b t)(h1:Xy op b=false:=by first|exact nobehind _ (by decide) (by decide)|rfl):PT X (.Compare a [op] [b] pos) (tB t):=by
 intro pins s σ H Q I hw
 refine wpAny_isTrue_Compare1 (e_ (h pins s σ H _ I hw) fun v s1 h1=>e_ h1 fun u s2 h2=>e_ h2 fun c s3 ⟨x,H1,I1,r1,q1⟩ => ?_) h1
 obtain⟨d,rfl,q⟩:=q1
 cases r1
 exact Xd ⟨H1,I1,q⟩
theorem GV {e:WI}{t:TE}(h:PE X e t)(he:∀lQ,isTrue e X.env lQ=(do let v ←lQ;standAt e.pos;holding [v] (truthy v)):=by intro _;rfl):PT X e (tB t):=by
 intro pins s σ H Q I hw
 refine isTrue_plain (e_ (h pins s σ H _ I hw) fun v s1 ⟨x,H1,I1,r1,q1⟩ => ?_) (he _)
 obtain⟨d,rfl,q⟩:=q1
 cases r1
 exact Xd ⟨H1,I1,q⟩
variable {tA tB':TT}{rest:List WI}
noncomputable def Ju (t u:TT):TT:=fun σ H Q=>t σ H fun c H1=>if c=true then u σ H1 Q else Q false H1
noncomputable def P5 (t u:TT):TT:=fun σ H Q=>t σ H fun c H1=>if c=true then Q true H1 else u σ H1 Q
noncomputable def Mi (t:TT):TT:=fun σ H Q=>t σ H fun c H1=>Q (!c) H1
theorem Dk (ha:PT X a tA):PW X (.BoolOp .And [a] pos) tA:=by
 intro wh pins s σ H Q I h
 refine isTrue_and (e_ (ha pins s σ H Q I h) fun c s1 e => ?_)
 cases c with
 |true=>exact isTrue_and_nil e
 |false=>exact e
theorem GW (ha:PT X a tA):PW X (.BoolOp .Or [a] pos) tA:=by
 intro wh pins s σ H Q I h
 refine isTrue_or (e_ (ha pins s σ H Q I h) fun c s1 e => ?_)
 cases c with
 |false=>exact isTrue_or_nil e
 |true=>exact e
theorem GX (ha:PT X a tA)(hb:PW X (.BoolOp .And (b::rest) pos) tB'):PW X (.BoolOp .And (a::b::rest) pos) (Ju tA tB'):=by
 intro wh pins s σ H Q I h
 refine isTrue_and (e_ (ha pins s σ H _ I h) fun c s1 ⟨H1,I1,q1⟩ => ?_)
 cases c with
 |true=>exact hb wh pins s1 σ H1 Q I1 q1
 |false=>exact⟨H1,I1,q1⟩
theorem Jv (ha:PT X a tA)(hb:PW X (.BoolOp .Or (b::rest) pos) tB'):PW X (.BoolOp .Or (a::b::rest) pos) (P5 tA tB'):=by
 intro wh pins s σ H Q I h
 refine isTrue_or (e_ (ha pins s σ H _ I h) fun c s1 ⟨H1,I1,q1⟩ => ?_)
 cases c with
 |true=>exact⟨H1,I1,q1⟩
 |false=>exact hb wh pins s1 σ H1 Q I1 q1
theorem GY (ha:PT X a tA):PT X (.UnaryOp .Not a pos) (Mi tA):=by
 intro pins s σ H Q I h
 exact isTrue_not (ha pins s σ H (fun c H1=>Q (!c) H1) I h)
noncomputable def Jw (ta tb:TE):TE:=fun σ H Q=>ta σ H fun x H1=>∃c,x=.bl c∧if c=true then tb σ H1 Q else Q (.bl false) H1
theorem GZ {op}{t:TE}(h:PE X a t):PE X (.BoolOp op [a] pos) t:=fun pins s σ H Q I hw=>BoolOp_one (h pins s σ H Q I hw)
theorem G0 (ha:PE X a ta)(hb:PE X (.BoolOp .And (b::rest) pos) tb):PE X (.BoolOp .And (a::b::rest) pos) (Jw ta tb):=by
 intro pins s σ H Q I h
 refine BoolOp_and (e_ (ha pins s σ H _ I h) fun v s1 ⟨x,H1,I1,r1,q1⟩ => ?_)
 obtain⟨c,rfl,q1⟩:=q1
 cases r1
 refine Xd ?_
 cases c with
 |true=>exact hb pins s1 σ H1 Q I1 q1
 |false=>exact⟨.bl false,H1,I1,rfl,q1⟩
noncomputable def Q5 (t:TT)(ta tb:TE):TE:=fun σ H Q=>t σ H fun c H1=>if c=true then ta σ H1 Q else tb σ H1 Q
theorem z9 (hc:PT X c tA)(ha:PE X a ta)(hb:PE X b tb):PE X (.IfExp c a b pos) (Q5 tA ta tb):=by
 intro pins s σ H Q I h
 refine wpAny_IfExp (e_ (hc pins s σ H _ I h) fun d s1 ⟨H1,I1,q1⟩ => ?_)
 cases d with
 |true=>exact ha pins s1 σ H1 Q I1 q1
 |false=>exact hb pins s1 σ H1 Q I1 q1
end
end L2
namespace L2
noncomputable def fq (K:UB)(H:Hp)(a:UY)(xs:List V):Prop :=
 Rd H a (.lst xs) ∨
  ∃(o:Obj) (ar:Array Uz) (n:Nat),K.lookup a=some o∧o.cls=.type "list"∧o.dict=none∧o.data=.seq ar n∧ar.size≤UA∧aU xs ar.toList
noncomputable def gT (K:UB)(H:Hp)(a:UY)(xs:List V):Prop :=
 Rd H a (.tup xs) ∨
  ∃(o:Obj) (ar:Array Uz) (n:Nat),K.lookup a=some o∧o.cls=.type "tuple"∧o.data=.seq ar n∧ar.size≤UA∧aU xs ar.toList
noncomputable def Mj:Uz→Option V
 | .none=>some .non
 | .bool b=>some (.bl b)
 | .int i _=>some (.int i)
 | .str x _=>some (.str x)
 | .bytes b _=>some (.byt b)
 | .float b _=>some (.flt b)
 | .ref a=>some (.ref a)
 | .type n=>some (.ty n)
 |_=>none
theorem bN.abs {x:V}{u:Uz}(r:bN x u):Mj u=some x:=by
 cases x with
 |non=>cases r;rfl
 |bl _=>cases r;rfl
 |int _=>obtain⟨t,rfl⟩:=r;rfl
 |str _=>obtain⟨t,rfl⟩:=r;rfl
 |byt _=>obtain⟨t,rfl⟩:=r;rfl
 |flt _=>obtain⟨t,rfl⟩:=r;rfl
 |ref _=>cases r;rfl
 |ty _=>cases r;rfl
theorem bN.inj {x y:V}{u:Uz}(r:bN x u)(q:bN y u):x=y:=U0 (r.abs.symm.trans q.abs)
theorem aU.inj:∀{xs ys:List V} {us:List Uz},aU xs us→aU ys us→xs=ys
 |_,_,_,.nil,.nil=>rfl
 |_,_,_,.cons r t,.cons r' t'=>by rw[r.inj r',aU.inj t t']
section
variable {ys:List V}
theorem fq.of (h:H a=some (.lst xs)):fq K H a xs:=.inl (.inl h)
theorem gT.of (h:H a=some (.tup xs)):gT K H a xs:=.inl (.inl h)
theorem aF.list (I:aF X pins σ H s)(h:fq X.K H a xs):∃ar:List Uz,aU xs ar∧PlainL s.heap a ar.toArray∧xs.length≤UA:=by
 rcases h with h|⟨o,ar,n,hk,hc,hd,hs,hz,r⟩
 ·obtain⟨z,ar,n,r,e⟩:=h.ok I.hok
  exact⟨ar,r,⟨_,n,e,rfl,rfl,rfl⟩,z⟩
 ·refine⟨ar.toList,r,⟨o,n,I.kIn a o hk,hc,hd,by simpa using hs⟩,?_⟩
  have e:=r.length
  simp only[UE] at e
  lia
theorem aF.tuple (I:aF X pins σ H s)(h:gT X.K H a xs):∃ar:List Uz,aU xs ar∧IsTup s.heap a ar.toArray∧xs.length≤UA:=by
 rcases h with h|⟨o,ar,n,hk,hc,hs,hz,r⟩
 ·obtain⟨z,ar,r,p,_⟩:=h.ok I.hok
  exact⟨ar,r,p,z⟩
 ·refine⟨ar.toList,r,⟨o,I.kIn a o hk,hc,n,by simpa using hs⟩,?_⟩
  have e:=r.length
  simp only[UE] at e
  lia
theorem aF.list_inj (I:aF X pins σ H s)(h:fq X.K H a xs)(h':fq X.K H a ys):xs=ys:=by
 obtain⟨ar,r,⟨o,n,e,_,_,d⟩,_⟩:=I.list h
 obtain⟨its',r',⟨o',n',e',_,_,d'⟩,_⟩:=I.list h'
 rw[e] at e';cases e'
 rw[d] at d'
 injection d' with d1 _
 have:ar=its':=by simpa using congrArg Array.toList d1
 subst this
 exact r.inj r'
theorem aF.tuple_inj (I:aF X pins σ H s)(h:gT X.K H a xs)(h':gT X.K H a ys):xs=ys:=by
 obtain⟨ar,r,⟨o,e,_,n,d⟩,_⟩:=I.tuple h
 obtain⟨its',r',⟨o',e',_,n',d'⟩,_⟩:=I.tuple h'
 rw[e] at e';cases e'
 rw[d] at d'
 injection d' with d1 _
 have:ar=its':=by simpa using congrArg Array.toList d1
 subst this
 exact r.inj r'
end
noncomputable abbrev Cx.wish (X:Cx)(E:Uz→UQ→Prop):Cx:={X with xe:=E}
noncomputable abbrev Cx.nox (X:Cx):Cx:=X.wish fun _ _=>False
theorem Cx.Ok.wish (ok:X.Ok)(E:Uz→UQ→Prop):(X.wish E).Ok :=
 ⟨ok.mod,ok.kind,ok.glob,ok.blt,ok.above,ok.inj,ok.has,ok.cab,ok.hd,ok.frames,ok.stk,ok.exf,ok.bs,ok.bsz,ok.noex,ok.exfs,ok.funs,ok.frf⟩
theorem Cx.Ok.unwish (ok:(X.wish E).Ok):X.Ok :=
 ⟨ok.mod,ok.kind,ok.glob,ok.blt,ok.above,ok.inj,ok.has,ok.cab,ok.hd,ok.frames,ok.stk,ok.exf,ok.bs,ok.bsz,ok.noex,ok.exfs,ok.funs,ok.frf⟩
theorem aF.wish (I:aF X pins σ H s)(E:Uz→UQ→Prop):aF (X.wish E) pins σ H s:=⟨I.ok.wish E,I.os,I.bare,I.base,I.loc,I.cell,I.free,I.freeC,I.pin,I.hok,I.len⟩
theorem aF.unwish (I:aF (X.wish E) pins σ H s):aF X pins σ H s:=⟨I.ok.unwish,I.os,I.bare,I.base,I.loc,I.cell,I.free,I.freeC,I.pin,I.hok,I.len⟩
theorem SP.unwish {D:oJ}{f:Flow}{s':UQ}(h:SP (X.wish E) pins D f s'):SP X pins D f s':=by
 cases f with
 |next=>obtain⟨σ',H',I,q⟩:=h;exact⟨σ',H',I.unwish,q⟩
 |brk=>obtain⟨σ',H',I,q⟩:=h;exact⟨σ',H',I.unwish,q⟩
 |cont=>obtain⟨σ',H',I,q⟩:=h;exact⟨σ',H',I.unwish,q⟩
 |ret u=>obtain⟨v,σ',H',I,r,q⟩:=h;exact⟨v,σ',H',I.unwish,r,q⟩
theorem sv.nox {st:List Stmt}{t:TS}(h:sv X.nox st t):sv X st t:=fun pins s σ H D I hw =>
 V3 (h pins s σ H D (I.wish _) hw) (fun _ _ q=>q.unwish) fun _ _ z=>Xz z
section
variable {rest:List Stmt}{t u:TS}{e:WI}
noncomputable def Jx:TS:=fun D σ H=>D.nx σ H
noncomputable def Ml (t u:TS):TS:=fun D σ H=>t {D with nx:=u D} σ H
theorem Dl:sv X [] Jx:=fun _ _ σ H _ I h=>wpAny_execs_nil ⟨σ,H,I,h⟩
theorem z_ (h1:PS X st t)(h2:sv X rest u):sv X (st::rest) (Ml t u):=by
 intro pins s σ H D I h
 refine wpAny_execs_cons (e_ (h1 pins s σ H {D with nx:=u D} I h) fun f s1 q => ?_)
 cases f with
 |next =>
  obtain⟨σ',H',I',q⟩:=q
  exact h2 pins s1 σ' H' D I' q
 |ret v=>exact q
 |brk=>exact q
 |cont=>exact q
theorem Dm (h1:PS X st t):sv X [st] t:=by
 intro pins s σ H D I h
 refine wpAny_execs_cons (e_ (h1 pins s σ H D I h) fun f s1 q => ?_)
 cases f with
 |next=>exact wpAny_execs_nil q
 |ret v=>exact q
 |brk=>exact q
 |cont=>exact q
theorem aF.quiet (I:aF X pins σ H s):interactive X.env=false:=by simp[interactive,I.ok.kind]
noncomputable def Jy (te:TE):TS:=fun D σ H=>te σ H fun _ H1=>D.nx σ H1
theorem Dn (he:PE X e te)(hs:Yy e none pos.line X.env=pure false:=by rfl):PS X (.Expr e pos) (Jy te):=by
 intro pins s σ H D I h
 exact wpAny_Expr_any (e_ (he pins s σ H _ I h) fun v s1 ⟨x,H1,I1,r1,q1⟩=>⟨σ,H1,I1,q1⟩) I.quiet hs
noncomputable def Mm (te:TE):TS:=fun D σ H=>te σ H D.rt
theorem Aa (he:PE X e te):PS X (.Return (some e) pos) (Mm te):=by
 intro pins s σ H D I h
 exact wpAny_Return_some (e_ (he pins s σ H _ I h) fun v s1 ⟨x,H1,I1,r1,q1⟩=>⟨x,σ,H1,I1,r1,q1⟩)
noncomputable def Mn (c:TT)(t u:TS):TS:=fun D σ H=>c σ H fun b H1=>if b=true then t D σ H1 else u D σ H1
theorem Jz {a b:List Stmt}{tc:TT}(hc:PT X c tc)(ha:sv X a t)(hb:sv X b u):PS X (.If c a b pos) (Mn tc t u):=by
 intro pins s σ H D I h
 refine wpAny_If (e_ (hc pins s σ H _ I h) fun d s1 ⟨H1,I1,q1⟩ => ?_)
 cases d with
 |true=>exact ha pins s1 σ H1 D I1 q1
 |false=>exact hb pins s1 σ H1 D I1 q1
end
noncomputable abbrev TG:=V→St→Hp→(St→Hp→Prop)→Prop
noncomputable abbrev Dp:=List V→St→Hp→(St→Hp→Prop)→Prop
noncomputable def PG (X:Cx)(mP:WI)(t:TG):Prop :=
 ∀(pins:List (UY×Obj)) (s:UQ) (σ:St) (H:Hp) (v:V) (u:Uz) (Q:St→Hp→Prop),aF X pins σ H s→bN v u→t v σ H Q →
  U4 (Vf X.prog X.w) X.A (assign mP X.env u) (fun _ s'=>∃σ' H',aF X pins σ' H' s'∧Q σ' H') X.xe s
noncomputable def E9 (X:Cx)(ts:List WI)(t:Dp):Prop :=
 ∀(pins:List (UY×Obj)) (s:UQ) (σ:St) (H:Hp) (vs:List V) (us:List Uz) (Q:St→Hp→Prop),aF X pins σ H s→aU vs us→t vs σ H Q →
  U4 (Vf X.prog X.w) X.A (assignInOrder ((Xm ts X.env).map (·.2)) us) (fun _ s'=>∃σ' H',aF X pins σ' H' s'∧Q σ' H') X.xe s
noncomputable abbrev G1:=V→V→V→Hp→(Hp→Prop)→Prop
noncomputable def JA (X:Cx)(t:G1):Prop :=
 ∀(pins:List (UY×Obj)) (s:UQ) (σ:St) (H:Hp) (o i v:V) (ov iv u:Uz) (Q:Hp→Prop),aF X pins σ H s→bN o ov→bN i iv→bN v u→t o i v H Q →
  U4 (Vf X.prog X.w) X.A (setItem ov iv u) (fun _ s'=>∃H',aF X pins σ H' s'∧Q H') X.xe s
noncomputable def ug (i:Nat):TG:=fun v σ H Q=>Q (σ.set i (some v)) H
theorem Dq (hN:X.N.Nodup)(hi:X.N[i]? = some x)(hx:zY X.env.scope x)(hf:X.fn x=true∨X.env.scope.names.lookup x=some .local:=by first|exact .inl rfl|exact .inr rfl|assumption):PG X (.Name x pos) (ug i):=by
 intro pins s σ H v u Q I r h
 exact wpAny_assign_Name (uf I hN hi hx r (fun s' I'=>⟨_,H,I',h⟩) hf)
noncomputable def Mo:Dp:=fun vs σ H Q=>vs=[]∧Q σ H
noncomputable def JB (t:TG)(u:Dp):Dp:=fun vs σ H Q=>∃v r,vs=v::r∧t v σ H fun σ' H'=>u r σ' H' Q
theorem Dr:E9 X [] Mo:=by
 intro pins s σ H vs us Q I r h
 obtain⟨e,h⟩:=h
 subst e
 cases r
 exact assignInOrder_nil ⟨σ,H,I,h⟩
theorem Ab {e:WI}{es:List WI}{t:TG}{u:Dp}(h1:PG X e t)(h2:E9 X es u)
  (hs:(Xm (e::es) X.env).map (·.2)=assign e X.env::(Xm es X.env).map (·.2):=by rfl):E9 X (e::es) (JB t u):=by
 intro pins s σ H vs us Q I r h
 obtain⟨v,vr,e1,h⟩:=h
 subst e1
 cases r with
 |cons r rr =>
  rw[hs]
  refine assignInOrder_cons (e_ (h1 pins s σ H _ _ _ I r h) fun _ s1 ⟨σ1,H1,I1,q1⟩ => ?_)
  exact h2 pins s1 σ1 H1 _ _ Q I1 rr q1
noncomputable def Mp (K:UB)(n:Nat)(t:Dp):TG:=fun v σ H Q=>∃a xs,v=.ref a∧gT K H a xs∧xs.length=n∧t xs σ H Q
theorem G2 {es:List WI}{t:Dp}(hc:X.calm=true)(h:E9 X es t)(hn:(Xm es X.env).length=n:=by rfl)(g8:(Xm es X.env).findIdx? (·.1)=none:=by rfl):PG X (.Tuple es k pos) (Mp X.K n t):=by
 intro pins s σ H v u Q I r hw
 obtain⟨a,xs,e1,hq,hl,hw⟩:=hw
 subst e1
 cases r
 obtain⟨ar,rv,ht,hz⟩:=I.tuple hq
 refine assign_Tuple_tuple (I.ok.hd hc) ht (by simp[hn,←hl,rv.length]) g8 fun h' hx => ?_
 have I1:aF X pins σ H {s with heap:=h'}:=I.kept (t':=s.toks) fun b o e=>hx b o (Ve (UR e)) e
 exact h pins _ σ H xs _ Q I1 (by simpa using rv) hw
noncomputable def Mq (to ti:TE)(t:G1):TG:=fun v σ H Q=>to σ H fun o H1=>ti σ H1 fun i H2=>t o i v H2 fun H3=>Q σ H3
theorem G3 {o i:WI}{to ti:TE}{t:G1}(ho:PE X o to)(hi:PE X i ti)(hs:JA X t)
  (ha:∀v,assign (.Subscript o i pos) X.env v=(do
   let ov ←holding [v] (Yg o X.env)
   let iv ←holding [v,ov] (Yg i X.env)
   standAt pos
   holding [v,ov,iv] (setItem ov iv v)
   release [v,ov,iv] []):=by intro _;rfl):PG X (.Subscript o i pos) (Mq to ti t):=by
 intro pins s σ H v u Q I r h
 rw[ha]
 refine Uw (Wl (e_ (ho pins s σ H _ I h) fun ov s1 ⟨x,H1,I1,r1,q1⟩ => ?_))
 refine Uw (Wl (e_ (hi pins s1 σ H1 _ I1 q1) fun iv s2 ⟨y,H2,I2,r2,q2⟩ => ?_))
 refine Uw (wpAny_standAt (Uw (Wl (e_ (hs pins s2 σ H2 x y v ov iv u _ I2 r1 r2 r q2) fun _ s3 ⟨H3,I3,q3⟩ => ?_))))
 exact wpAny_release ⟨σ,H3,I3,q3⟩
noncomputable def Ac (te:TE)(g:TG):TS:=fun D σ H=>te σ H fun x H1=>g x σ H1 D.nx
theorem G4 {e:WI}{g:TG}(he:PE X e te)(hg:PG X tg g)(hs:swapsWithSole [tg] e pos.line X.env=pure false:=by rfl)(hw:swappedStores [tg] e X.env=pure none:=by rfl)(h1:(Xm [tg] X.env).map (·.2)=[assign tg X.env]:=by rfl):PS X (.Assign [tg] e pos) (Ac te g):=by
 intro pins s σ H D I h
 refine wpAny_Assign_stores (e_ (he pins s σ H _ I h) fun v s1 ⟨x,H1,I1,r1,q1⟩ => ?_) hs hw
 rw[h1]
 exact e_ (hg pins s1 σ H1 x v _ I1 r1 q1) fun _ s2 q=>q
theorem vU {e:WI}{lM:Pos}(hN:X.N.Nodup)(hi:X.N[i]? = some x)(hx:zY X.env.scope x)(he:PE X e te)(hs:Yy e (some (.Name x lM)) pos.line X.env=pure false:=by rfl)(hf:X.fn x=true∨X.env.scope.names.lookup x=some .local:=by first|exact .inl rfl|exact .inr rfl|assumption) :
  PS X (.Assign [.Name x lM] e pos) (Ac te (ug i)):=by
 intro pins s σ H D I h
 refine wpAny_Assign_Name (e_ (he pins s σ H _ I h) fun v s1 ⟨y,H1,I1,r1,q1⟩ => ?_) hs
 exact uf I1 hN hi hx r1 (fun s2 I2=>⟨_,H1,I2,q1⟩) hf
structure It where
 go:Nat→Hp→Prop
 yld:Nat→Hp→V→Hp→Prop
 stop:Nat→Hp→Prop
noncomputable def nU (X:Cx)(pins:List (UY×Obj))(H:Hp)(b:UY):Prop :=
 H b=none∧b≠X.env.locals∧b∉X.fs∧(b∈X.ex∨X.s₀.heap.objs.size≤b)∧(∀x c,X.env.cells.lookup x=some c→c≠b)∧∀p∈X.pn++pins,p.1≠b
theorem aF.fpOk (I:aF X pins σ H s)(hb:s.heap.objs.size≤b)(hn:H' b=none):nU X pins H' b:=by
 refine⟨hn,XY (Vo I.lt hb),I.nofs hb,.inr (VC I.sz hb),fun x c e z => ?_,fun p hp z => ?_⟩
 ·obtain⟨v,q⟩:=I.cell x c e
  exact absurd (Vo q.lt (by rw[z];exact hb)) (Wj _)
 ·exact absurd (Vo (UR (I.pin p hp).1) (by rw[z];exact hb)) (Wj _)
structure yQ (P:XI)(w:Xx)(K:UB)(tg:WI)(J:It)(fp:List UY)(it:UY)(tn:Nat→Xi→Prop):Prop where
 mem:it∈fp
 obj:∀i h,tn i h→∀b∈fp,∃o,h.get? b=some o∧∀v,o.data≠.cell v
 keep:∀i h h',tn i h→(∀b∈fp,∀o,h.get? b=some o→h'.get? b=some o)→tn i h'
 item:∀(X:Cx),X.prog=P→X.w=w→X.K=K→X.calm=true→∀(i:Nat) (pins:List (UY×Obj)) (s:UQ) (σ:St) (H:Hp) (E:Uz→UQ→Prop),aF X pins σ H s→(∀b∈fp,nU X pins H b)→tn i s.heap→J.go i H →
  U4 (Vf P w) X.A (pyNext (.ref it)) (fun r s1=>∃u,r=some u ∧
   U4 (Vf P w) X.A (YQ tg (.ref it) u) (fun _ s2=>∃x H',aF X pins σ H' s2∧bN x u∧J.yld i H x H'∧tn (i+1) s2.heap∧∀b∈fp,H' b=none) E s1) E s
 done:∀(X:Cx),X.prog=P→X.w=w→X.K=K→X.calm=true→∀(i:Nat) (pins:List (UY×Obj)) (s:UQ) (σ:St) (H:Hp) (E:Uz→UQ→Prop),aF X pins σ H s→(∀b∈fp,nU X pins H b)→tn i s.heap→J.stop i H →
  U4 (Vf P w) X.A (pyNext (.ref it)) (fun r s1=>r=none∧aF X pins σ H s1) E s
 self:∀(A:VE) (i:Nat) (s:UQ) (Q:Uz→UQ→Prop) (E:Uz→UQ→Prop),tn i s.heap→Q (.ref it) s→U4 (Vf P w) A (pyIter (.ref it)) Q E s
noncomputable abbrev TI:=St→Hp→(It→Hp→Prop)→Prop
noncomputable def P6 (X:Cx)(pins:List (UY×Obj))(σ:St)(tg:WI)(R:It→Hp→Prop)(L4:Uz)(s2:UQ):Prop :=
 ∃(it:UY) (fp:List UY) (tn:Nat→Xi→Prop) (J:It) (H':Hp),L4=.ref it∧aF X pins σ H' s2∧yQ X.prog X.w X.K tg J fp it tn∧tn 0 s2.heap∧(∀b∈fp,nU X pins H' b)∧R J H'
noncomputable def PI (X:Cx)(tg iter:WI)(wi:TI):Prop :=
 ∀(pins:List (UY×Obj)) (s:UQ) (σ:St) (H:Hp) (R:It→Hp→Prop),aF X pins σ H s→wi σ H R →
  U4 (Vf X.prog X.w) X.A (Yg iter X.env) (fun v s1=>U4 (Vf X.prog X.w) X.A (pyIter v) (P6 X pins σ tg R) X.xe s1) X.xe s
theorem Ad {A:VE}{u:Uz}{o:Obj}{n:String}{vs:Array Uz}{Q:Unit→UQ→Prop}(ho:s.heap.get? it=some o)(hc:o.cls=.type n)(hd:o.data=.fields vs)(hn:["enumerate","zip","dict_itemiterator","dict_reverseitemiterator","odict_iterator","itertools.zip_longest","itertools.pairwise"].contains n=false)(hQ:Q () s):U4 M A (YQ tg (.ref it) u) Q E s:=by
  unfold YQ
  cases tg<;>first
    |exact UD hQ
    | (cases u<;>first
        |exact UD hQ
        | (refine Uw (wpAny_load ho ?_)
           rw[hc,hd]
           show U4 M A (if (["enumerate","zip","dict_itemiterator","dict_reverseitemiterator","odict_iterator","itertools.zip_longest","itertools.pairwise"].contains n&&vs[0]? == some (rawInt _))=true then _ else _) Q E s
           rw[if_neg (by intro h;rw[hn,Bool.false_and] at h;cases h)]
           exact UD hQ))
noncomputable def LF (K:UB)(a:UY):It :=
 ⟨fun i H=>∃xs x,fq K H a xs∧xs[i]? = some x,fun i H x H'=>H'=H∧∀xs,fq K H a xs→xs[i]? = some x,fun i H=>∃xs,fq K H a xs∧xs.length≤i⟩
noncomputable def Mr (K:UB)(a:UY):It :=
 ⟨fun i H=>∃xs x,gT K H a xs∧xs[i]? = some x,fun i H x H'=>H'=H∧∀xs,gT K H a xs→xs[i]? = some x,fun i H=>∃xs,gT K H a xs∧xs.length≤i⟩
noncomputable def LG (lo:Int)(n:Nat):It:=⟨fun i _=>i<n,fun i H x H'=>H'=H∧x=.int (lo+i),fun i _=>n≤i⟩
theorem yR (a it:UY):yQ P w K tg (LF K a) [it] it (fun i h=>h.IsListIter it a i) where
 mem:=by simp
 obj:=fun i h st b hb=>by
  have e:b=it:=by simpa using hb
  subst e
  obtain⟨o,e,c,d⟩:=st
  exact⟨o,e,fun v z=>by rw[d] at z;cases z⟩
 keep:=fun i h h' st k=>st.at fun o e=>k it (by simp) o e
 item:=by
  intro X hP hw hK hc i pins s σ H E I hf st hg
  subst hP hw hK
  obtain⟨xs,x,hq,hx⟩:=hg
  obtain⟨ar,rv,p,hz⟩:=I.list hq
  obtain⟨u,hu,ru⟩:=rv.get hx
  obtain⟨f0,f1,f2,f3,f4,f5⟩:=hf it (by simp)
  refine wpAny_pyNext_list_item st p.isList (x:=u) (by simpa using hu) fun h' aH sb => ?_
  have I1:aF X pins σ H {s with heap:=h'}:=I.turned (t':=s.toks) (fun b o hb e=>(sb.2 b hb).trans e) f0 f1 f3 f4 f5
  obtain⟨o,e,c,d⟩:=id aH
  exact⟨u,rfl,Ad (s:={s with heap:=h'}) e c d (by decide) ⟨x,H,I1,ru,⟨rfl,fun ys hy=>by rw[I.list_inj hy hq];exact hx⟩,aH,fun b hb=>(hf b hb).1⟩⟩
 done:=by
  intro X hP hw hK hc i pins s σ H E I hf st hg
  subst hP hw hK
  obtain⟨xs,hq,hx⟩:=hg
  obtain⟨ar,rv,p,hz⟩:=I.list hq
  obtain⟨f0,f1,f2,f3,f4,f5⟩:=hf it (by simp)
  have hl:=rv.length
  exact wpAny_pyNext_list_end (I.ok.hd hc) st p.isList (by simp;lia) fun h' eb=>⟨rfl,I.turned (t':=s.toks) (fun b o hb e=>eb b o hb e) f0 f1 f3 f4 f5⟩
 self:=fun _ _ _ _ _ st h=>wpAny_pyIter_listiter st h
theorem vV (a it:UY):yQ P w K tg (Mr K a) [it] it (fun i h=>h.IsTupleIter it a i) where
 mem:=by simp
 obj:=fun i h st b hb=>by
  have e:b=it:=by simpa using hb
  subst e
  obtain⟨o,e,c,d⟩:=st
  exact⟨o,e,fun v z=>by rw[d] at z;cases z⟩
 keep:=fun i h h' st k=>st.at fun o e=>k it (by simp) o e
 item:=by
  intro X hP hw hK hc i pins s σ H E I hf st hg
  subst hP hw hK
  obtain⟨xs,x,hq,hx⟩:=hg
  obtain⟨ar,rv,p,hz⟩:=I.tuple hq
  obtain⟨u,hu,ru⟩:=rv.get hx
  obtain⟨f0,f1,f2,f3,f4,f5⟩:=hf it (by simp)
  refine wpAny_pyNext_tuple_item st (show s.heap.IsTuple a ar.toArray from p) (x:=u) (by simpa using hu) fun h' aH sb => ?_
  have I1:aF X pins σ H {s with heap:=h'}:=I.turned (t':=s.toks) (fun b o hb e=>(sb.2 b hb).trans e) f0 f1 f3 f4 f5
  obtain⟨o,e,c,d⟩:=id aH
  exact⟨u,rfl,Ad (s:={s with heap:=h'}) e c d (by decide) ⟨x,H,I1,ru,⟨rfl,fun ys hy=>by rw[I.tuple_inj hy hq];exact hx⟩,aH,fun b hb=>(hf b hb).1⟩⟩
 done:=by
  intro X hP hw hK hc i pins s σ H E I hf st hg
  subst hP hw hK
  obtain⟨xs,hq,hx⟩:=hg
  obtain⟨ar,rv,p,hz⟩:=I.tuple hq
  obtain⟨f0,f1,f2,f3,f4,f5⟩:=hf it (by simp)
  have hl:=rv.length
  exact wpAny_pyNext_tuple_end (I.ok.hd hc) st (show s.heap.IsTuple a ar.toArray from p) (by simp;lia) fun h' eb=>⟨rfl,I.turned (t':=s.toks) (fun b o hb e=>eb b o hb e) f0 f1 f3 f4 f5⟩
 self:=fun _ _ _ _ _ st h=>wpAny_pyIter_tupleiter st h
theorem vW (it:UY)(lo:Int)(n:Nat):yQ P w K tg (LG lo n) [it] it (fun i h=>IsRangeIter h it (lo+(i:Nat)*1) ((n:Int) - (i:Nat)) 1) where
 mem:=by simp
 obj:=fun i h st b hb=>by
  have e:b=it:=by simpa using hb
  subst e
  exact⟨_,st,fun v z=>by
   have z':Data.fields _=Data.cell v:=z
   cases z'⟩
 keep:=fun i h h' st k=>k it (by simp) _ st
 item:=by
  intro X hP hw hK hc i pins s σ H E I hf st hg
  subst hP hw hK
  obtain⟨f0,f1,f2,f3,f4,f5⟩:=hf it (by simp)
  have W:=Walks.range (prog:=X.prog) (w:=X.w) (I.ok.hd hc) it lo 1 n
  refine W.item i s _ _ hg st fun v h' tk hv aH kk => ?_
  obtain⟨t,rfl⟩:=hv
  have I1:aF X pins σ H {s with heap:=h',toks:=tk}:=I.turned (fun b o hb e=>kk b o (by simpa using hb) e) f0 f1 f3 f4 f5
  refine⟨_,rfl,Ad (s:={s with heap:=h',toks:=tk}) (n:="range_iterator") aH rfl rfl (by decide) ⟨.int (lo+i),H,I1,⟨t,?_⟩,⟨rfl,rfl⟩,aH,fun b hb=>(hf b hb).1⟩⟩
  rw[Int.mul_one]
 done:=by
  intro X hP hw hK hc i pins s σ H E I hf st hg
  subst hP hw hK
  obtain⟨f0,f1,f2,f3,f4,f5⟩:=hf it (by simp)
  exact wpAny_pyNext_range_end (I.ok.hd hc) st (by have:n≤i:=hg;lia) fun h' eb=>⟨rfl,I.turned (t':=s.toks) (fun b o hb e=>eb b o hb e) f0 f1 f3 f4 f5⟩
 self:=fun _ _ _ _ _ st h=>wpAny_pyIter_rangeiter st h
end L2
variable {wi:L2.TI}
namespace L2
noncomputable def JC (K:UB)(tl:TE):TI:=fun σ H R=>tl σ H fun x H1=>∃a,x=.ref a∧(∃xs,fq K H1 a xs)∧R (LF K a) H1
noncomputable def Mt (K:UB)(tl:TE):TI:=fun σ H R=>tl σ H fun x H1=>∃a,x=.ref a∧(∃xs,gT K H1 a xs)∧R (Mr K a) H1
theorem Ds {l:WI}{tl:TE}(hl:PE X l tl):PI X tg l (JC X.K tl):=by
 intro pins s σ H R I h
 refine e_ (hl pins s σ H _ I h) fun v s1 ⟨x,H1,I1,r1,q1⟩ => ?_
 obtain⟨a,e,⟨xs,hq⟩,q⟩:=q1
 subst e
 cases r1
 obtain⟨ar,rv,p,hz⟩:=I1.list hq
 refine Yi p.isList ?_
 refine⟨s1.heap.objs.size,[s1.heap.objs.size],_,_,H1,rfl,I1.kept (t':=s1.toks) fun b o e=>Uy _ e,yR a _,⟨_,UN _ rfl,rfl,rfl⟩,fun b hb => ?_,q⟩
 have e:b=s1.heap.objs.size:=by simpa using hb
 subst e
 exact I1.fpOk (UK _) (I1.hok.fresh (UK _))
theorem G5 {l:WI}{tl:TE}(hl:PE X l tl):PI X tg l (Mt X.K tl):=by
 intro pins s σ H R I h
 refine e_ (hl pins s σ H _ I h) fun v s1 ⟨x,H1,I1,r1,q1⟩ => ?_
 obtain⟨a,e,⟨xs,hq⟩,q⟩:=q1
 subst e
 cases r1
 obtain⟨ar,rv,p,hz⟩:=I1.tuple hq
 refine wpAny_pyIter_tuple (show s1.heap.IsTuple a ar.toArray from p) ?_
 refine⟨s1.heap.objs.size,[s1.heap.objs.size],_,_,H1,rfl,I1.kept (t':=s1.toks) fun b o e=>Uy _ e,vV a _,⟨_,UN _ rfl,rfl,rfl⟩,fun b hb => ?_,q⟩
 have e:b=s1.heap.objs.size:=by simpa using hb
 subst e
 exact I1.fpOk (UK _) (I1.hok.fresh (UK _))
theorem Ae {R:It→Hp→Prop}{lo hi:Int}{t u v:Tok}{tk:Nat}(I:aF X pins σ H s)(h1 : -(2 ^ 62)≤lo)(h2:lo<2 ^ 62)(h3 : -(2 ^ 62)≤hi)(h4:hi<2 ^ 62)(q:R (LG lo (hi - lo).toNat) H):U4 (Vf X.prog X.w) X.A (pyIter (.ref s.heap.objs.size)) (P6 X pins σ tg R) E {s with heap:=s.heap.push {cls:=.type "range",data:=.fields #[.int lo t,.int hi u,.int 1 v]},toks:=tk}:=by
 refine wpAny_pyIter_range (IsRange.new ..) (small_one h1 h2 h3 h4) ?_
 have I1:aF X pins σ H {s with heap:=s.heap.push {cls:=.type "range",data:=.fields #[.int lo t,.int hi u,.int 1 v]},toks:=tk}:=I.kept fun b o e=>Uy _ e
 refine⟨(s.heap.push {cls:=.type "range",data:=.fields #[.int lo t,.int hi u,.int 1 v]}).objs.size,[(s.heap.push {cls:=.type "range",data:=.fields #[.int lo t,.int hi u,.int 1 v]}).objs.size],_,_,H,rfl,
  I1.kept (t':=tk) fun b o e=>Uy _ e,vW _ lo (hi - lo).toNat,?_,fun b hb => ?_,q⟩
 ·have e1:lo+((0:Nat):Int)*1=lo:=by simp
  have e2:(((hi - lo).toNat:Nat):Int) - ((0:Nat):Int)=X3 lo hi 1:=by rw[rangeSize_one];split<;>lia
  show IsRangeIter _ _ (lo+((0:Nat):Int)*1) ((((hi - lo).toNat:Nat):Int) - ((0:Nat):Int)) 1
  rw[e1,e2]
  exact UN _ rfl
 ·have e:b=(s.heap.push {cls:=.type "range",data:=.fields #[.int lo t,.int hi u,.int 1 v]}).objs.size:=by simpa using hb
  subst e
  exact I1.fpOk (UK _) (I1.hok.fresh (UK _))
noncomputable def JD (ta:TA):TI:=fun σ H R=>ta σ H fun vs H1=>∃j:Int,vs=[.int j] ∧ -(2 ^ 62)≤j∧j<2 ^ 62∧R (LG 0 j.toNat) H1
theorem yS {a:WI}{ta:TA}{p:Pos}(hg:Gl X "range")(hm:X.mg "range"=none)(ha:PA X [a] ta)(hs:UX [a] X.env=[(false,Yg a X.env)]:=by rfl):PI X tg (.Call (.Name "range" p) [a] [] pos) (JD ta):=by
 intro pins s σ H R I h
 refine Call_ (oK I hg hm boot_range (Xt (e_ (ha pos pins s σ H _ I h) fun us s1 ⟨vs,H1,I1,r1,q1⟩ => ?_) hs rfl))
 obtain⟨j,e,q1,q2,q⟩:=q1
 subst e
 cases r1 with
 |cons r rr =>
  cases rr
  obtain⟨t,rfl⟩:=r
  exact call_range_1 (Ae I1 (by lia) (by lia) q1 q2 (by simpa using q))
noncomputable def Mv (wi:TI)(g:TG)(tb:TS):TS:=fun D σ H=>wi σ H fun J H1=>∃W:Nat→Nat→St→Hp→Prop,(∃m,W 0 m σ H1)∧∀i m σ H,W i m σ H →
 (J.stop i H∧D.nx σ H)∨(J.go i H∧∃N:St→Hp→Prop,(∀σ' H',N σ' H'→∃m',m'<m∧W (i+1) m' σ' H')∧∀x H',J.yld i H x H'→g x σ H' fun σ2 H2=>tb {D with nx:=N,ct:=N,bk:=D.nx} σ2 H2)
noncomputable def oM (fp:List UY)(h:Xi):List (UY×Obj):=fp.filterMap fun b=>(h.get? b).map fun o=>(b,o)
theorem iK {o:Obj}(hb:b∈fp)(e:h.get? b=some o):(b,o)∈oM fp h:=Y6.mpr ⟨b,hb,by rw[e];rfl⟩
theorem yT {p:UY×Obj}(hp:p∈oM fp h):p.1∈fp∧h.get? p.1=some p.2:=by
 obtain⟨b,hb,e⟩:=Y6.mp hp
 cases q:h.get? b with
 |none=>rw[q] at e;cases e
 |some o =>
  rw[q] at e
  have e':(b,o)=p:=U0 e
  subst e'
  exact⟨hb,q⟩
theorem aF.pinned (I:aF X pins σ H s)(hf:∀b∈fp,nU X pins H b)(ho:∀b∈fp,∃o,s.heap.get? b=some o∧∀v,o.data≠.cell v):aF X (pins++oM fp s.heap) σ H s :=
 I.pins_of fun p hp=>(U2.mp hp).elim (fun z=>I.pin p (U9 _ z)) fun z=>by
  obtain⟨hb,e⟩:=yT z
  obtain⟨f0,f1,f2,_⟩:=hf p.1 hb
  obtain⟨o,e',d⟩:=ho p.1 hb
  rw[e] at e';cases e'
  exact⟨e,f0,f1,f2,d⟩
theorem aF.unpinned {pl:List (UY×Obj)}(I:aF X (pins++pl) σ H s):aF X pins σ H s:=I.pins_of fun p hp=>I.pin p (U9 _ (V4 _ hp))
theorem G6 {g:TG}{tb:TS}(hp:PassesOwn (Vf X.prog X.w) X.A X.env X.xe)(hc:X.calm=true)(hi:PI X tg iter wi)(hg:PG X tg g)(hb:sv X body tb)(hs:∀x,Wh iter X.env x=pure x:=by intro _;rfl):PS X (.For tg iter body [] pos) (Mv wi g tb):=by
 intro pins s σ H D I h
 refine wpAny_For (e_ (hi pins s σ H _ I h) fun v s1 h1=>e_ h1 fun L4 s2 h2 => ?_) hs
 obtain⟨it,fp,tn,J,H2,e,I2,T,jI,f2,W,⟨m0,w0⟩,turn⟩:=h2
 subst e
 have IL:∀{H':Hp},(∀b∈fp,H' b=none)→∀b∈fp,nU X pins H' b:=fun hn b hb=>⟨hn b hb,(f2 b hb).2⟩
 refine codeAny_forLoop_any (fun n s'=>∃i σ' H',aF X pins σ' H' s'∧tn i s'.heap∧(∀b∈fp,H' b=none)∧W i n σ' H') ?_ m0 ⟨0,σ,H2,I2,jI,fun b hb=>(f2 b hb).1,w0⟩
 rintro n s3 ⟨i,σ3,H3,I3,Dd,fr3,w3⟩
 rcases turn i n σ3 H3 w3 with⟨stop,qn⟩|⟨go,N,hN,step⟩
 ·refine X4 hp (e_ (T.done X rfl rfl rfl hc i pins s3 σ3 H3 X.xe I3 (IL fr3) Dd stop) fun r s4 ⟨hr,I4⟩ => ?_)
  subst hr
  exact wpAny_execs_nil ⟨σ3,H3,I4,qn⟩
 ·refine X4 hp (e_ (T.item X rfl rfl rfl hc i pins s3 σ3 H3 X.xe I3 (IL fr3) Dd go) fun r s4 ⟨u,hr,h4⟩ => ?_)
  subst hr
  refine X4 hp (e_ h4 fun _ s5 ⟨x,H5,I5,r5,y5,st5,fr5⟩ => ?_)
  have Nu:=I5.pinned (IL fr5) (T.obj _ _ st5)
  refine X4 hp (e_ (hg _ s5 σ3 H5 x u _ Nu r5 (step x H5 y5)) fun _ s6 ⟨σ6,H6,I6,q6⟩ => ?_)
  refine X4 hp (e_ (hb _ s6 σ6 H6 _ I6 q6) fun f s7 q7 => ?_)
  have again:∀{σ7:St} {H7:Hp},aF X (pins++oM fp s5.heap) σ7 H7 s7→N σ7 H7→∃m,m<n∧∃i σ' H',aF X pins σ' H' s7∧tn i s7.heap∧(∀b∈fp,H' b=none)∧W i m σ' H':=fun {σ7 H7} I7 n7=>by
   obtain⟨m',hm,w7⟩:=hN σ7 H7 n7
   refine⟨m',hm,i+1,σ7,H7,I7.unpinned,T.keep _ _ _ st5 fun b hb o e=>(I7.pin (b,o) (U9 _ (U9 _ (iK hb e)))).1,fun b hb => ?_,w7⟩
   obtain⟨o,e,d⟩:=T.obj _ _ st5 b hb
   exact (I7.pin (b,o) (U9 _ (U9 _ (iK hb e)))).2.1
  cases f with
  |next=>obtain⟨σ7,H7,I7,n7⟩:=q7;exact again I7 n7
  |cont=>obtain⟨σ7,H7,I7,n7⟩:=q7;exact again I7 n7
  |brk=>obtain⟨σ7,H7,I7,q7⟩:=q7;exact⟨σ7,H7,I7.unpinned,q7⟩
  |ret v=>obtain⟨x7,σ7,H7,I7,r7,q7⟩:=q7;exact⟨x7,σ7,H7,I7.unpinned,r7,q7⟩
end L2
namespace L2
noncomputable abbrev R2:=V→V→Hp→VK→Prop
noncomputable def jK (X:Cx)(f:Uz→Uz→Sem Uz)(r:R2):Prop :=
 ∀(pins:List (UY×Obj)) (s:UQ) (σ:St) (H:Hp) (x y:V) (v u:Uz) (Q:VK),aF X pins σ H s→bN x v→bN y u→r x y H Q →
  U4 (Vf X.prog X.w) X.A (f v u) (EP X pins σ Q) X.xe s
noncomputable def Mw (X:Cx)(f:Uz→Sem Uz)(r:V→Hp→VK→Prop):Prop :=
 ∀(pins:List (UY×Obj)) (s:UQ) (σ:St) (H:Hp) (x:V) (v:Uz) (Q:VK),aF X pins σ H s→bN x v→r x H Q →
  U4 (Vf X.prog X.w) X.A (f v) (EP X pins σ Q) X.xe s
noncomputable def eM (X:Cx)(f:Uz)(r:List V→Hp→VK→Prop):Prop :=
 ∀(pins:List (UY×Obj)) (s:UQ) (σ:St) (H:Hp) (xs:List V) (us:List Uz) (Q:VK),aF X pins σ H s→aU xs us→r xs H Q →
  U4 (Vf X.prog X.w) X.A (call f us) (EP X pins σ Q) X.xe s
noncomputable def Mx (X:Cx)(r:V→Hp→(Bool→Hp→Prop)→Prop):Prop :=
 ∀(pins:List (UY×Obj)) (s:UQ) (σ:St) (H:Hp) (x:V) (v:Uz) (Q:Bool→Hp→Prop),aF X pins σ H s→bN x v→r x H Q →
  U4 (Vf X.prog X.w) X.A (truthy v) (TP X pins σ Q) X.xe s
noncomputable def JE (r:R2)(ta tb:TE):TE:=fun σ H Q=>ta σ H fun x H1=>tb σ H1 fun y H2=>r x y H2 Q
noncomputable def Q7 (r:V→Hp→VK→Prop)(ta:TE):TE:=fun σ H Q=>ta σ H fun x H1=>r x H1 Q
noncomputable def rI (C:Int→Int→Prop)(g:Int→Int→V):R2:=fun x y H Q=>∃i j,x=.int i∧y=.int j∧C i j∧Q (g i j) H
noncomputable def yU (g:Int→Int→V):R2:=fun x y H Q=>∃i j,x=.int i∧y=.int j∧Q (g i j) H
noncomputable def rU (g:Int→V):V→Hp→VK→Prop:=fun x H Q=>∃i,x=.int i∧Q (g i) H
section
variable {a b:WI}{ta tb tc:TE}
theorem G7 (ha:PE X a ta)(hb:PE X b tb){R:V→V→Hp→Prop}(I:aF X pins σ H s)(h:ta σ H fun x H1=>tb σ H1 fun y H2=>R x y H2){f:Uz→Uz→Sem Uz}(hf:∀v u s2 x y H2,aF X pins σ H2 s2→bN x v→bN y u→R x y H2→U4 (Vf X.prog X.w) X.A (f v u) Q X.xe s2) :
  U4 (Vf X.prog X.w) X.A (Yg a X.env) (fun v s₁=>U4 (Vf X.prog X.w) X.A (Yg b X.env) (fun u s₂=>U4 (Vf X.prog X.w) X.A (f v u) Q X.xe s₂) X.xe s₁) X.xe s:=by
 refine e_ (ha pins s σ H _ I h) fun v s1 ⟨x,H1,I1,r1,q1⟩ => ?_
 refine e_ (hb pins s1 σ H1 _ I1 q1) fun u s2 ⟨y,H2,I2,r2,q2⟩ => ?_
 exact hf v u s2 x y H2 I2 r1 r2 q2
theorem E_ {op:Operator}{r:R2}(ho:jK X (Xq op) r)(ha:PE X a ta)(hb:PE X b tb):PE X (.BinOp a op b pos) (JE r ta tb):=by
 intro pins s σ H Q I h
 exact wpAny_BinOp (G7 ha hb I h fun v u s2 x y H2 I2 rx ry q=>ho pins s2 σ H2 x y v u Q I2 rx ry q)
theorem JF {op:UnaryOp}{r:V→Hp→VK→Prop}(ho:Mw X (unaryOp op) r)(ha:PE X a ta):PE X (.UnaryOp op a pos) (Q7 r ta):=by
 intro pins s σ H Q I h
 exact UnaryOp_ (e_ (ha pins s σ H _ I h) fun v s1 ⟨x,H1,I1,r1,q1⟩=>ho pins s1 σ H1 x v Q I1 r1 q1)
theorem LH {f:Uz→Uz→Sem Uz}{C:Int→Int→Prop}{g:Int→Int→Int}
  (rule:∀(i j:Int) (t u:Tok) (s:UQ) (Q:Uz→UQ→Prop) (E:Uz→UQ→Prop),C i j→Q (.int (g i j) s.toks) {s with toks:=s.toks+1}→U4 (Vf X.prog X.w) X.A (f (.int i t) (.int j u)) Q E s) :
  jK X f (rI C fun i j=>.int (g i j)):=by
 intro pins s σ H x y v u Q I rx ry h
 obtain⟨i,j,rfl,rfl,hc,q⟩:=h
 obtain⟨t,rfl⟩:=rx
 obtain⟨t',rfl⟩:=ry
 exact rule i j t t' s _ _ hc ⟨.int (g i j),H,I.tok _,⟨_,rfl⟩,q⟩
theorem JG {f:Uz→Uz→Sem Uz}{g:Int→Int→Int}
  (rule:∀(i j:Int) (t u:Tok) (s:UQ) (Q:Uz→UQ→Prop) (E:Uz→UQ→Prop),Q (.int (g i j) s.toks) {s with toks:=s.toks+1}→U4 (Vf X.prog X.w) X.A (f (.int i t) (.int j u)) Q E s) :
  jK X f (yU fun i j=>.int (g i j)):=by
 intro pins s σ H x y v u Q I rx ry h
 obtain⟨i,j,rfl,rfl,q⟩:=h
 obtain⟨t,rfl⟩:=rx
 obtain⟨t',rfl⟩:=ry
 exact rule i j t t' s _ _ ⟨.int (g i j),H,I.tok _,⟨_,rfl⟩,q⟩
theorem G8 {f:Uz→Uz→Sem Uz}{g:Int→Int→Bool}
  (rule:∀(i j:Int) (t u:Tok) (s:UQ) (Q:Uz→UQ→Prop) (E:Uz→UQ→Prop),Q (.bool (g i j)) s→U4 (Vf X.prog X.w) X.A (f (.int i t) (.int j u)) Q E s) :
  jK X f (yU fun i j=>.bl (g i j)):=by
 intro pins s σ H x y v u Q I rx ry h
 obtain⟨i,j,rfl,rfl,q⟩:=h
 obtain⟨t,rfl⟩:=rx
 obtain⟨t',rfl⟩:=ry
 exact rule i j t t' s _ _ ⟨.bl (g i j),H,I,rfl,q⟩
noncomputable def JH (i j:Int):Prop:=0≤j∧j≤1000000∧i.natAbs<2 ^ 64
noncomputable def Dt (i j:Int):Prop:=(-(2 ^ 64)<i∧i<2 ^ 64)∨(-(2 ^ 64)<j∧j<2 ^ 64)
theorem Dt.ok {i j:Int}(h:Dt i j):IntMulOk i j:=by
 rcases h with⟨h1,h2⟩|⟨h1,h2⟩
 ·exact .of_left (intBits_le_64 h1 h2)
 ·exact .of_right (intBits_le_64 h1 h2)
theorem G9:jK X (Xq .Add) (yU fun i j=>.int (i+j)):=JG fun _ _ _ _ _ _ _ q=>add_int q
theorem j1:jK X (Xq .Sub) (yU fun i j=>.int (i - j)):=JG fun _ _ _ _ _ _ _ q=>sub_int q
theorem ja:jK X (Xq .Mult) (rI Dt fun i j=>.int (i*j)):=LH fun _ _ _ _ _ _ _ hc q=>mul_int q hc.ok
theorem lU:jK X (Xq .Mod) (rI (fun _ j=>0<j) fun i j=>.int (i % j)):=LH fun i j _ _ _ _ _ hc q=>by
 have h1:(0:Int)<j:=hc
 exact mod_int' (by lia) (by rw[Int.fmod_eq_emod_of_nonneg i (by lia)];exact q)
theorem Af:jK X (Xq .Pow) (rI JH fun i j=>.int (i ^ j.toNat)):=LH fun _ _ _ _ _ _ _ hc q=>pow_int_small hc.1 hc.2.1 hc.2.2 q
theorem Q8 {f:Uz→Sem Uz}{g:Int→Int}
  (rule:∀(i:Int) (t:Tok) (s:UQ) (Q:Uz→UQ→Prop) (E:Uz→UQ→Prop),Q (.int (g i) s.toks) {s with toks:=s.toks+1}→U4 (Vf X.prog X.w) X.A (f (.int i t)) Q E s) :
  Mw X f (rU fun i=>.int (g i)):=by
 intro pins s σ H x v Q I rx h
 obtain⟨i,rfl,q⟩:=h
 obtain⟨t,rfl⟩:=rx
 exact rule i t s _ _ ⟨.int (g i),H,I.tok _,⟨_,rfl⟩,q⟩
theorem G_:Mw X (unaryOp .USub) (rU fun i=>.int (-i)):=Q8 fun _ _ _ _ _ q=>neg_int q
end
noncomputable def My:V→V→Bool
 | .non,.non=>true|.non,.int _=>true|.int _,.non=>true|.non,.bl _=>true|.bl _,.non=>true|.non,.str _=>true|.str _,.non=>true
 | .int _,.int _=>true|.bl _,.bl _=>true|.str _,.str _=>true|.byt _,.byt _=>true
 | .int _,.str _=>true|.str _,.int _=>true|.bl _,.str _=>true|.str _,.bl _=>true
 |_,_=>false
noncomputable def P7:R2:=fun x y H Q=>My x y=true∧Q (.bl (decide (x=y))) H
theorem xh {i j:Int}:decide (V.int i=V.int j)=(i==j):=by
 rw[Xe]
 simp
theorem Ag {i j:Bool}:decide (V.bl i=V.bl j)=(i==j):=by
 rw[Xe]
 simp
theorem xi {i j:Str}:decide (V.str i=V.str j)=(i==j):=by
 rw[Xe]
 simp
theorem Du {i j:Array UInt8}:decide (V.byt i=V.byt j)=(i.toList==j.toList):=by
 rw[Xe]
 cases i
 cases j
 simp
section
variable {a b:WI}{ta tb tc:TE}
theorem eG {Q:VK}{k k':Bool}(I:aF X pins σ H s)(q:Q (.bl k) H)(e:k=k'):EP X pins σ Q (.bool k') s:=by
 subst e
 exact⟨.bl k,H,I,rfl,q⟩
theorem d_:jK X (WV .Eq) P7:=by
 intro pins s σ H x y v u Q I rx ry h
 obtain⟨hs,q⟩:=h
 cases x with
 |non =>
  cases rx
  cases y with
  |non=>cases ry;exact PySem.EqNone.eq_none_none (eG I q (by simp))
  |bl j=>cases ry;exact PySem.EqNone.eq_none_bool (eG I q (by simp))
  |int j=>obtain⟨t',rfl⟩:=ry;exact PySem.EqNone.eq_none_int (eG I q (by simp))
  |str j=>obtain⟨t',rfl⟩:=ry;exact PySem.EqNone.eq_none_str (eG I q (by simp))
  |_=>exact absurd (show false=true from hs) UG
 |bl i =>
  cases rx
  cases y with
  |non=>cases ry;exact PySem.EqNone.eq_bool_none (eG I q (by simp))
  |bl j=>cases ry;exact eq_bool (eG I q Ag)
  |str j=>obtain⟨t',rfl⟩:=ry;exact PySem.EqMixed.eq_bool_str (eG I q (by simp))
  |_=>exact absurd (show false=true from hs) UG
 |int i =>
  obtain⟨t,rfl⟩:=rx
  cases y with
  |non=>cases ry;exact PySem.EqNone.eq_int_none (eG I q (by simp))
  |int j=>obtain⟨t',rfl⟩:=ry;exact eq_int (eG I q xh)
  |str j=>obtain⟨t',rfl⟩:=ry;exact PySem.EqMixed.eq_int_str (eG I q (by simp))
  |_=>exact absurd (show false=true from hs) UG
 |str i =>
  obtain⟨t,rfl⟩:=rx
  cases y with
  |non=>cases ry;exact PySem.EqNone.eq_str_none (eG I q (by simp))
  |bl j=>cases ry;exact PySem.EqMixed.eq_str_bool (eG I q (by simp))
  |int j=>obtain⟨t',rfl⟩:=ry;exact PySem.EqMixed.eq_str_int (eG I q (by simp))
  |str j=>obtain⟨t',rfl⟩:=ry;exact eq_str (eG I q xi)
  |_=>exact absurd (show false=true from hs) UG
 |byt i =>
  obtain⟨t,rfl⟩:=rx
  cases y with
  |byt j=>obtain⟨t',rfl⟩:=ry;exact PySem.W.eq_bytes (eG I q Du)
  |_=>exact absurd (show false=true from hs) UG
 |_=>cases y<;>exact absurd (show false=true from hs) UG
theorem oN:jK X (WV .Lt) (yU fun i j=>.bl (decide (i<j))):=G8 fun _ _ _ _ _ _ _ q=>lt_int q
theorem Fb:jK X (WV .Gt) (yU fun i j=>.bl (decide (j<i))):=G8 fun _ _ _ _ _ _ _ q=>gt_int q
theorem JI:jK X (WV .GtE) (yU fun i j=>.bl (decide (j≤i))):=G8 fun _ _ _ _ _ _ _ q=>ge_int q
theorem jK.or {f:Uz→Uz→Sem Uz}{r r':R2}(h:jK X f r)(h':jK X f r'):jK X f (fun x y H Q=>r x y H Q∨r' x y H Q):=by
 intro pins s σ H x y v u Q I rx ry q
 rcases q with q|q
 ·exact h pins s σ H x y v u Q I rx ry q
 ·exact h' pins s σ H x y v u Q I rx ry q
theorem aV (b:WI)(h:op≠.In:=by decide)(h2:op≠.NotIn:=by decide):Xy op b=false:=by
 have e1:(op==CmpOp.In)=false:=by cases op<;>first|rfl|exact absurd rfl h
 have e2:(op==CmpOp.NotIn)=false:=by cases op<;>first|rfl|exact absurd rfl h2
 cases b<;>simp[Xy,e1,e2]
theorem Dv {r:R2}(ho:jK X (WV op) r)(ha:PE X a ta)(hb:PE X b tb)(hm:Xy op b=false):PE X (.Compare a [op] [b] pos) (JE r ta tb):=by
 intro pins s σ H Q I h
 exact wpAny_Compare1 (G7 ha hb I h fun v u s2 x y H2 I2 rx ry q=>ho pins s2 σ H2 x y v u Q I2 rx ry q) hm
noncomputable def JJ (t:TE):TT:=fun σ H Q=>t σ H fun x H'=>∃k,x=.bl k∧Q k H'
theorem Dx {r:R2}(ho:jK X (WV op) r)(ha:PE X a ta)(hb:PE X b tb)(hm:Xy op b=false):PT X (.Compare a [op] [b] pos) (JJ (JE r ta tb)):=by
 intro pins s σ H Q I h
 refine wpAny_isTrue_Compare1 (e_ (ha pins s σ H _ I h) fun v s1 ⟨x,H1,I1,r1,q1⟩=>e_ (hb pins s1 σ H1 _ I1 q1) fun u s2 ⟨y,H2,I2,r2,q2⟩ =>
  e_ (ho pins s2 σ H2 x y v u _ I2 r1 r2 q2) fun c s3 ⟨z,H3,I3,r3,k,e,q3⟩ => ?_) hm
 subst e
 cases r3
 exact Xd ⟨H3,I3,q3⟩
noncomputable def Mz (K:UB)(x:V)(H:Hp)(k:Bool):Prop :=
 match x with
 | .non=>k=false
 | .bl b=>k=b
 | .int i=>k=(i != 0)
 | .str y=>y.length≤UA∧k=((y.length:Int) != 0)
 | .byt y=>y.size≤UA∧k=((y.size:Int) != 0)
 | .ref p=>(∃xs,fq K H p xs∧k = !xs.isEmpty)∨(∃xs,gT K H p xs∧k = !xs.isEmpty)∨∃gg,H p=some (.dK gg)∧k = !gg.isEmpty
 |_=>False
theorem vX {κ:Type}{gg:List (κ×V)}{vs:List (κ×Uz)}(r:KV gg vs):(!vs.isEmpty) = !gg.isEmpty:=by
 cases r<;>rfl
theorem oO (r:aU xs ar):(!ar.toArray.isEmpty) = !xs.isEmpty:=by
 cases r<;>simp
theorem lV:(UA:Nat)<2 ^ 63:=by rw[W7];decide
theorem MA:Mx X (fun x H Q=>∃k,Mz X.K x H k∧Q k H):=by
 intro pins s σ H x v Q I rx h
 obtain⟨k,e,q⟩:=h
 have hl:=lV
 have hs:UA=16777216:=W7
 cases x with
 |non =>
  cases rx
  have e':k=false:=e
  subst e'
  exact truthy_none ⟨H,I,q⟩
 |bl b =>
  cases rx
  have e':k=b:=e
  subst e'
  exact Xd ⟨H,I,q⟩
 |int i =>
  obtain⟨t,rfl⟩:=rx
  have e':k=(i != 0):=e
  subst e'
  exact PySem.P.truthy_int ⟨H,I,q⟩
 |str y =>
  obtain⟨t,rfl⟩:=rx
  obtain⟨hy,e'⟩:y.length≤UA∧k=((y.length:Int) != 0):=e
  subst e'
  exact PySem.P.truthy_str (by lia) ⟨H,I.tok _,q⟩
 |byt y =>
  obtain⟨t,rfl⟩:=rx
  obtain⟨hy,e'⟩:y.size≤UA∧k=((y.size:Int) != 0):=e
  subst e'
  exact PySem.W.truthy_bytes (by lia) ⟨H,I.tok _,q⟩
 |ref p =>
  cases rx
  have e':(∃xs,fq X.K H p xs∧k = !xs.isEmpty)∨(∃xs,gT X.K H p xs∧k = !xs.isEmpty)∨∃gg,H p=some (.dK gg)∧k = !gg.isEmpty:=e
  rcases e' with⟨xs,hx,e'⟩|⟨xs,hx,e'⟩|⟨gg,hx,e'⟩
  ·subst e'
   obtain⟨ar,r,pl,hz⟩:=I.list hx
   have cY:=r.length
   exact wpAny_truthy_list pl.isList (by simp only[UC];lia) ⟨H,I.tok _,by rw[oO r];exact q⟩
  ·subst e'
   obtain⟨ar,r,pl,hz⟩:=I.tuple hx
   have cY:=r.length
   exact truthy_tuple pl (by simp only[UC];lia) ⟨H,I.tok _,by rw[oO r];exact q⟩
  ·subst e'
   obtain⟨hz,hS,vs,r,m⟩:gg.length≤UA∧(p==sysModules)=false∧∃vs,KV gg vs∧s.heap.DictOf (sf X.prog X.w) p vs:=I.hok p _ hx
   have cY:gg.length=vs.length:=Paired.length r
   exact wpAny_truthy_dict hS m (by lia) ⟨H,I.tok _,by rw[vX r];exact q⟩
 |_=>exact (show False from e).elim
theorem iA {x:V}{us:List Uz}(r:aU [x] us):∃u,us=[u]∧bN x u:=by
 cases r with
 |cons r1 r2=>cases r2;exact⟨_,rfl,r1⟩
theorem uh {x y:V}{us:List Uz}(r:aU [x,y] us):∃u w',us=[u,w']∧bN x u∧bN y w':=by
 cases r with
 |cons r1 r2 =>
  cases r2 with
  |cons r3 r4=>cases r4;exact⟨_,_,rfl,r1,r3⟩
theorem yV (hc:X.calm=true):eM X (.builtin "max") (fun xs H Q=>∃i j,xs=[.int i,.int j]∧Q (.int (if j>i then j else i)) H):=by
 intro pins s σ H xs us Q I r h
 obtain⟨i,j,rfl,q⟩:=h
 obtain⟨u,w',rfl,⟨t,rfl⟩,⟨t',rfl⟩⟩:=uh r
 refine max_two_ints (I.ok.hd hc) fun h' tk k=>⟨_,H,I.kept k,?_,q⟩
 by_cases hj:j>i
 ·rw[if_pos hj,if_pos hj];exact⟨_,rfl⟩
 ·rw[if_neg hj,if_neg hj];exact⟨_,rfl⟩
theorem qQ (hc:X.calm=true):eM X (.builtin "min") (fun xs H Q=>∃i j,xs=[.int i,.int j]∧Q (.int (if j<i then j else i)) H):=by
 intro pins s σ H xs us Q I r h
 obtain⟨i,j,rfl,q⟩:=h
 obtain⟨u,w',rfl,⟨t,rfl⟩,⟨t',rfl⟩⟩:=uh r
 refine min_two_ints (I.ok.hd hc) fun h' tk k=>⟨_,H,I.kept k,?_,q⟩
 by_cases hj:j<i
 ·rw[if_pos hj,if_pos hj];exact⟨_,rfl⟩
 ·rw[if_neg hj,if_neg hj];exact⟨_,rfl⟩
theorem qR:eM X (.type "int") (fun xs H Q=>(∃i,xs=[.int i]∧Q (.int i) H)∨∃k,xs=[.bl k]∧Q (.int (if k then 1 else 0)) H):=by
 intro pins s σ H xs us Q I r h
 rcases h with⟨i,rfl,q⟩|⟨k,rfl,q⟩
 ·obtain⟨u,rfl,t,rfl⟩:=iA r
  exact call_int_int ⟨.int i,H,I,⟨_,rfl⟩,q⟩
 ·obtain⟨u,rfl,r1⟩:=iA r
  cases r1
  exact call_int_bool ⟨.int (if k then 1 else 0),H,I.tok _,⟨_,rfl⟩,q⟩
noncomputable def JK (K:UB)(x:V)(H:Hp)(n:Nat):Prop :=
 match x with
 | .str y=>y.length≤UA∧n=y.length
 | .byt y=>y.size≤UA∧n=y.size
 | .ref p=>(∃xs,fq K H p xs∧n=xs.length)∨∃xs,gT K H p xs∧n=xs.length
 |_=>False
theorem dz:eM X (.builtin "len") (fun xs H Q=>∃x n,xs=[x]∧JK X.K x H n∧Q (.int n) H):=by
 intro pins s σ H xs us Q I r h
 obtain⟨x,n,rfl,e,q⟩:=h
 obtain⟨u,rfl,rx⟩:=iA r
 have hl:=lV
 have hs:UA=16777216:=W7
 cases x with
 |str y =>
  obtain⟨t,rfl⟩:=rx
  obtain⟨hy,e'⟩:y.length≤UA∧n=y.length:=e
  subst e'
  exact len_str (by lia) ⟨.int _,H,I.tok _,⟨_,rfl⟩,q⟩
 |byt y =>
  obtain⟨t,rfl⟩:=rx
  obtain⟨hy,e'⟩:y.size≤UA∧n=y.size:=e
  subst e'
  exact PySem.W.len_bytes (by lia) ⟨.int _,H,I.tok _,⟨_,rfl⟩,q⟩
 |ref p =>
  cases rx
  have e':(∃xs,fq X.K H p xs∧n=xs.length)∨∃xs,gT X.K H p xs∧n=xs.length:=e
  rcases e' with⟨xs,hx,e'⟩|⟨xs,hx,e'⟩
  ·subst e'
   obtain⟨ar,r',pl,hz⟩:=I.list hx
   have cY:=r'.length
   exact Calls.call_len_list pl.isList (by simp only[UC];lia) ⟨.int xs.length,H,I.tok _,⟨_,by simp only[UC];rw[cY]⟩,q⟩
  ·subst e'
   obtain⟨ar,r',pl,hz⟩:=I.tuple hx
   have cY:=r'.length
   exact len_tuple pl (by simp only[UC];lia) ⟨.int xs.length,H,I.tok _,⟨_,by simp only[UC];rw[cY]⟩,q⟩
 |_=>exact (show False from e).elim
end
end L2
variable {r:L2.R2}
namespace L2
structure Ha (h:Xi)(x dx C:UY)(mA:Str→Option Uz):Prop where
 obj:h.get? x=some (PySem.W.instObj C dx)
 ns:h.Ns1 dx mA
 ne:dx≠x
theorem yW {dx:UY}{mA:Str→Option Uz}(n:h.Ns1 dx mA):∃od,h.get? dx=some od∧∀name,PySem.W.lookIn name od=some (mA name):=by
 obtain⟨o,es,ep,ho,hd,hk,_,hm⟩:=n
 refine⟨o,ho,fun name => ?_⟩
 have e:=hm name
 unfold nsFind findBy at e
 rw[←Array.find?_toList] at e
 unfold PySem.W.lookIn
 rw[hd]
 dsimp only
 split
 ·rename_i y q
  rw[q] at e
  exact congrArg some e
 ·rename_i q
  rw[q] at e
  have a:es.toList.any (·.refKey)=false:=by
   rw[Zk]
   intro y hy
   obtain⟨z,t,E7⟩:=hk y (Array.mem_toList_iff.mp hy)
   simp[DictEntry.refKey,E7]
  have a':¬es.toList.any (·.refKey)=true:=by rw[a];exact UG
  rw[if_neg a']
  exact congrArg some e
theorem Ha.look {x dx C:UY}{mA:Str→Option Uz}(I:Ha h x dx C mA):∃od,PySem.W.InstAt h x (PySem.W.instObj C dx) C (some od)∧∀name,PySem.W.lookIn name od=some (mA name) :=
 let ⟨od,ho,hl⟩:=yW I.ns
 ⟨od,⟨I.obj,rfl,rfl,ho⟩,hl⟩
section
variable {C dx:UY}{fs fs':List (Str×V)}
theorem Dy (hok:lT P w H h)(e:H a=some (.ins C dx fs)):∃mA,Ha h a dx C mA∧(∀f,GP (fs.lookup f) (mA f))∧PySem.Within mA (fs.map (·.1))∧fs.length≤1000∧H dx=some (.own a):=by
 obtain⟨d,z,ne,ob,mA,n,r,q⟩:=(show cU P w H h a (.ins C dx fs) from hok a _ e)
 exact⟨mA,⟨ob,n,ne⟩,r,q,z,d⟩
end
structure MB (K:UB)(C:UY):Prop where
 pg:PySem.W.plainGet K C Str.empty=true
 hd:PySem.W.hasDictIn K C=true
 po:PySem.W.plainOver K C=true
 sa:Ys K (.ref C) "__setattr__"=some (some (.builtin "object.__setattr__"))
theorem MB.get {C:UY}(c:MB K C)(f:Str):PySem.W.plainGet K C f=true:=c.pg
structure Ug (K:UB)(C:UY)(f:Str)(v:V)(u:Uz):Prop where
 at_:Ys K (.ref C) f=some (some u)
 rel:bN v u
 get:PySem.W.specialIn K u "__get__"=some none
 cp:PySem.W.copiedNames.contains f=false
structure Q9 (K:UB)(C:UY)(m:Str)(f:UY):Prop where
 at_:Ys K (.ref C) m=some (some (.ref f))
 fn:PySem.W.isFn K (.ref f)=true
 kp:Vd K (.ref f)=true
section
variable {A:VE}{c:Uz}{b:Bool}
inductive lW (K:UB)(H:Hp):V→Uz→Prop where
 |non:lW K H .non (.type "NoneType")
 |bl (x:Bool):lW K H (.bl x) (.type "bool")
 |int (i:Int):lW K H (.int i) (.type "int")
 |str (x:Str):lW K H (.str x) (.type "str")
 |flt (x:UInt64):lW K H (.flt x) (.type "float")
 |lst {a:UY} {xs:List V} (e:H a=some (.lst xs)):lW K H (.ref a) (.type "list")
 |frz {a:UY} {o:Obj} {xs:List V} (e:H a=some (.frz o (.lst xs))):lW K H (.ref a) (.type "list")
 |tup {a:UY} {xs:List V} (e:H a=some (.tup xs)):lW K H (.ref a) (.type "tuple")
 |dK {a:UY} {gg:List (qy×V)} (e:H a=some (.dK gg)):lW K H (.ref a) (.type "dict")
 |dT {a:UY} {gg:List (List qy×V)} (e:H a=some (.dT gg)):lW K H (.ref a) (.type "dict")
 |ins {a C dx:UY} {fs:List (Str×V)} (e:H a=some (.ins C dx fs)) (cl:MB K C) (ha:Ys K (.ref C) "__class__"=some (some (.builtin "object.__class__")))
   (hn:PySem.W.specialIn K (.builtin "object.__class__") "__get__"=some (some (.builtin "getset_descriptor.__get__"))) (htk:PySem.W.takesIn K (.builtin "object.__class__")=some true)
   (hm:PySem.W.mroIn K C (.type "object")=some true):lW K H (.ref a) (.ref C)
theorem yX {x:V}{u t:Uz}(I:aF X pins σ H s)(rx:bN x u)(ty:lW X.K H x t)(e:PySem.W.kitOne X.K t c=some b)(h:∀tk,Q (.bool b) {s with toks:=tk}) :
  U4 (Vf X.prog X.w) A (call (.builtin "isinstance") [u,c]) Q E s:=by
 cases ty with
 |non=>cases (show u=Value.none from rx);exact V8 PySem.W.kitx_none I.kIn True.intro e (fun z=>nomatch z) h
 |bl y=>cases (show u=Value.bool y from rx);exact V8 PySem.W.kitx_bool I.kIn True.intro e (fun z=>nomatch z) h
 |int i=>obtain⟨t,q⟩:=(show ∃t,u=Value.int i t from rx);cases q;exact V8 PySem.W.kitx_int I.kIn True.intro e (fun z=>nomatch z) h
 |str y=>obtain⟨t,q⟩:=(show ∃t,u=Value.str y t from rx);cases q;exact V8 PySem.W.kitx_str I.kIn True.intro e (fun z=>nomatch z) h
 |flt y=>obtain⟨t,q⟩:=(show ∃t,u=Value.float y t from rx);cases q;exact V8 PySem.W.kitx_float I.kIn True.intro e (fun z=>nomatch z) h
 | @lst a xs ea =>
  cases (show u=Value.ref a from rx)
  obtain⟨_,_,n,_,h1⟩:=(show cU X.prog X.w H s.heap a (.lst xs) from I.hok a _ ea)
  exact V8 Yj I.kIn ⟨_,h1,rfl⟩ e (fun z=>nomatch z) h
 | @frz a ob xs ea =>
  cases (show u=Value.ref a from rx)
  obtain⟨_,_,_,n,_,h1⟩:=(show cU X.prog X.w H s.heap a (.frz ob (.lst xs)) from I.hok a _ ea)
  exact V8 Yj I.kIn ⟨_,h1,rfl⟩ e (fun z=>nomatch z) h
 | @tup a xs ea =>
  cases (show u=Value.ref a from rx)
  obtain⟨_,_,_,p,_⟩:=(show cU X.prog X.w H s.heap a (.tup xs) from I.hok a _ ea)
  obtain⟨o,h1,h2,_⟩:=p
  exact V8 PySem.W.kitx_tuple I.kIn ⟨o,h1,h2⟩ e (fun z=>nomatch z) h
 | @dK a gg ea =>
  cases (show u=Value.ref a from rx)
  obtain⟨_,_,vs,_,p⟩:=(show cU X.prog X.w H s.heap a (.dK gg) from I.hok a _ ea)
  obtain⟨o,es,ep,h1,h2,_⟩:=p
  exact V8 Yk I.kIn ⟨o,h1,h2.1⟩ e (fun z=>nomatch z) h
 | @dT a gg ea =>
  cases (show u=Value.ref a from rx)
  obtain⟨_,_,xs,_,o,es,ep,h1,h2,_⟩:=(show cU X.prog X.w H s.heap a (.dT gg) from I.hok a _ ea)
  exact V8 Yk I.kIn ⟨o,h1,h2.1⟩ e (fun z=>nomatch z) h
 | @ins a C dx fs ea cl ha hn htk hm =>
  cases (show u=Value.ref a from rx)
  obtain⟨mA,O,_⟩:=Dy I.hok ea
  obtain⟨od,J,_⟩:=O.look
  exact V8 (PySem.W.kitx_own (cl.get _) cl.hd ha hn htk hm) I.kIn J e (fun z=>nomatch z) h
end
end L2
namespace L2
structure fv (k:Nat)(A:VE):Prop where
 hd:A.handled=none
 dp:A.depth+3*k+5<recursionLimit
 un:A.units+16*k+200<Xu
theorem fv.mono {A:VE}(r:fv k A)(h:j≤k):fv j A:=⟨r.hd,by have:=r.dp;lia,by have:=r.un;lia⟩
theorem fv.deeper {A:VE}(r:fv (k+1) A)(env:Env):fv k (A.deeper env) :=
 ⟨r.hd,by have:=r.dp;show A.depth+1+3*k+5<_;lia,by have:=r.un;show A.units+3+16*k+200<_;lia⟩
theorem fv.depth {A:VE}(r:fv k A):A.depth<recursionLimit:=by have:=r.dp;lia
theorem fv.units {A:VE}(r:fv k A):A.units+64<Xu:=by have:=r.un;lia
noncomputable def MC:TA:=fun _ H Q=>Q [] H
noncomputable def JL (ta:TE)(tr:TA):TA:=fun σ H Q=>ta σ H fun x H1=>tr σ H1 fun xs H2=>Q (x::xs) H2
section
variable {e:WI}{es:List WI}{t:TA}
theorem j2:PA X [] MC:=fun _ _ _ _ H Q I h=>Calls.spliced_nil ⟨[],H,I,.nil,h⟩
theorem fg (ha:PE X e te)(hr:PA X es t)(hs:UX (e::es) X.env=(false,Yg e X.env)::UX es X.env:=by rfl):PA X (e::es) (JL te t):=by
 intro pos pins s σ H Q I h
 rw[hs]
 show U4 _ _ (spliced ((false,Yg e X.env)::XF pos (UX es X.env))) _ _ s
 refine Calls.spliced_cons (e_ (ha pins s σ H _ I h) fun u s1 ⟨x,H1,I1,r1,q1⟩ => ?_)
 exact e_ (hr pos pins s1 σ H1 _ I1 q1) fun us s2 ⟨xs,H2,I2,r2,q2⟩=>⟨x::xs,H2,I2,.cons r1 r2,q2⟩
noncomputable def MD (t:TA):TE:=fun σ H Q=>t σ H fun xs H1=>xs.length≤UA∧∀p,H1 p=none→Q (.ref p) (eB H1 p (.tup xs))
noncomputable def ME (t:TA):TE:=fun σ H Q=>t σ H fun xs H1=>xs.length≤UA∧∀p,H1 p=none→Q (.ref p) (eB H1 p (.lst xs))
theorem Ah {x1}(h:PA X es t):PE X (.Tuple es x1 pos) (MD t):=by
 intro pins s σ H Q I hq
 refine wpAny_Tuple_spliced (e_ (h pos pins s σ H _ I hq) fun us s1 ⟨xs,H1,I1,r,z,q⟩=>⟨by rw[←r.length];exact z,?_⟩)
 have hf:H1 s1.heap.objs.size=none:=I1.hok.fresh (UK _)
 refine⟨.ref s1.heap.objs.size,eB H1 s1.heap.objs.size (.tup xs),I1.laid (t':=s1.toks) (fun b u e=>Uy _ e) (UK _) ?_,rfl,q _ hf⟩
 exact⟨z,us,r,⟨_,UN _ rfl,rfl,_,rfl⟩,_,UN _ rfl⟩
theorem Hb (h:PA X es t):PE X (.List es pos) (ME t):=by
 intro pins s σ H Q I hq
 refine wpAny_List_spliced (e_ (h pos pins s σ H _ I hq) fun us s1 ⟨xs,H1,I1,r,z,q⟩=>⟨by rw[←r.length];exact z,?_⟩)
 have hf:H1 s1.heap.objs.size=none:=I1.hok.fresh (UK _)
 refine⟨.ref s1.heap.objs.size,eB H1 s1.heap.objs.size (.lst xs),I1.laid (t':=s1.toks) (fun b u e=>Uy _ e) (UK _) ?_,rfl,q _ hf⟩
 exact⟨z,us,0,r,UN _ rfl⟩
end
noncomputable abbrev Sp:=List V→Hp→VK→XK→Prop
noncomputable abbrev CXT:=List Env→Hp→UQ→XK→Uz→UQ→Prop
structure Dz (P:XI)(w:Xx)(K:UB)(mg:Str→Option Uz)(base:Xi)(A:VE)(outer:List Env)(s:UQ)(H:Hp):Prop where
 frames:A.frames=some outer
 mod:Mod K mg base
 bs:∀b o,base.get? b=some o→s.heap.get? b=some o∧H b=none
 bsz:base.objs.size≤s.heap.objs.size
 funs:s.heap.FunFrames base outer
 frf:∀b∈xg outer,H b=none
 hok:lT P w H s.heap
 bare:AllBare s.gens
noncomputable def CE (outer:List Env)(P:XI)(w:Xx)(H:Hp)(s:UQ)(Q:VK)(u:Uz)(s':UQ):Prop :=
 ∃v H',s'.os=s.os∧AllBare s'.gens∧Un (xg outer) [] H H' s.heap s'.heap∧lT P w H' s'.heap∧bN v u∧Q v H'
noncomputable def CR (CX:CXT)(outer:List Env)(P:XI)(w:Xx)(H:Hp)(s:UQ)(Q:VK)(E:XK)(r:Result)(s':UQ):Prop :=
 match r with
 | .ok (.ret u)=>CE outer P w H s Q u s'
 | .ok _=>False
 | .error e=>CX outer H s E e s'
structure jL (P:XI)(w:Xx)(K:UB)(mg:Str→Option Uz)(base:Xi)(CX:CXT)(k:Nat)(f:UY)(fd:YJ)(ps:List Str)(sp:Sp):Prop where
 len:∀vs H Q E,sp vs H Q E→vs.length=ps.length
 run:∀(A:VE) (outer:List Env) (s:UQ) (H:Hp) (args:Args) (us:List Uz) (vs:List V) (Q:VK) (E:XK),fv k A→Dz P w K mg base A outer s H→BindsTo s fd args (ps.zip us)→aU vs us→sp vs H Q E →
  codeAny (Vf P w) A (.call (.ref f) args) (CR CX outer P w H s Q E) s
theorem jL.imp {base:Xi}{CX:CXT}{sp Qt:Sp}(F:jL P w K mg base CX k f fd ps sp)(h:∀vs H Q E,Qt vs H Q E→sp vs H Q E):jL P w K mg base CX k f fd ps Qt :=
 ⟨fun vs H Q E q=>F.len vs H Q E (h _ _ _ _ q),fun A outer s H args us vs Q E hr he hb hv hs=>F.run A outer s H args us vs Q E hr he hb hv (h _ _ _ _ hs)⟩
section
variable {s':UQ}
theorem aF.env0 (I:aF X pins σ H s):Dz X.prog X.w X.K X.mg X.base X.A X.stack s H :=
 ⟨I.ok.frames,I.ok.mod,I.bs,VC I.ok.bsz I.sz,I.stack,I.stkFree,I.hok,I.bare⟩
theorem aF.after {Q:VK}{u:Uz}(I:aF X pins σ H s)(h:CE X.stack X.prog X.w H s Q u s'):EP X pins σ Q u s':=by
 obtain⟨v,H',os,bare,un,hok,r,q⟩:=h
 obtain⟨hh,g,d,t,os'⟩:=s'
 obtain rfl:os'=s.os:=os
 exact⟨v,H',I.call (h':=hh) (g':=g) (d':=d) (t':=t) (ch:=[]) un hok bare (fun b z=>absurd z (by simp)),r,q⟩
end
noncomputable def Fc (sp:Sp)(Gx:List V)(E:XK)(t:TA):TE:=fun σ H Q=>t σ H fun vs H1=>sp (vs++Gx) H1 Q E
noncomputable def qS (K:UB)(fd:YJ)(ps:List Str)(ds:List Uz):Prop :=
 ∀(s:UQ) (us:List Uz),K.In s.heap→(us++ds).length=ps.length→BindsTo s fd ⟨us,[]⟩ (ps.zip (us++ds))
theorem qS.all (h:∀us:List Uz,us.length=ps.length→Wm fd ⟨us,[]⟩=pure (ps.zip us)):qS K fd ps []:=fun s us _ hl=>by
 rw[Vw] at hl ⊢
 exact .of_eq (h us hl)
noncomputable def vY (CX:CXT)(X:Cx)(E:XK):Prop:=∀(pins:List (UY×Obj)) (σ:St) (H:Hp) (s:UQ) (e:Uz) (s':UQ),aF X pins σ H s→CX X.stack H s E e s'→X.xe e s'
section
variable {CX:CXT}{C:UY}{sp:Sp}{Gx:List V}{ds:List Uz}{E:XK}{m:Str}{p vM:Pos}{e o:WI}{es:List WI}{ta:TE}{t:TA}
theorem Hd {Q:VK}{us:List Uz}(F:jL X.prog X.w X.K X.mg X.base CX k f fd ps sp)(hr:fv k X.A)(hb:qS X.K fd ps ds)(hd:aU Gx ds)(hx:vY CX X E)(I:aF X pins σ H s)(r:aU vs us)(h:sp (vs++Gx) H Q E):U4 (Vf X.prog X.w) X.A (call (.ref f) us) (EP X pins σ Q) X.xe s:=by
 have r2:aU (vs++Gx) (us++ds):=r.append hd
 have hl:(us++ds).length=ps.length:=by rw[←r2.length];exact F.len _ _ _ _ h
 refine wpAny_call (Yz (F.run X.A X.stack s H ⟨us,[]⟩ (us++ds) (vs++Gx) Q E hr I.env0 (hb s us I.kIn hl) r2 h) fun r s' hq => ?_)
 cases r with
 |error e=>exact hx pins σ H s e s' I hq
 |ok fl =>
  cases fl with
  |ret u=>exact I.after hq
  |next=>exact Xz hq
  |brk=>exact Xz hq
  |cont=>exact Xz hq
theorem DB (F:jL X.prog X.w X.K X.mg X.base CX k f fd ps sp)(hr:fv k X.A)(hg:Gl X x)(hm:X.mg x=some (.ref f))(hk:Vd X.K (.ref f)=true)(hb:qS X.K fd ps ds)(hd:aU Gx ds)(hx:vY CX X E)
  (ha:PA X (e::es) t) (w6:(x==("__debug__":Str))=false:=by decide) (he:UX (e::es) X.env=(false,Yg e X.env)::UX es X.env:=by rfl) (kv:(XF pos (UX es X.env)).any (·.1)=false:=by rfl) :
  PE X (.Call (.Name x p) (e::es) [] pos) (Fc sp Gx E t):=by
 intro pins s σ H Q I h
 refine Y7 (Dj I hg hm ?_ w6)
 refine PySem.W.callWith_K (h₀:=X.base) I.ok.mod.kin hk (e_ (ha pos pins s σ H _ I h) fun us s1 ⟨vs,H1,I1,r,q⟩=>⟨I1.kIn,?_⟩) he kv
 exact Hd F hr hb hd hx I1 r q
structure Mk (K:UB)(C f:UY):Prop where
 makes:PySem.W.makesIn K C=true
 init:Ys K (.ref C) "__init__"=some (some (.ref f))
 fn:PySem.W.isFn K (.ref f)=true
 kp:Vd K (.ref C)=true
end
section
variable {CX:CXT}{C:UY}{ks:List Str}{sp:Sp}{E:XK}{m:Str}{p vM kpos:Pos}{e o:WI}{es:List WI}{kws:List Keyword}{ta:TE}{t tk:TA}{nm:Option Str}
structure MF (K:UB)(fd:YJ)(ps ks:List Str)(g:List Uz→List Uz→List Uz)(gV:List V→List V→List V):Prop where
 to:∀(s:UQ) (us ws:List Uz),K.In s.heap→(g us ws).length=ps.length→BindsTo s fd ⟨us,ks.zip ws⟩ (ps.zip (g us ws))
 rel:∀{vs:List V} {us:List Uz} {zs:List V} {ws:List Uz},aU vs us→aU zs ws→aU (gV vs zs) (g us ws)
variable {g:List Uz→List Uz→List Uz}{gV:List V→List V→List V}
end
structure bq (N P:List Str)(sc:Zi):Prop where
 kind:sc.kind=.function
 co:sc.isCoroutine=false
 gen:sc.isGenerator=false
 nd:N.Nodup
 pre:N.take P.length=P
 par:∀x∈P,sc.names.lookup x=some .local∨sc.names.lookup x=some .cell
 nofree:∀y∈sc.names,y.2≠.free
theorem qT {V0:Str→Option Zx}{x:Str}:∀{binds:List (Str×Uz)} {m:Str→Option Uz},(∀v,(x,v)∉binds)→bindL V0 binds m x=m x
 | [],_,_=>rfl
 | (n,v)::r,m,h=>by
  unfold bindL
  rw[qT fun w hw=>h w (UM _ hw)]
  split
  ·have:x≠n:=by rintro rfl;exact h v UL
   simp[this]
  ·rfl
theorem qU {V0:Str→Option Zx}{x:Str}:∀{binds:List (Str×Uz)} {m:Str→Option Uz},(∀v,(x,v)∉binds)→bindC V0 binds m x=m x
 | [],_,_=>rfl
 | (n,v)::r,m,h=>by
  unfold bindC
  rw[qU fun w hw=>h w (UM _ hw)]
  split
  ·rfl
  ·have:x≠n:=by rintro rfl;exact h v UL
   simp[this]
theorem qV {V0:Str→Option Zx}{x:Str}{v:Uz}:∀{P:List Str} {vs:List Uz} {i:Nat} {m:Str→Option Uz},P.Nodup→P[i]? = some x→vs[i]? = some v→V0 x=some .local →
  bindL V0 (P.zip vs) m x=some v
 | [],_,_,_,_,h,_,_=>by simp at h
 |_::_,[],_,_,_,_,h,_=>by simp at h
 |p::P,w::vs,0,m,nd,h1,h2,hk=>by
  simp at h1 h2;subst h1;subst h2
  show bindL V0 ((p,w)::P.zip vs) m p=_
  unfold bindL
  rw[qT fun v hv=>(WL.mp nd).1 (List.of_mem_zip hv).1,if_pos hk]
  simp
 |p::P,w::vs,i+1,m,nd,h1,h2,hk=>by
  show bindL V0 ((p,w)::P.zip vs) m x=_
  unfold bindL
  exact qV (i:=i) (WL.mp nd).2 (by simpa using h1) (by simpa using h2) hk
theorem qW {V0:Str→Option Zx}{x:Str}{v:Uz}:∀{P:List Str} {vs:List Uz} {i:Nat} {m:Str→Option Uz},P.Nodup→P[i]? = some x→vs[i]? = some v→V0 x≠some .local →
  bindC V0 (P.zip vs) m x=some v
 | [],_,_,_,_,h,_,_=>by simp at h
 |_::_,[],_,_,_,_,h,_=>by simp at h
 |p::P,w::vs,0,m,nd,h1,h2,hk=>by
  simp at h1 h2;subst h1;subst h2
  show bindC V0 ((p,w)::P.zip vs) m p=_
  unfold bindC
  rw[qU fun v hv=>(WL.mp nd).1 (List.of_mem_zip hv).1,if_neg hk]
  simp
 |p::P,w::vs,i+1,m,nd,h1,h2,hk=>by
  show bindC V0 ((p,w)::P.zip vs) m x=_
  unfold bindC
  exact qW (i:=i) (WL.mp nd).2 (by simpa using h1) (by simpa using h2) hk
noncomputable def X2 (N:List Str)(vs:List V):St:=vs.map some++VT (N.length - vs.length) none
noncomputable def nV (CX:CXT)(P:XI)(w:Xx)(K:UB)(mg:Str→Option Uz)(base:Xi)(N:List Str)(qual:Str)(scope:Zi)(f:UY)(cd:Uz)(A:VE)(outer:List Env)(s:UQ)(H:Hp)(E:XK):Cx where
 prog:=P
 w:=w
 K:=K
 mg:=mg
 base:=base
 A:=A.deeper (Y8 qual scope s.heap.objs.size f cd)
 N:=N
 s₀:=s
 H₀:=H
 env:=Y8 qual scope s.heap.objs.size f cd
 outer:=outer
 stack:=Y8 qual scope s.heap.objs.size f cd::outer
 ex:=[]
 calm:=true
 fn:=fun _=>true
 pn:=[]
 xe:=fun e s'=>U4 (Vf P w) (A.deeper (Y8 qual scope s.heap.objs.size f cd)) (leaving (Y8 qual scope s.heap.objs.size f cd) e) (fun _ CL=>CX outer H s E e CL) (fun e' CL=>CX outer H s E e' CL) s'
theorem ui {sc:Zi}(h:sc.names.lookup x=some .cell):∃c,(cellsFrom n sc.names []).lookup x=some c:=by
 have q:=PySem.W.cellsFrom_some sc.names n [] (.inl h)
 exact Option.isSome_iff_exists.mp q
theorem yY {CX:CXT}{base:Xi}{cd:Uz}{A:VE}{outer:List Env}{s1:UQ}{E:XK}{us:List Uz}(S:bq N ps scope)(hd:A.handled=none)(e0:Dz P w K mg base A outer s H)(hl:vs.length=ps.length)(r:aU vs us)(x:InCallC s s.heap.objs.size (bindL (Y8 qual scope s.heap.objs.size f cd).kindOf (ps.zip us) fun _=>none) (cellsFrom (s.heap.objs.size+1) scope.names []) (bindC (Y8 qual scope s.heap.objs.size f cd).kindOf (ps.zip us) fun _=>none) s1) :
  aF (nV CX P w K mg base N qual scope f cd A outer s H E) [] (X2 N vs) H s1:=by
 have kv:ps.length≤N.length:=by have:=congrArg XU S.pre;rw[U7] at this;lia
 obtain⟨h1,tk,rfl,hk⟩:=x.done
 have K3:∀b:UY,b∉(nV CX P w K mg base N qual scope f cd A outer s H E).ex:=fun b z=>absurd (show b∈([]:List UY) from z) (by simp)
 refine⟨⟨e0.mod,S.kind,rfl,rfl,UK _,fun y z c h1 h2 => ?_,fun y hy => ?_,fun y c _ h => ?_,fun _=>hd,Around.frames_deeper e0.frames,.inr ⟨rfl,rfl⟩,fun b z=>absurd z (K3 b),e0.bs,e0.bsz,fun b _ _=>K3 b,fun b z=>absurd z (K3 b),e0.funs,e0.frf⟩,
  rfl,e0.bare,Un.kept hk,⟨_,x.toInCall.ns,fun i y v h1 h2 h3 => ?_⟩,fun y c h=>⟨_,x.cell y c h⟩,e0.hok.fresh (UK _),fun y c h => ?_,fun p hp=>absurd (show p∈([]:List (UY×Obj)) from hp) (by simp),e0.hok.kept hk,?_⟩
 ·exact name_of_addr x.apart (VP h1) (VP h2)
 ·have hy:scope.names.lookup y=some .cell∨scope.names.lookup y=some .free:=hy
  rcases hy with hy|hy
  ·exact ui hy
  ·exact absurd rfl (S.nofree _ (VP hy))
 ·exact Nat.le_of_lt (x.above y c (VP h))
 ·have hi:i<vs.length:=by
   unfold X2 at h2
   by_cases hi:i<vs.length
   ·exact hi
   ·rw[VG (by simpa using hi)] at h2
    rw[List.getElem?_replicate] at h2
    split at h2<;>cases h2
  have ha:vs[i]? = some v:=by
   unfold X2 at h2
   rw[VU (by simpa using hi),U8] at h2
   cases e:vs[i]? with
   |none=>rw[e] at h2;cases h2
   |some a=>rw[e] at h2;cases h2;rfl
  obtain⟨u,hu,rv⟩:=r.get ha
  have hp:ps[i]? = some y:=by
   rw[←S.pre,Zl (by lia)];exact h1
  have Qu:ps.Nodup:=by rw[←S.pre];exact S.nd.sublist (List.take_sublist _ _)
  refine⟨u,rv,?_⟩
  rcases S.par y (Vt hp) with k|k
  ·exact .inl ⟨k,qV Qu hp hu k⟩
  ·obtain⟨c,e⟩:=ui (n:=s.heap.objs.size+1) k
   refine .inr ⟨.inl k,c,e,?_⟩
   have q:=x.cell y c e
   rw[qW Qu hp hu (by show scope.names.lookup y≠_;rw[k];decide)] at q
   exact q
 ·exact e0.hok.fresh (Nat.le_of_lt (x.above y c (VP h)))
 ·unfold X2
  show _=N.length
  rw[UH,Ux,YA]
  lia
theorem JM {CX:CXT}{base:Xi}{name:Str}{params:Arguments}{dV kV eR pm bD ct oc:Uz}{an od:Option UY}{Gy:Array (Option Uz)}{sp:Sp}(lk:K.lookup f=some ⟨oc,od,.func (US name qual params body scope dV kV eR pm an bD ct),Gy⟩)(qv:Vn K bD qual=true)(S:bq N ps scope)(len:∀vs H Q E,sp vs H Q E→vs.length=ps.length)(gH:∀(A:VE) (outer:List Env) (s:UQ) (H:Hp) (vs:List V) (Q:VK) (E:XK),fv k (A.deeper (Y8 qual scope s.heap.objs.size f bD))→sp vs H Q E →
   ∃t,sv (nV CX P w K mg base N qual scope f bD A outer s H E) body t∧t {nx:=fun _ H'=>Q .non H',rt:=Q} (X2 N vs) H) :
  jL P w K mg base CX (k+1) f (US name qual params body scope dV kV eR pm an bD ct) ps sp:=by
 refine⟨len,fun A outer s H args us vs Q E hr e0 hb r Gz => ?_⟩
 have hl:=len _ _ _ _ Gz
 have KX:K.In s.heap:=e0.mod.kin.keeps fun b o e=>(e0.bs b o e).1
 have Rx:s.heap.NoLimit:=e0.mod.nolimit.keeps fun b o e=>(e0.bs b o e).1
 have K4:∀y∈ps.zip us,scope.names.lookup y.1=some .local∨(scope.names.lookup y.1=some .cell∧((cellsFrom (s.heap.objs.size+1) scope.names []).lookup y.1).isSome=true):=fun⟨n,v⟩ hy=>by
  rcases S.par n (List.of_mem_zip hy).1 with q|q
  ·exact .inl q
  ·exact .inr ⟨q,PySem.W.cellsFrom_some _ _ _ (.inl q)⟩
 refine codeAny_call_function hr.depth (KX _ _ lk) rfl S.co S.gen rfl (PySem.W.codeRec_of KX qv) (hb _ _ _ _ ?_)
 refine wpAny_newFunctionEnv_cells S.kind K4 fun env he s1 x => ?_
 subst he
 refine⟨Rx.keeps x.toInCall.keep,codeAny_func ?_⟩
 obtain⟨t,ht,hq⟩:=gH A outer s H vs Q E (hr.deeper _) Gz
 have I:aF (nV CX P w K mg base N qual scope f bD A outer s H E) [] (X2 N vs) H s1:=yY S hr.hd e0 hl r x
 refine V3 (ht [] s1 (X2 N vs) H _ I hq) (fun fl s' hs => ?_) fun e s' hs=>hs
 have fin:∀{σ':St} {H':Hp} {v:V} {u:Uz},aF (nV CX P w K mg base N qual scope f bD A outer s H E) [] σ' H' s'→bN v u→Q v H'→CE outer P w H s Q u s' :=
  fun {σ' H' v u} J rv q=>⟨v,H',J.os,J.bare,J.base,J.hok,rv,q⟩
 cases fl with
 |ret u =>
  obtain⟨v,σ',H',J,rv,q⟩:=hs
  exact fin J rv q
 |next =>
  obtain⟨σ',H',J,q⟩:=hs
  exact fin (v:=V.non) (u:=Value.none) J rfl q
 |brk =>
  obtain⟨_,_,_,q⟩:=hs
  exact Xz q
 |cont =>
  obtain⟨_,_,_,q⟩:=hs
  exact Xz q
end L2
variable {CX:L2.CXT}{sp:L2.Sp}
namespace L2
section
variable {p:Pos}{e:WI}{es:List WI}{t:TA}{id T:String}{r:List V→Hp→VK→Prop}
noncomputable def MG (r:List V→Hp→VK→Prop)(t:TA):TE:=fun σ H Q=>t σ H fun vs H1=>r vs H1 Q
theorem kz (hc:eM X (.builtin id) r)(hg:Gl X x)(hm:X.mg x=none)(hv:Vs x=some (.builtin id))(ha:PA X (e::es) t)(hn:x≠"__name__":=by decide)(w6:(x==("__debug__":Str))=false:=by decide)
  (he:UX (e::es) X.env=(false,Yg e X.env)::UX es X.env:=by rfl) (kv:(XF pos (UX es X.env)).any (·.1)=false:=by rfl):PE X (.Call (.Name x p) (e::es) [] pos) (MG r t):=by
 intro pins s σ H Q I h
 refine Y7 (oK I hg hm hv ?_ hn w6)
 exact PyProof.Rows.callWith_builtin1 (e_ (ha pos pins s σ H _ I h) fun us s1 ⟨vs,H1,I1,r1,q1⟩=>hc pins s1 σ H1 vs us Q I1 r1 q1) he kv
theorem gu (hc:eM X (.type T) r)(hg:Gl X x)(hm:X.mg x=none)(hv:Vs x=some (.type T))(ha:PA X (e::es) t)(hn:x≠"__name__":=by decide)(w6:(x==("__debug__":Str))=false:=by decide)
  (he:UX (e::es) X.env=(false,Yg e X.env)::UX es X.env:=by rfl) (kv:(XF pos (UX es X.env)).any (·.1)=false:=by rfl):PE X (.Call (.Name x p) (e::es) [] pos) (MG r t):=by
 intro pins s σ H Q I h
 refine Y7 (oK I hg hm hv ?_ hn w6)
 exact Xt (e_ (ha pos pins s σ H _ I h) fun us s1 ⟨vs,H1,I1,r1,q1⟩=>hc pins s1 σ H1 vs us Q I1 r1 q1) he kv
end
end L2
namespace HT
noncomputable def lexLt:List Int→List Int→Bool
 | [],[]=>false
 | [],_::_=>true
 |_::_,[]=>false
 |x::xs,y::ys=>if x=y then lexLt xs ys else decide (x<y)
theorem lexLt_cons (x y:Int)(xs ys:List Int):lexLt (x::xs) (y::ys)=if x=y then lexLt xs ys else decide (x<y):=rfl
theorem qA:lexLt [] []=false:=rfl
theorem oP (y:Int)(ys:List Int):lexLt [] (y::ys)=true:=rfl
theorem oQ (x:Int)(xs:List Int):lexLt (x::xs) []=false:=rfl
theorem Ai (A:VE)(s:UQ)(a:Int)(t:Tok)(c:Int)(u:Tok):∃e,XA A s (.int a t) (.int c u) e∧(e=true↔a=c) :=
 ⟨(a==c),SeqAt.EqAt.int_int a t c u,by simp⟩
theorem Aj (A:VE)(s:UQ)(a:Int)(t:Tok)(c:Int)(u:Tok)(prog:XI)(w:Xx)(E:Uz→UQ→Prop)(Q:Uz→UQ→Prop)(h:Q (.bool (decide (a<c))) s) :
  U4 (Vf prog w) A (richCompare .Lt (.int a t) (.int c u)) Q E s :=
 (PyProof.Rows.lt_int h:U4 (Vf prog w) A (WV .Lt (.int a t) (.int c u)) Q E s)
section
open PySem.SeqAt
open PySem.AutoSeq1 (wpAny_loadPart')
open PySem.MeetsSeq PySem.MeetsSeq2 PySem.MeetsSeq3
theorem qB (l b:UY)(items iy:Array Uz)(n n2:Nat)(dd GA:Option UY)(sl C5:Array (Option Uz))(ns ms:List Int)(hi:W8 items.toList ns)(hj:W8 iy.toList ms) :
  Meets (Builtin.«tuple.__lt__» ⟨[.ref l,.ref b],[]⟩)
   (fun _ R s=>s.heap.get? l=some {cls:=.type "tuple",dict:=dd,data:=.seq items n,slots:=sl}∧s.heap.get? b=some {cls:=.type "tuple",dict:=GA,data:=.seq iy n2,slots:=C5} ∧
    R (.ok (.ret (.bool (lexLt ns ms)))) s) :=
 .of_wp fun prog w A R s h=>by
  obtain⟨hp,g,d,tk,os⟩:=s;obtain⟨hl,hb,h⟩:=h
  have f2:=AutoSeq1.sub_tuple_tuple
  have z1:items.size=ns.length:=by rw[←hi.length];simp
  have z2:iy.size=ms.length:=by rw[←hj.length];simp
  wp_walk using wpAny_loadPart' hl,wpAny_loadPart' hb,wpAny_forIn_list _ (fun rest b s'=>b.1=none∧s'=⟨hp,g,d,tk,os⟩∧∃(vs ws:List Uz) (ns' ms':List Int),rest=vs.zip ws ∧
   W8 vs ns'∧W8 ws ms'∧ns'.length+iy.size=ms'.length+items.size∧R (.ok (.ret (.bool (lexLt ns' ms')))) ⟨hp,g,d,tk,os⟩) _
  case turn =>
   rintro⟨y,x⟩ rest b s' ⟨yO,rfl,vs,ws,ns',ms',hz,hvi,hwi,cY,hR⟩
   cases hvi with
   |nil=>rw[List.zip_nil_left] at hz;cases hz
   |cons a t hvi' =>
    cases hwi with
    |nil=>rw[List.zip_nil_right] at hz;cases hz
    |cons c u hwi' =>
     rw[X5] at hz
     injection hz with hyx hrest
     injection hyx with hy hx
     subst hy hx
     rw[lexLt_cons] at hR
     simp only[UI] at cY
     obtain⟨e,he,hiff⟩:=Ai A.in1 ⟨hp,g,d,tk,os⟩ a t c u
     refine Uw (he prog w _ _ ?_)
     cases e with
     |true =>
      rw[if_pos (hiff.mp rfl)] at hR
      wp_walk
      exact⟨rfl,rfl,_,_,_,_,hrest,hvi',hwi',by lia,hR⟩
     |false =>
      rw[if_neg (fun q=>absurd (hiff.mpr q) UG)] at hR
      have Ry:=Aj A.in1 ⟨hp,g,d,tk,os⟩ a t c u prog w
      wp_walk using Ry
      exact⟨_,rfl,by simpa using hR⟩
  case fin =>
   rintro⟨b1,b2⟩ s' ⟨yO,rfl,vs,ws,ns',ms',hz,hvi,hwi,cY,hR⟩
   simp only at yO
   subst yO
   have hv:lexLt ns' ms'=decide (items.size<iy.size):=by
    cases hvi with
    |nil =>
     cases hwi with
     |nil =>
      simp only[WM] at cY
      rw[qA]
      exact (decide_eq_false (by lia)).symm
     |cons c u hw =>
      simp only[WM,UI] at cY
      rw[oP]
      exact (decide_eq_true (by lia)).symm
    |cons a t hv =>
     cases hwi with
     |nil =>
      simp only[WM,UI] at cY
      rw[oQ]
      exact (decide_eq_false (by lia)).symm
     |cons c u hw =>
      rw[X5] at hz
      cases hz
   rw[hv] at hR
   wp_walk
   exact⟨_,rfl,by simpa [Builtin.Tuple.tupleCompareSizes] using hR⟩
  case h =>
   exact⟨rfl,rfl,items.toList,iy.toList,ns,ms,rfl,hi,hj,by lia,h⟩
end
section
variable {A:VE}
theorem lt_tupInts {l:UY}{iy:Array Uz}{ms:List Int}(hl:IsTup s.heap l items)(hb:IsTup s.heap b iy)(hi:W8 items.toList ns)(hj:W8 iy.toList ms)(hu:A.units<Xu)(h:Q (.bool (lexLt ns ms)) s):U4 (Vf prog w) A (WV .Lt (.ref l) (.ref b)) Q E s:=by
 obtain⟨⟨cls,dd,data,sl⟩,ho,hc,n,hd⟩:=id hl
 obtain⟨⟨cls2,GA,data2,C5⟩,ho2,hc2,n2,C_⟩:=id hb
 simp only at hc hd hc2 C_
 subst hc hd hc2 C_
 exact richCompare_meets_room (op:=.Lt) ⟨_,ho,rfl⟩ ⟨_,ho2,rfl⟩ PySem.F.slot_tuple_lt PySem.F.entry_tuple_lt (PySem.F.args_tuple_lt_2 _ _) (qB l b items iy n n2 dd GA sl C5 ns ms hi hj)
  ⟨ho,ho2,show Value.bool (lexLt ns ms)≠Value.notImplemented∧Q (.bool (lexLt ns ms)) s from ⟨(fun x=>nomatch x),h⟩⟩ hu
theorem cat_tup {t:UY}{vs ws:List Uz}(ht:IsTup s.heap t vs.toArray)(hb:IsTup s.heap b ws.toArray)(hv:vs≠[])(h1:ws=[]→Q (.ref t) s)(h2:ws≠[]→Q (.ref s.heap.objs.size) {s with heap:=s.heap.push {cls:=.type "tuple",data:=.seq (vs++ws).toArray}})(hsz:vs.length+ws.length≤UA):U4 (Vf prog w) A (Xq .Add (.ref t) (.ref b)) Q E s:=by
 obtain⟨⟨cls,dd,data,sl⟩,ho,hc,n,hd⟩:=id ht
 obtain⟨⟨cls2,GA,data2,C5⟩,ho2,hc2,n2,C_⟩:=id hb
 simp only at hc hd hc2 C_
 subst hc hd hc2 C_
 have e:vs.toArray++ws.toArray=(vs++ws).toArray:=by simp
 by_cases hw:ws=[]
 ·exact concat_meets ⟨_,ho,rfl⟩ ⟨_,ho2,rfl⟩ noFill_tuple_add seq_tuple_add Yh X6 (XZ _ _)
   (tuple_addW1 t b vs.toArray ws.toArray n n2 dd GA sl C5 (by simpa using hv) (by simp[hw])) ⟨ho,ho2,h1 hw⟩
 ·refine concat_meets ⟨_,ho,rfl⟩ ⟨_,ho2,rfl⟩ noFill_tuple_add seq_tuple_add Yh X6 (XZ _ _)
   (tuple_addW2 t b vs.toArray ws.toArray n n2 dd GA sl C5 (by simpa using hv) (by simpa using hw) (by rw[UC,UC];exact hsz)) ⟨ho,ho2,?_⟩
  rw[e]
  exact h2 hw
noncomputable def sIx (n d:Nat):Option Int→Nat
 |none=>d
 |some v=>if v<0 then (v+(n:Int)).toNat else min v.toNat n
theorem sIx_none (n d:Nat):sIx n d none=d:=rfl
theorem sIx_nat (n d k:Nat):sIx n d (some (k:Int))=min k n:=by
 show (if (k:Int)<0 then ((k:Int)+(n:Int)).toNat else min (k:Int).toNat n)=min k n
 rw[if_neg (by lia),VX]
theorem He (n d:Nat)(hd:d≤n)(o:Option Int):sIx n d o≤n:=by
 cases o with
 |none=>exact hd
 |some v =>
  show (if v<0 then (v+(n:Int)).toNat else min v.toNat n)≤n
  by_cases hv:v<0
  ·rw[if_pos hv];lia
  ·rw[if_neg hv];exact Nat.min_le_right _ _
theorem xj (v:Int)(n d:Nat):(if v<0 then max (v+(n:Int)) 0 else min v (n:Int))=((sIx n d (some v):Nat):Int):=by
 show (if v<0 then max (v+(n:Int)) 0 else min v (n:Int))=(((if v<0 then (v+(n:Int)).toNat else min v.toNat n):Nat):Int)
 by_cases hv:v<0
 ·simp only[if_pos hv];lia
 ·simp only[if_neg hv];lia
theorem vZ (lo hi:Option Int)(n:Nat):XM lo hi 1 (n:Int)=(((sIx n 0 lo:Nat):Int),((sIx n n hi:Nat):Int)):=by
 have h1:¬((1:Int)<0):=by lia
 unfold XM
 simp only[h1,if_false]
 refine Prod.ext ?_ ?_
 ·cases lo with
  |none=>rfl
  |some v=>exact xj v n 0
 ·cases hi with
  |none=>rfl
  |some v=>exact xj v n n
theorem v3 (i j:Nat):W9 (i:Int) (j:Int) 1=j - i:=by
 unfold W9
 have h1:(1:Int)>0:=by lia
 simp only[h1,if_true,Int.ediv_one]
 split<;>lia
theorem oR {v:Uz}{o:Option Int}{Q:Option Int→UQ→Prop}(p:IsPart v o)(h:Q o s):U4 (Vf prog w) A (Builtin.Slice.slicePartIndex v) Q E s:=by
 cases p with
 |none=>exact slicePart_none h
 |int i t=>exact slicePart_int h
theorem iB {sl:UY}{vl vu:Uz}{Q:Int×Int×Nat→UQ→Prop}(hs:s.heap.IsSliceOf sl vl vu .none)(pl:IsPart vl lo)(pu:IsPart vu hi)(h:Q (((sIx n 0 lo:Nat):Int),1,sIx n n hi - sIx n 0 lo) s):U4 (Vf prog w) A (Y0 (.ref sl) (pure (n:Int))) Q E s:=by
 obtain⟨os,Dg,hcs,hds⟩:=id hs
 unfold Y0 Builtin.Slice.sliceFields
 refine Uw (Uw (Wn Dg hds (x:=vl) rfl (Uw (Wn Dg hds (x:=vu) rfl (Uw (Wn Dg hds (x:=.none) rfl (UD ?_)))))))
 refine Uw (slicePart_none ?_)
 show U4 _ _ (if ((1:Int)==0)=true then _ else _) _ _ s
 rw[if_neg (by decide)]
 refine Uw (oR pl (Uw (oR pu (Uw (UD ?_)))))
 show U4 _ _ (match XM lo hi 1 (n:Int) with|(lo,hi)=>pure (lo,(1:Int),W9 lo hi 1)) _ _ s
 rw[vZ lo hi n]
 show U4 _ _ (pure (((sIx n 0 lo:Nat):Int),(1:Int),W9 ((sIx n 0 lo:Nat):Int) ((sIx n n hi:Nat):Int) 1)) _ _ s
 rw[v3]
 exact UD h
theorem Ak (xs:Array Uz)(i k:Nat):((Vc k).filterMap fun (m:Nat)=>xs[((i:Int)+(m:Int)*1).toNat]?).toArray=((xs.toList.drop i).take k).toArray:=by
 have e:(fun (m:Nat)=>xs[((i:Int)+(m:Int)*1).toNat]?)=fun m=>xs[i+m]? := by
  funext m
  have:((i:Int)+(m:Int)*1).toNat=i+m:=by lia
  rw[this]
 rw[e]
 have:=pick_run xs i k
 rw[List.filterMap_map] at this
 have e2:((fun x=>xs[x]?)∘fun x=>i+x)=fun m=>xs[i+m]? := rfl
 rw[e2] at this
 rw[this]
theorem getItem_tuple_cut {t sl:UY}{vl vu:Uz}(ht:IsTup s.heap t items)(hs:s.heap.IsSliceOf sl vl vu .none)(pl:IsPart vl lo)(pu:IsPart vu hi)(hw:¬(sIx items.size 0 lo=0∧sIx items.size items.size hi=items.size))(h:Q (.ref s.heap.objs.size) {s with heap:=s.heap.push {cls:=.type "tuple",data:=.seq ((items.toList.drop (sIx items.size 0 lo)).take (sIx items.size items.size hi - sIx items.size 0 lo)).toArray}})(hsz:items.size≤UA):U4 (Vf prog w) A (getItem (.ref t) (.ref sl)) Q E s:=by
 have yK:sizeOk (.seq ((items.toList.drop (sIx items.size 0 lo)).take (sIx items.size items.size hi - sIx items.size 0 lo)).toArray):=by
  show ((items.toList.drop (sIx items.size 0 lo)).take (sIx items.size items.size hi - sIx items.size 0 lo)).toArray.size≤UA
  rw[UC,U7,Vl,UE]
  lia
 have hj:sIx items.size items.size hi≤items.size:=He _ _ (UK _) hi
 obtain⟨os,Dg,hcs,hds⟩:=id hs
 have Nv:s.TypeIs (.ref sl) "slice":=⟨os,Dg,hcs⟩
 unfold getItem
 try with_reducible refine Wl ?_
 first|refine Uw (UD ?_)|skip
 refine Uw (wpAny_sequenceKey ht.typeIs (by decide) ?_)
 refine Uw (VQ (name:=UO "__getitem__") ht.typeIs Wu
  (V2 Wu ht.typeIs entry_tuple_getitem ?_ (args_tuple_getitem _ _)))
 show U4 _ _ (Y1 (.ref t) >>= _) _ _ s
 refine Uw (tupleItemsOf_ ht ?_)
 refine Uw (YB Nv ?_)
 rw[if_pos (by decide)]
 refine Uw (iB hs pl pu ?_)
 have Rz:¬((((sIx items.size 0 lo:Nat):Int)==0&&(1:Int)==1&&(sIx items.size items.size hi - sIx items.size 0 lo)==items.size)=true):=by
  intro q
  rw[Vu,Vu] at q
  have q1:((sIx items.size 0 lo:Nat):Int)=0:=eq_of_beq q.1.1
  have q2:sIx items.size items.size hi - sIx items.size 0 lo=items.size:=eq_of_beq q.2
  exact hw ⟨by lia,by lia⟩
 show U4 _ _ (if (((sIx items.size 0 lo:Nat):Int)==0&&(1:Int)==1&&(sIx items.size items.size hi - sIx items.size 0 lo)==items.size)=true then _ else _) _ _ s
 rw[if_neg Rz,Ak]
 first
  |exact Uw (m:=Wi _) (VI (UD ⟨_,rfl,UD h⟩) yK)
  |exact Uw (m:=Wi _) (VI (Uw (UD (UD ⟨_,rfl,UD h⟩))) yK)
  |exact Uw (Uw (m:=Wi _) (VI (UD (UD ⟨_,rfl,UD h⟩)) yK))
  |exact Uw (Uw (m:=Wi _) (VI (UD ⟨_,rfl,UD h⟩) yK))
end
end HT
namespace L2
noncomputable abbrev TO:=St→Hp→(Option Int→Hp→Prop)→Prop
noncomputable def PO (X:Cx)(e:Option WI)(t:TO):Prop :=
 ∀(pins:List (UY×Obj)) (s:UQ) (σ:St) (H:Hp) (Q:Option Int→Hp→Prop),aF X pins σ H s→t σ H Q →
  U4 (Vf X.prog X.w) X.A (evalPart e X.env) (fun u s'=>∃o H',aF X pins σ H' s'∧IsPart u o∧Q o H') X.xe s
noncomputable def DC:TO:=fun _ H Q=>Q none H
noncomputable def JN (t:TE):TO:=fun σ H Q=>t σ H fun x H1=>∃i,x=.int i∧Q (some i) H1
theorem gw:∀{us:List Uz},aU (ns.map V.int) us→W8 us ns:=by
 induction ns with
 |nil=>intro us r;rw[WW] at r;cases r;exact .nil
 |cons n ns ih =>
  intro us r
  rw[UT] at r
  cases r with
  |cons r1 r2 =>
   obtain⟨t,e⟩:=r1
   subst e
   exact .cons n t (ih r2)
section
variable {e:WI}{lo hi:Option WI}{tl th:TO}
theorem DD:PO X none DC:=by
 intro pins s σ H Q I h
 rw[evalPart_none]
 exact UD ⟨none,H,I,.none,h⟩
theorem xk (h:PE X e te):PO X (some e) (JN te):=by
 intro pins s σ H Q I hw
 rw[evalPart_some]
 refine e_ (h pins s σ H _ I hw) fun u s1 ⟨x,H1,I1,r1,q1⟩ => ?_
 obtain⟨i,rfl,q⟩:=q1
 obtain⟨t,rfl⟩:=r1
 exact⟨some i,H1,I1,.int i t,q⟩
noncomputable def Al (X:Cx)(r:V→Option Int→Option Int→Hp→VK→Prop):Prop :=
 ∀(pins:List (UY×Obj)) (s:UQ) (σ:St) (H:Hp) (x:V) (v vl vu:Uz) (lo hi:Option Int) (sl:UY) (Q:VK),aF X pins σ H s→bN x v→s.heap.IsSliceOf sl vl vu .none→IsPart vl lo→IsPart vu hi→r x lo hi H Q →
  ∃T id,typeLookup (.type T) "__getitem__"=pure (some (.builtin id))∧s.TypeIs v T∧U4 (Vf X.prog X.w) X.A (getItem v (.ref sl)) (EP X pins σ Q) X.xe s
theorem Al.or {r r':V→Option Int→Option Int→Hp→VK→Prop}(h:Al X r)(h':Al X r'):Al X (fun x lo hi H Q=>r x lo hi H Q∨r' x lo hi H Q):=by
 intro pins s σ H x v vl vu lo hi sl Q I rx hs pl pu q
 rcases q with q|q
 ·exact h pins s σ H x v vl vu lo hi sl Q I rx hs pl pu q
 ·exact h' pins s σ H x v vl vu lo hi sl Q I rx hs pl pu q
noncomputable def Q_ (r:V→Option Int→Option Int→Hp→VK→Prop)(te:TE)(tl th:TO):TE:=fun σ H Q=>te σ H fun x H1=>tl σ H1 fun l H2=>th σ H2 fun u H3=>r x l u H3 Q
theorem Am {r:V→Option Int→Option Int→Hp→VK→Prop}(hr:Al X r)(he:PE X e te)(hl:PO X lo tl)(hu:PO X hi th):PE X (.Subscript e (.Slice lo hi none p2) pos) (Q_ r te tl th):=by
 intro pins s σ H Q I h
 refine Subscript_ (e_ (he pins s σ H _ I h) fun v s1 ⟨x,H1,I1,r1,q1⟩ => ?_)
 refine wpAny_Slice (e_ (hl pins s1 σ H1 _ I1 q1) fun vl s2 ⟨l,H2,I2,pl,q2⟩=>e_ (hu pins s2 σ H2 _ I2 q2) fun vu s3 ⟨u,H3,I3,pu,q3⟩ => ?_)
 rw[evalPart_none]
 refine UD ?_
 have I4:aF X pins σ H3 {s3 with heap:=s3.heap.push {cls:=.type "slice",data:=.fields #[vl,vu,.none]}}:=I3.kept (t':=s3.toks) fun b ob q=>Uy _ q
 obtain⟨T,id,hT,ht,hg⟩:=hr pins {s3 with heap:=s3.heap.push {cls:=.type "slice",data:=.fields #[vl,vu,.none]}} σ H3 x v vl vu l u s3.heap.objs.size Q I4 r1 (Heap.IsSliceOf.new ..) pl pu q3
 show U4 (Vf X.prog X.w) X.A (subscriptTail e (.Slice lo hi none p2) v (.ref s3.heap.objs.size)) (EP X pins σ Q) X.xe {s3 with heap:=s3.heap.push {cls:=.type "slice",data:=.fields #[vl,vu,.none]}}
 exact tail_any (ops:=[.ref s3.heap.objs.size,v]) ht hT hg (by with_unfolding_all rfl)
noncomputable def oT (xs:List V)(lo hi:Option Int):List V:=(xs.drop (HT.sIx xs.length 0 lo)).take (HT.sIx xs.length xs.length hi - HT.sIx xs.length 0 lo)
theorem mR (xs:List V)(lo hi:Option Int):(oT xs lo hi).length≤xs.length:=by
 unfold oT
 rw[U7,Vl]
 lia
noncomputable def JO (K:UB):V→Option Int→Option Int→Hp→VK→Prop:=fun x lo hi H Q=>∃a xs,x=.ref a∧gT K H a xs ∧
 ¬(HT.sIx xs.length 0 lo=0∧HT.sIx xs.length xs.length hi=xs.length)∧∀p,H p=none→Q (.ref p) (eB H p (.tup (oT xs lo hi)))
theorem Hg:Al X (JO X.K):=by
 intro pins s σ H x v vl vu lo hi sl Q I rx hs pl pu h
 obtain⟨a,xs,rfl,hx,hw,q⟩:=h
 cases rx
 obtain⟨ar,r,ht,hz⟩:=I.tuple hx
 have cY:ar.toArray.size=xs.length:=by rw[UC];exact r.length.symm
 refine⟨"tuple",_,PyProof.Rows.slot_tuple_getitem.lookup,ht.typeIs,?_⟩
 refine HT.getItem_tuple_cut ht hs pl pu (by rw[cY];exact hw) ?_ (by rw[cY];exact hz)
 rw[cY]
 refine⟨.ref s.heap.objs.size,_,I.laid (t':=s.toks) (o:=.tup (oT xs lo hi)) (fun b ob q=>Uy _ q) (UK _) ?_,rfl,q _ (I.hok.fresh (UK _))⟩
 exact⟨VC (mR xs lo hi) hz,_,(r.drop (HT.sIx xs.length 0 lo)).take (HT.sIx xs.length xs.length hi - HT.sIx xs.length 0 lo),IsTup.new _ _,_,UN _ rfl⟩
noncomputable def JP (K:UB):R2:=fun x y H Q=>∃a b xs ys,x=.ref a∧y=.ref b∧gT K H a xs∧gT K H b ys∧xs≠[]∧xs.length+ys.length≤UA ∧
 (ys=[]→Q (.ref a) H)∧(ys≠[]→∀p,H p=none→Q (.ref p) (eB H p (.tup (xs++ys))))
theorem aU.nil_iff {us:List Uz}(r:aU xs us):us=[]↔xs=[]:=by
 cases r with
 |nil=>simp
 |cons _ _=>simp
theorem DF:jK X (Xq .Add) (JP X.K):=by
 intro pins s σ H x y v u Q I rx ry h
 obtain⟨a,b,xs,ys,rfl,rfl,ha,hb,hx,hz,q1,q2⟩:=h
 cases rx
 cases ry
 obtain⟨ar,r1,p1,_⟩:=I.tuple ha
 obtain⟨its2,r2,p2,_⟩:=I.tuple hb
 refine HT.cat_tup p1 p2 (fun z=>hx (r1.nil_iff.mp z)) (fun z=>⟨.ref a,H,I,rfl,q1 (r2.nil_iff.mp z)⟩) (fun z => ?_) (by rw[←r1.length,←r2.length];exact hz)
 refine⟨.ref s.heap.objs.size,_,I.laid (t':=s.toks) (o:=.tup (xs++ys)) (fun b ob q=>Uy _ q) (UK _) ?_,rfl,q2 (fun w=>z (r2.nil_iff.mpr w)) _ (I.hok.fresh (UK _))⟩
 exact⟨by rw[UH];exact hz,_,r1.append r2,IsTup.new _ _,_,UN _ rfl⟩
end
end L2
namespace L2
noncomputable def zP (n:Nat)(i:Int):Option Nat:=if 0≤i then (if i<n then some i.toNat else none) else if -(n:Int)≤i then some (i+n).toNat else none
noncomputable def jb {α:Type}(xs:List α)(i:Int):Option α:=(zP xs.length i).bind fun j=>xs[j]?
theorem xl {i:Int}(h:zP n i=some j):Zm i n=some j∧j<n ∧ -(n:Int)≤i∧i<n:=by
 unfold zP at h
 by_cases h0:0≤i
 ·rw[if_pos h0] at h
  by_cases h1:i<n
  ·rw[if_pos h1] at h
   have e:i.toNat=j:=U0 h
   exact⟨by rw[seqIndex_of h0 h1,e],by lia,by lia,h1⟩
  ·rw[if_neg h1] at h;cases h
 ·rw[if_neg h0] at h
  by_cases h1 : -(n:Int)≤i
  ·rw[if_pos h1] at h
   have e:(i+n).toNat=j:=U0 h
   exact⟨by rw[seqIndex_neg (by lia) h1,e],by lia,h1,by lia⟩
  ·rw[if_neg h1] at h;cases h
theorem sD {α:Type}{xs:List α}{i:Int}{v:α}(h:jb xs i=some v):∃j,Zm i xs.length=some j∧xs[j]? = some v∧j<xs.length ∧ -(xs.length:Int)≤i∧i<xs.length:=by
 unfold jb at h
 cases e:zP xs.length i with
 |none=>rw[e] at h;cases h
 |some j =>
  rw[e] at h
  obtain⟨h1,h2,h3,h4⟩:=xl e
  exact⟨j,h1,h,h2,h3,h4⟩
noncomputable def xm (b:WI):Prop:=∀o i,subscripted b false o i=operate [o,i] (getItem o i)
noncomputable def C1 (X:Cx)(r:R2):Prop :=
 ∀(value slice:WI) (pins:List (UY×Obj)) (s:UQ) (σ:St) (H:Hp) (x y:V) (v u:Uz) (Q:VK),aF X pins σ H s→bN x v→bN y u→r x y H Q →
  subscripted slice false v u=operate [v,u] (getItem v u)→U4 (Vf X.prog X.w) X.A (subscriptTail value slice v u) (EP X pins σ Q) X.xe s
noncomputable def Fd (X:Cx)(id:String)(r:V→List V→Hp→VK→Prop):Prop :=
 ∀(pins:List (UY×Obj)) (s:UQ) (σ:St) (H:Hp) (x:V) (xs:List V) (v:Uz) (us:List Uz) (Q:VK),aF X pins σ H s→bN x v→aU xs us→r x xs H Q →
  U4 (Vf X.prog X.w) X.A (call (.builtin id) (v::us)) (EP X pins σ Q) X.xe s
section
variable {a b:WI}{ta tb:TE}
theorem C1.or {r':R2}(h:C1 X r)(h':C1 X r'):C1 X (fun x y H Q=>r x y H Q∨r' x y H Q):=by
 intro value slice pins s σ H x y v u Q I rx ry q hs
 rcases q with q|q
 ·exact h value slice pins s σ H x y v u Q I rx ry q hs
 ·exact h' value slice pins s σ H x y v u Q I rx ry q hs
theorem Fd.or {id:String}{r r':V→List V→Hp→VK→Prop}(h:Fd X id r)(h':Fd X id r'):Fd X id (fun x xs H Q=>r x xs H Q∨r' x xs H Q):=by
 intro pins s σ H x xs v us Q I rx rs q
 rcases q with q|q
 ·exact h pins s σ H x xs v us Q I rx rs q
 ·exact h' pins s σ H x xs v us Q I rx rs q
theorem JQ (hr:C1 X r)(ha:PE X a ta)(hb:PE X b tb)(hs:xm b):PE X (.Subscript a b pos) (JE r ta tb):=by
 intro pins s σ H Q I h
 exact Subscript_ (G7 ha hb I h fun v u s2 x y H2 I2 rx ry q=>hr a b pins s2 σ H2 x y v u Q I2 rx ry q (hs _ _))
noncomputable def JR (K:UB):R2:=fun x y H Q=>∃p xs i v,x=.ref p∧y=.int i∧fq K H p xs∧jb xs i=some v∧Q v H
noncomputable def JS (K:UB):R2:=fun x y H Q=>∃p xs i v,x=.ref p∧y=.int i∧gT K H p xs∧jb xs i=some v∧Q v H
noncomputable def JT:R2:=fun x y H Q=>∃z i c,x=.str z∧y=.int i∧z.length≤UA∧jb z.cps.toList i=some c∧Q (.str ⟨#[c]⟩) H
theorem DH:C1 X (JR X.K):=by
 intro value slice pins s σ H x y v u Q I rx ry h hs
 obtain⟨p,xs,i,z,rfl,rfl,hq,he,q⟩:=h
 cases rx
 obtain⟨t,rfl⟩:=ry
 obtain⟨ar,r,pl,hz⟩:=I.list hq
 obtain⟨j,h1,h2,h3,h4,h5⟩:=sD he
 obtain⟨w,ew,rw'⟩:=r.get h2
 have hl:=r.length
 have hn:=lV
 have fin:EP X pins σ Q w s:=⟨z,H,I,rw',q⟩
 by_cases h0:0≤i
 ·have hj:i.toNat=j:=by
   rw[seqIndex_of h0 h5] at h1
   exact U0 h1
  exact item_listR pl.isList h0 (by lia) (by rw[hj];simpa using ew) fin hs
 ·have hj:(i+(ar.toArray.size:Int)).toNat=j:=by
   rw[seqIndex_neg (by lia) h4] at h1
   rw[UC,←hl]
   exact U0 h1
  exact subscriptTail_builtinR (x:=w) pl.isList.typeIs slot_list_getitem.lookup
   (wpAny_getItem_list_neg (Q:=fun r s'=>r=w∧EP X pins σ Q r s') pl.isList (by lia) (by rw[UC]<;>lia) (by lia) (by rw[hj];simpa using ew) ⟨rfl,fin⟩) hs
theorem Hh:C1 X (JS X.K):=by
 intro value slice pins s σ H x y v u Q I rx ry h hs
 obtain⟨p,xs,i,z,rfl,rfl,hq,he,q⟩:=h
 cases rx
 obtain⟨t,rfl⟩:=ry
 obtain⟨ar,r,pl,hz⟩:=I.tuple hq
 obtain⟨j,h1,h2,h3,h4,h5⟩:=sD he
 obtain⟨w,ew,rw'⟩:=r.get h2
 have hl:=r.length
 have hn:=lV
 have fin:EP X pins σ Q w s:=⟨z,H,I,rw',q⟩
 exact subscriptTail_builtinR (x:=w) pl.typeIs slot_tuple_getitem.lookup
  (getItem_tuple (j:=j) (Q:=fun r s'=>r=w∧EP X pins σ Q r s') pl (by lia) (by lia) (by rw[UC,←hl];exact h1) (by simpa using ew) ⟨rfl,fin⟩) hs
theorem Hi:C1 X JT:=by
 intro value slice pins s σ H x y v u Q I rx ry h hs
 obtain⟨z,i,c,rfl,rfl,hz,he,q⟩:=h
 obtain⟨t,rfl⟩:=rx
 obtain⟨t',rfl⟩:=ry
 obtain⟨j,h1,h2,h3,h4,h5⟩:=sD he
 have hl:z.cps.toList.length=z.length:=by simp[Str.length]
 rw[hl] at h1 h4 h5
 have hn:=lV
 exact tail_any (typeIs_str s z t) slot_str_getitem.lookup (getItem_str (c:=c) (by
  have e1:decide (i < -(2 ^ 63:Int))=false:=decide_eq_false (by lia)
  have e2:decide (i≥2 ^ 63)=false:=decide_eq_false (by lia)
  rw[e1,e2,Bool.or_false]) (by rw[h1];simpa using h2) ⟨.str ⟨#[c]⟩,H,I.tok _,⟨_,rfl⟩,q⟩) hs
noncomputable def P8 (K:UB):R2:=fun x y H Q=>JR K x y H Q∨JS K x y H Q∨JT x y H Q
theorem aQ:C1 X (P8 X.K):=DH.or (Hh.or Hi)
theorem v5 (ar:List Uz)(n j:Nat)(u:Uz):XB (·.setIfInBounds j u) {cls:=.type "list",data:=.seq ar.toArray n}={cls:=.type "list",data:=.seq (ar.set j u).toArray n}:=by
 simp[XB]
theorem aF.lst {p:UY}(I:aF X pins σ H s)(h:H p=some (.lst xs)) :
  ∃(ar:List Uz) (n:Nat),aU xs ar∧s.heap.get? p=some {cls:=.type "list",data:=.seq ar.toArray n}∧xs.length≤UA:=by
 obtain⟨z,ar,n,r,e⟩:=I.hok p _ h
 exact⟨ar,n,r,e,z⟩
theorem aF.lstUpd {p:UY}{ys:List V}{its':List Uz}{n':Nat}{f:Obj→Obj}(I:aF X pins σ H s)(h:H p=some (.lst xs))(ho:s.heap.get? p=some {cls:=.type "list",data:=.seq ar.toArray n})(hf:f {cls:=.type "list",data:=.seq ar.toArray n}={cls:=.type "list",data:=.seq its'.toArray n'})(r:aU ys its')(hz:ys.length≤UA)(t:Nat) :
  aF X pins σ (eB H p (.lst ys)) {s with heap:=s.heap.update p f,toks:=t}:=by
 have e:(s.heap.update p f).get? p=some {cls:=.type "list",data:=.seq its'.toArray n'}:=by
  rw[WX f ho (by rw[hf]<;>rfl),hf]
 refine I.write (x:=p) (e:=p) (by rw[h];trivial) (.inl rfl) (fun b u hb q=>(Heap.get?_update_other _ _ (Ne.symm hb)).trans q) ⟨_,e⟩ ?_
 exact⟨hz,its',n',r,e⟩
noncomputable def JU:V→V→V→Hp→(Hp→Prop)→Prop:=fun o i v H Q=>∃p xs k j,o=.ref p∧i=.int k∧H p=some (.lst xs)∧zP xs.length k=some j∧Q (eB H p (.lst (xs.set j v)))
theorem An:JA X JU:=by
 intro pins s σ H o i v ov iv u Q I ro ri rv h
 obtain⟨p,xs,k,j,rfl,rfl,hp,hj,q⟩:=h
 cases ro
 obtain⟨t,rfl⟩:=ri
 obtain⟨ar,n,r,ho,hz⟩:=I.lst hp
 obtain⟨h1,h2,h3,h4⟩:=xl hj
 have hl:=r.length
 have hn:=lV
 have I':aF X pins σ (eB H p (.lst (xs.set j v))) {s with heap:=s.heap.update p (XB (·.setIfInBounds j u))} :=
  I.lstUpd hp ho (v5 ar n j u) (r.set rv j) (by rw[Wo];exact hz) s.toks
 by_cases h0:0≤k
 ·have hk:k.toNat=j:=by
   rw[seqIndex_of h0 h4] at h1
   exact U0 h1
  exact PySem.W.ki_setAt ho h0 (by lia) (by rw[UC,←hl];exact h4) (by rw[hk];exact⟨_,I',q⟩)
 ·have hk:(k+(ar.toArray.size:Int)).toNat=j:=by
   rw[seqIndex_neg (by lia) h3] at h1
   rw[UC,←hl]
   exact U0 h1
  exact PySem.W.ki_setBack ho (by lia) (by rw[UC,←hl];exact h3) (by lia) (by rw[hk];exact⟨_,I',q⟩)
theorem sE (lo hi:Option Int)(n:Nat):(Yl lo hi none n).1=((HT.sIx n 0 lo:Nat):Int)∧(Yl lo hi none n).2.1=((HT.sIx n n hi:Nat):Int)∧(Yl lo hi none n).2.2=1:=by
 refine⟨?_,?_,rfl⟩
 ·cases lo with
  |none=>simp[Yl,HT.sIx]
  |some i =>
   simp only[Yl,HT.sIx,YD,show (1:Int)>0 by decide,if_true]
   by_cases h:i<0
   ·simp only[h,if_true]<;>lia
   ·simp only[h,if_false]<;>lia
 ·cases hi with
  |none=>simp[Yl,HT.sIx]
  |some i =>
   simp only[Yl,HT.sIx,YD,show (1:Int)>0 by decide,if_true]
   by_cases h:i<0
   ·simp only[h,if_true]<;>lia
   ·simp only[h,if_false]<;>lia
theorem qC (ar:List Uz)(lo hi:Option Int):slicePick ar.toArray lo hi none=((ar.drop (HT.sIx ar.length 0 lo)).take (HT.sIx ar.length ar.length hi - HT.sIx ar.length 0 lo)).toArray:=by
 obtain⟨h1,h2,h3⟩:=sE lo hi ar.toArray.size
 unfold slicePick
 rw[h1,h2,h3]
 simp only[sliceRange_one,pick_run,UC]<;>rfl
noncomputable def DJ (K:UB):V→Option Int→Option Int→Hp→VK→Prop:=fun x lo hi H Q=>∃a xs,x=.ref a∧fq K H a xs∧∀p,H p=none→Q (.ref p) (eB H p (.lst (oT xs lo hi)))
theorem DK:Al X (DJ X.K):=by
 intro pins s σ H x v vl vu lo hi sl Q I rx hs pl pu h
 obtain⟨a,xs,rfl,hx,q⟩:=h
 cases rx
 obtain⟨ar,r,ht,hz⟩:=I.list hx
 have cY:=r.length
 refine⟨"list",_,slot_list_getitem.lookup,ht.isList.typeIs,?_⟩
 refine wpAny_getItem_list_slice ht.isList hs pl pu .none (by simp) ?_ (by rw[UC]<;>lia)
 rw[qC,←cY]
 refine⟨.ref s.heap.objs.size,_,I.laid (t':=s.toks) (o:=.lst (oT xs lo hi)) (fun b ob q=>Uy _ q) (UK _) ?_,rfl,q _ (I.hok.fresh (UK _))⟩
 exact⟨VC (mR xs lo hi) hz,_,0,(r.drop (HT.sIx xs.length 0 lo)).take (HT.sIx xs.length xs.length hi - HT.sIx xs.length 0 lo),UN _ rfl⟩
theorem ba:eM X (.type "tuple") (fun xs H Q=>∃p ys,xs=[.ref p]∧((fq X.K H p ys∧∀l,H l=none→Q (.ref l) (eB H l (.tup ys)))∨(gT X.K H p ys∧Q (.ref p) H))):=by
 intro pins s σ H xs us Q I r h
 obtain⟨p,ys,rfl,h⟩:=h
 obtain⟨u,rfl,rx⟩:=iA r
 cases rx
 rcases h with⟨hq,q⟩|⟨hq,q⟩
 ·obtain⟨ar,r',pl,hz⟩:=I.list hq
  have cY:=r'.length
  refine call_tuple_list pl.isList (fun h' kp => ?_) (by simp only[UC]<;>lia)
  have I1:aF X pins σ H {s with heap:=h'}:=I.kept (t':=s.toks) kp
  have I2:aF X pins σ (eB H h'.objs.size (.tup ys)) {s with heap:=h'.push {cls:=.type "tuple",data:=.seq ar.toArray}} :=
   I1.laid (t':=s.toks) (fun b o e=>Uy _ e) (UK _) (show cU X.prog X.w _ _ _ (.tup ys) from ⟨hz,ar,r',IsTup.new _ _,_,UN _ rfl⟩)
  exact⟨.ref h'.objs.size,_,I2,rfl,q _ (I1.hok.fresh (UK _))⟩
 ·obtain⟨ar,r',pl,hz⟩:=I.tuple hq
  exact call_tuple_same pl ⟨.ref p,H,I,rfl,q⟩
noncomputable def MJ (K:UB)(T:String)(x:V)(H:Hp):Prop:=match x with
 | .str _=>T="str"
 | .int _=>T="int"
 | .ref p=>(T="list"∧∃xs,fq K H p xs)∨(T="tuple"∧((∃o,K.lookup p=some o∧o.cls=.type "tuple"∧o.dict=none)∨∃xs,H p=some (.tup xs))) ∨
   (T="dict"∧((∃gg,H p=some (.dK gg))∨∃gg,H p=some (.dT gg)))∨(T="set"∧∃S n,H p=some (.set S n))
 |_=>False
theorem Hj {T:String}{x:V}{v:Uz}(I:aF X pins σ H s)(r:bN x v)(ty:MJ X.K T x H) :
  s.TypeIs v T∧∀a,v=.ref a→∃ob,s.heap.get? a=some ob∧ob.dict=none:=by
 cases x with
 |str z =>
  obtain⟨t,rfl⟩:=r
  cases (show T="str" from ty)
  exact⟨typeIs_str s z t,fun _ e=>nomatch e⟩
 |int i =>
  obtain⟨t,rfl⟩:=r
  cases (show T="int" from ty)
  exact⟨typeIs_int s i t,fun _ e=>nomatch e⟩
 |ref p =>
  cases r
  rcases ty with⟨rfl,xs,hq⟩|⟨rfl,⟨o,hk,hc,hd⟩|⟨xs,hq⟩⟩|⟨rfl,hk⟩|⟨rfl,S,n,hk⟩
  ·obtain⟨ar,_,pl,_⟩:=I.list hq
   refine⟨pl.isList.typeIs,fun a e => ?_⟩
   cases e
   obtain⟨o,n,e,c,hd,_⟩:=pl
   exact⟨o,e,hd⟩
  ·refine⟨⟨o,I.kIn p o hk,hc⟩,fun a e => ?_⟩
   cases e
   exact⟨o,I.kIn _ o hk,hd⟩
  ·obtain⟨_,ar,_,⟨o,e,c,_⟩,n2,e2⟩:=I.hok p _ hq
   refine⟨⟨o,e,c⟩,fun a e' => ?_⟩
   cases e'
   exact⟨_,e2,rfl⟩
  ·have z:∃o,s.heap.get? p=some o∧o.ExactDict:=by
    rcases hk with⟨gg,hk⟩|⟨gg,hk⟩
    ·obtain⟨_,_,_,_,o,_,_,e,ex,_⟩:=I.hok p _ hk
     exact⟨o,e,ex⟩
    ·obtain⟨_,_,_,_,o,_,_,e,ex,_⟩:=I.hok p _ hk
     exact⟨o,e,ex⟩
   obtain⟨o,e,ex⟩:=z
   refine⟨⟨o,e,ex.1⟩,fun a e2 => ?_⟩
   cases e2
   exact⟨o,e,ex.2.1⟩
  ·obtain⟨o,_,_,_,e,ex,_⟩:=I.hok p _ hk
   refine⟨⟨o,e,ex.1⟩,fun a e2 => ?_⟩
   cases e2
   exact⟨o,e,ex.2.1⟩
 |_=>exact Xz ty
noncomputable def P9 (K:UB)(T:String)(r:V→List V→Hp→VK→Prop)(to:TE)(t:TA):TE:=fun σ H Q=>to σ H fun x H1=>MJ K T x H1∧t σ H1 fun xs H2=>r x xs H2 Q
variable {o e:WI}{es:List WI}{to:TE}{t:TA}{name:Str}{vM cpos:Pos}{T id:String}{r:V→List V→Hp→VK→Prop}
theorem JV (pa:PlainAttrs T)(slot:Slot T name id)(Nw:typeOf (.builtin id)=pure (.type "method_descriptor"))(hm:Fd X id r)(ho:PE X o to)(ha:PA X (e::es) t)
  (CM:attributeBase o name X.env (Yg o X.env)=Yg o X.env:=by rfl)
  (IM:((XF cpos (UX (e::es) X.env)).all (fun x => !x.1)&&(backToKw cpos (keywordEach [] X.env)).all (fun x=>x.1.isSome)
   && decide ((e::es).length+([]:List Keyword).length+(if ([]:List Keyword).isEmpty then 0 else 1)<30))=true:=by rfl)
  (CN:(vM.endLine==cpos.line)=true:=by rfl) (hs:UX (e::es) X.env=(false,Yg e X.env)::UX es X.env:=by rfl) (w9:(XF cpos (UX es X.env)).any (·.1)=false:=by rfl) :
  PE X (.Call (.Attribute o name vM) (e::es) [] cpos) (P9 X.K T r to t):=by
 intro pins s σ H Q I h
 refine wpAny_Call_method_late CM IM CN rfl (e_ (ho pins s σ H _ I h) fun v s1 ⟨x,H1,I1,r1,ty,q1⟩ => ?_)
 obtain⟨h1,h2⟩:=Hj I1 r1 ty
 refine⟨T,id,pa,slot,Nw,h1,h2,?_⟩
 have hA:=ha cpos pins s1 σ H1 _ I1 q1
 rw[hs] at hA ⊢
 refine Calls.callWith_builtin (by show (false||(XF cpos (UX es X.env)).any (·.1))=false;rw[w9]<;>rfl) (Calls.evalArgs_plain ?_)
 exact e_ hA fun us s2 ⟨vs,H2,I2,r2,q2⟩=>hm pins s2 σ H2 x vs v us Q I2 r1 r2 q2
end
end L2
namespace L2
noncomputable def MK (X:Cx)(id:String)(r:V→List V→Hp→VK→Prop):Prop :=
 ∀(pins:List (UY×Obj)) (s:UQ) (σ:St) (H:Hp) (x:V) (xs:List V) (v:Uz) (us:List Uz) (Q:VK),aF X pins σ H s→bN x v→aU xs us→r x xs H Q →
  U4 (Vf X.prog X.w) X.A (call (.builtin id) (v::us)) (EP X pins σ Q) X.xe s
theorem aU.one:∀{x:V} {us:List Uz},aU [x] us→∃u,us=[u]∧bN x u
 |_,_,.cons r .nil=>⟨_,rfl,r⟩
theorem aU.eraseIdx:∀{xs:List V} {us:List Uz} (i:Nat),aU xs us→aU (xs.eraseIdx i) (us.eraseIdx i)
 |_,_,_,.nil=>.nil
 |_,_,0,.cons _ t=>t
 |_,_,i+1,.cons r t=>.cons r (aU.eraseIdx i t)
theorem qX {α:Type}:∀(l:List α) (i:Nat),(l.eraseIdx i).length≤l.length
 | [],_=>UK _
 |_::_,0=>Nat.le_succ _
 |_::r,i+1=>Nat.succ_le_succ (qX r i)
section
variable {l:UY}{ys zs:List V}
theorem aF.lset {t':Nat}{its':List Uz}{f:Array Uz→Array Uz}(I:aF X pins σ H s)(hH:H l=some (.lst xs))(e:s.heap.get? l=some {cls:=.type "list",data:=.seq ar.toArray n})(hf:f ar.toArray=its'.toArray)(hv:aU ys its')(hz:ys.length≤UA) :
  aF X pins σ (eB H l (.lst ys)) {s with heap:=s.heap.update l (XB f),toks:=t'}:=by
 have q:=PySem.IsL.update e f
 rw[hf] at q
 refine I.write (x:=l) (e:=l) (by rw[hH];exact trivial) (.inl rfl) (fun b' u hb hu=>(Heap.get?_update_other s.heap (XB f) (Ne.symm hb)).trans hu) ⟨_,q⟩ ?_
 exact⟨hz,its',_,hv,q⟩
theorem aF.lnew {t':Nat}(I:aF X pins σ H s)(hv:aU ys ar)(hz:ys.length≤UA) :
  aF X pins σ (eB H s.heap.objs.size (.lst ys)) {s with heap:=s.heap.push {cls:=.type "list",data:=.seq ar.toArray},toks:=t'} :=
 I.laid (fun _ _ q=>Uy _ q) (UK _) ⟨hz,ar,0,hv,UN _ rfl⟩
theorem aF.fresh (I:aF X pins σ H s):H s.heap.objs.size=none:=I.hok.fresh (UK _)
theorem aF.lstM (I:aF X pins σ H s)(hH:H l=some (.lst xs)):xs.length≤UA∧∃(ar:List Uz) (n:Nat),aU xs ar∧xs.length=ar.length∧s.heap.get? l=some {cls:=.type "list",data:=.seq ar.toArray n}:=by
 obtain⟨z,ar,n,r,e⟩:=I.hok l _ hH
 exact⟨z,ar,n,r,r.length,e⟩
theorem oU (h:n≤UA):Xf n=false:=by
 unfold Xf
 exact decide_eq_false (by lia)
end
noncomputable def xn:V→List V→Hp→VK→Prop:=fun x vs H Q=>∃l xs y,x=.ref l∧vs=[y]∧H l=some (.lst xs)∧xs.length<UA∧Q .non (eB H l (.lst (xs++[y])))
theorem yZ:MK X "list.append" xn:=by
 intro pins s σ H x vs v us Q I rx rv h
 obtain⟨l,xs,y,rfl,rfl,hH,hz,q⟩:=h
 cases rx
 obtain⟨u,rfl,ru⟩:=rv.one
 obtain⟨z,ar,n,r,hl,e⟩:=I.lstM hH
 refine Zn F.slot_list_append ⟨_,e,rfl⟩ F.entry_list_append (F.args_list_append_2 _ _) (PySem.list_append l ar.toArray n u (by rw[UC];lia)) ⟨e,?_⟩
 refine⟨.non,_,I.lset (its':=ar++[u]) hH e (by simp) (r.append (.cons ru .nil)) ?_,rfl,q⟩
 rw[UH,WY]
 lia
noncomputable def Ao:V→List V→Hp→VK→Prop:=fun x vs H Q=>∃l xs i k y,x=.ref l∧vs=[.int i]∧H l=some (.lst xs) ∧ -(2 ^ 63)≤i∧i<2 ^ 63∧Zm i xs.length=some k∧xs[k]? = some y∧Q y (eB H l (.lst (xs.eraseIdx k)))
theorem Ap:MK X "list.pop" Ao:=by
 intro pins s σ H x vs v us Q I rx rv h
 obtain⟨l,xs,i,k,y,rfl,rfl,hH,h1,h2,hk,hy,q⟩:=h
 cases rx
 obtain⟨u,rfl,ru⟩:=rv.one
 obtain⟨t,rfl⟩:=ru
 obtain⟨z,ar,n,r,hl,e⟩:=I.lstM hH
 obtain⟨w,hw,rw'⟩:=r.get hy
 refine Zn F.slot_list_pop ⟨_,e,rfl⟩ F.entry_list_pop (F.args_list_pop_2 _ _)
  (MeetsSeq.list_pop_at l ar.toArray n i t k w (fitsIndex_both h1 h2) (by rw[UC,←hl];exact hk) (by rw[←U_];exact hw) (by rw[UC];lia)) ⟨e,?_⟩
 refine⟨y,_,I.lset (its':=ar.eraseIdx k) hH e ?_ (r.eraseIdx k) ?_,rw',q⟩
 ·show ar.toArray.eraseIdxIfInBounds k=(ar.eraseIdx k).toArray
  rw[List.eraseIdxIfInBounds_toArray]
 ·have:=qX xs k
  lia
section
variable {A:VE}
set_option maxRecDepth 100000 in
end
end L2
namespace Att
open PySem.W PySem.Calls
theorem nW {P:Params}:∀(ns:List Int) (vs:List Uz),WellAll P h vs (ns.map WData.int)→W8 vs ns:=by
 intro ns
 induction ns with
 |nil =>
  intro vs w
  rw[WW] at w
  cases w
  exact .nil
 |cons n ns ih =>
  intro vs w
  rw[UT] at w
  cases w with
  |cons a b =>
   cases a
   exact .cons _ _ (ih _ b)
theorem y3 {l:OpenLaw}(hn:l.most=some n){P:Params}{args:List WData}{IP:List Uz}(E2:l.row.toRowW.claim.pre args=true)(Ny:WellAll P h IP args) :
  ∃a vs ns,IP=[Value.ref a]∧args=[WData.list (ns.map WData.int)]∧h.get? a=some {cls:=.type "list",data:=.seq vs.toArray}∧W8 vs ns∧ns.length≤n:=by
 have RA:WShape.hasAll [] args [.list .int]=true:=(pre_splitW E2).1
 have hc:l.pre.holds [] {args:=args}=true:=(pre_splitW E2).2
 obtain⟨d,r,rfl,h1,h2⟩:=hasAllW_cons RA
 obtain rfl:=hasAllW_nil h2
 obtain⟨xs,rfl,h3⟩:=hasW_list h1
 obtain⟨ns,rfl⟩:=items_int h3
 have cY:ns.length≤n:=by
  unfold OpenLaw.pre at hc
  have h4:(WTm.not (.lt (.lit (.int (n:Int))) (.len (.arg 0)))).holds [] {args:=[.list (ns.map .int)]}=true:=by
   have h4:=(holds_andW hc).1
   rw[hn] at h4
   exact h4
  have h5:=condW_of h4 (w_not (w_lt w_lit (w_len_list (w_arg rfl))))
  rw[Ux] at h5
  refine Nat.le_of_not_lt fun q => ?_
  have q':(n:Int)<((ns.length:Nat):Int):=by lia
  first
   | (rw[decide_eq_true q'] at h5;exact absurd h5 (by decide))
   | (simp at h5;lia)
 cases Ny with
 |cons w1 w2 =>
  cases w2
  cases w1 with
  |list ho hall=>exact⟨_,_,ns,rfl,rfl,ho,nW ns _ hall,cY⟩
theorem y4 (l:OpenLaw)(args:List WData):l.row.toRowW.claim.post args (.bool true) args=true :=
 postW_of (r:=l.row.toRowW) (X:=(true==true))
  (show WShape.has [] (.bool true) .bool=true by first|rfl|decide|simp[WShape.has,WShape.arms,WShape.armsAll])
  (show (WTm.eq .res (.lit (.bool true))).value [] {args:=args,res:=some (.bool true),after:=args}=some (.bool (true==true)) from w_eq_bool (w_res rfl) w_lit) rfl
theorem attach_call {l:OpenLaw}{q:XI}{d:DefRec}(hn:l.most=some n)(K5:d.params.defaults=[])(call:∀(w:Xx) (s₀ s₁:UQ) (mg mb:Str→Option Uz) (fa:UY) (o:Obj) (pm cd eR:Uz) (a:UY) (vs:List Uz) (ns:List Int),
   Ground q loose [] XP w s₀ mg mb s₁.heap→YP w s₁.heap →
   s₁.heap.get? fa=some o→o.data=.func (docDef d.name d.params d.body d.scope pm cd eR)→s₁.heap.CodeRec cd d.name→mg d.name=some (.ref fa) →
   s₁.heap.get? a=some {cls:=.type "list",data:=.seq vs.toArray}→W8 vs ns→ns.length≤n→s₁.gens=#[] →
   codeAny (Vf l.prog w) callerA (.call (.ref fa) ⟨[.ref a],[]⟩) (fun r s'=>r=.ok (.ret (.bool true))∧OldK s₁.heap s'.heap∧s'.os=s₁.os∧AllBare s'.gens) s₁) :
  WalkO q loose XP YP l.row.toRowW d [] (fun f vs=>PySem.call f vs):=by
 intro w s₀ s₁ mg mb G Y fa o pm cd eR dV kV ho hd qv hD K6 hg args IP as E2 RB Ui Ny Uj
 obtain rfl:dV=.none:=Dflts.none hD K5
 obtain rfl:kV=.none:=Dflts.noKw hD
 obtain⟨a,vs,ns,rfl,rfl,IQ,CO,cY⟩:=y3 hn E2 Ny
 refine enter_call (Yz (call w s₀ s₁ mg mb fa o pm cd eR a vs ns G Y ho (fd_plain hd) qv K6 IQ CO cY hg) fun r s' hq => ?_)
 obtain⟨rfl,h2,h3,h4⟩:=hq
 exact⟨.inl ⟨.bool true,.bool true,[],rfl,fun _=>rfl,.bool true,y4 l _,fun _=>⟨List.Pairwise.nil,fun _ hm=>(nomatch hm)⟩⟩,h2,h3,h4⟩
end Att
namespace L2
theorem qY:∀{vs:List Uz} {ns:List Int},W8 vs ns→aU (ns.map V.int) vs
 |_,_,.nil=>.nil
 |_,_,.cons n t h=>.cons ⟨t,rfl⟩ (qY h)
noncomputable def DL (H:Hp):Prop:=∀b,H b=none∨∃o xs,H b=some (.frz o (.lst xs))
theorem Aq {mb:Str→Option Uz}{fa:UY}{s₁:UQ}{vs:List Uz}(KX:K.In s₁.heap)(Qv:s₁.heap.Ns U3 mg)(hb:s₁.heap.Ns builtinsNs mb)(RC:∀x:Str,x≠"__name__"→mb x=Vs x)(Nz:s₁.heap.NoLimit)(hg:s₁.gens=#[])(ha:s₁.heap.get? a=some {cls:=.type "list",data:=.seq vs.toArray})(hi:W8 vs ns)(hl:ns.length≤UA)(hr:fv k callerA)(F:∀base:Xi,K.In base→base.Ns U3 mg→jL P w K mg base CX k fa fd [x] sp)(K7:∀(s:UQ) (u:Uz),BindsTo s fd ⟨[u],[]⟩ [(x,u)])(Gz:∀H:Hp,DL H→fq K H a (ns.map V.int)→sp [.ref a] H (fun v _=>v=.bl true) fun _ _ _=>False)(NA:∀H e s',CX [] H s₁ (fun _ _ _=>False) e s'→False) :
  codeAny (Vf P w) callerA (.call (.ref fa) ⟨[.ref a],[]⟩) (fun r s'=>r=.ok (.ret (.bool true))∧OldK s₁.heap s'.heap∧s'.os=s₁.os∧AllBare s'.gens) s₁:=by
 have rv:=qY hi
 have NB:=hi.length
 have K8:∀H:Hp,DL H→fq K H a (ns.map V.int)→lT P w H s₁.heap→(∀b,H b≠none→b=a)→(H a≠none→K.lookup a=none) →
   codeAny (Vf P w) callerA (.call (.ref fa) ⟨[.ref a],[]⟩) (fun r s'=>r=.ok (.ret (.bool true))∧OldK s₁.heap s'.heap∧s'.os=s₁.os∧AllBare s'.gens) s₁:=by
  intro H hO hS hok hA hK
  have yL:∀{b:UY} {o:Obj},s₁.heap.get? b=some o→H b=none→(su s₁.heap H).get? b=some o:=fun e n=>zX e n
  have K3:∀{b:UY} {o:Obj} {es:Array DictEntry} {ep:Nat},s₁.heap.get? b=some o→o.data=.dict es ep→H b=none:=fun {b o es ep} e d=>by
   cases q:H b with
   |none=>rfl
   |some u =>
    have e':b=a:=hA b (by rw[q];simp)
    subst e'
    rw[ha] at e;cases e
    have d':Data.seq vs.toArray _=Data.dict es ep:=d
    cases d'
  have L5:∀{b:UY} {m:Str→Option Uz},s₁.heap.Ns b m→(su s₁.heap H).Ns b m:=fun {b m} ⟨o,es,ep,e,d,r⟩=>⟨o,es,ep,yL e (K3 e d),d,r⟩
  have Qw:K.In (su s₁.heap H):=fun b o e=>yL (KX b o e) (by
   cases q:H b with
   |none=>rfl
   |some u =>
    have e':b=a:=hA b (by rw[q];simp)
    subst e'
    rw[hK (by rw[q];simp)] at e;cases e)
  have hM:Mod K mg (su s₁.heap H):=⟨Qw,L5 Qv,⟨mb,L5 hb,RC⟩,let ⟨mc,h1,h2⟩:=Nz;⟨mc,L5 h1,h2⟩⟩
  have e0:Dz P w K mg (su s₁.heap H) callerA [] s₁ H:=⟨rfl,hM,fun b o e=>Dh e,Nat.le_of_eq (yP _ _),trivial,fun b hb=>absurd (show b∈([]:List UY) from hb) (by simp),hok,.of_eq hg⟩
  refine Yz ((F _ Qw (L5 Qv)).run callerA [] s₁ H ⟨[.ref a],[]⟩ [.ref a] [.ref a] _ _ hr e0 (K7 s₁ (.ref a)) (.cons rfl .nil) (Gz H hO hS)) fun r s' h => ?_
  cases r with
  |error e=>exact (NA H e s' h).elim
  |ok fl =>
   cases fl with
   |next=>exact Xz h
   |brk=>exact Xz h
   |cont=>exact Xz h
   |ret u =>
    obtain⟨v,H',os,bare,un,hok',r',q⟩:=h
    have q':v=.bl true:=q
    subst q'
    obtain rfl:u=Value.bool true:=r'
    refine⟨rfl,OldK.of_keep fun b o e => ?_,os,bare⟩
    cases q:H b with
    |none=>exact un.keep b o e q (by intro z;exact absurd (show b∈([]:List UY) from z) (by simp)) (by simp)
    |some u =>
     rcases hO b with z|⟨ob,xs,z⟩
     ·rw[q] at z;cases z
     ·have z2:=un.frzs b ob _ z
      obtain⟨e1,_⟩:=hok b _ z
      obtain⟨e2,_⟩:=hok' b _ z2
      rw[e] at e1;cases e1
      exact e2
 cases hk:K.lookup a with
 |some o =>
  have e:=KX a o hk
  rw[ha] at e
  cases e
  refine K8 (fun _=>none) (fun _=>.inl rfl) (.inr ⟨_,vs.toArray,_,hk,rfl,rfl,rfl,by rw[UC,NB];exact hl,by simpa using rv⟩) (fun b u z=>by have z':(none:Option HO)=some u:=z;cases z') (fun b z=>absurd rfl z) fun z=>absurd rfl z
 |none =>
  refine K8 (fun b=>if b=a then some (.frz {cls:=.type "list",data:=.seq vs.toArray} (.lst (ns.map V.int))) else none) (fun b => ?_) (.inl (.inr ⟨{cls:=.type "list",data:=.seq vs.toArray},if_pos rfl⟩)) (fun b u z => ?_) (fun b z => ?_) fun _=>hk
  ·by_cases hb:b=a
   ·exact .inr ⟨_,_,if_pos hb⟩
   ·exact .inl (if_neg hb)
  ·by_cases hb:b=a
   ·have z':=(if_pos hb).symm.trans z
    cases z'
    subst hb
    exact⟨ha,by rw[Ux];exact hl,vs,_,rv,ha⟩
   ·have z':=(if_neg hb).symm.trans z
    cases z'
  ·by_cases hb:b=a
   ·exact hb
   ·exact absurd (if_neg hb) z
end L2
namespace L2
theorem walk_of {l:PySem.W.OpenLaw}{q:XI}{d:DefRec}{K:Params→UB}{CX:Xx→CXT}{sp:Xx→Sp}(hn:l.most=some n)(GB:n≤UA)(K5:d.params.defaults=[])(hr:fv k callerA)(hY:∀(w:Xx) (h:Xi),YP w h→(K w.params).In h)(F:∀(w:Xx) (mg:Str→Option Uz) (fa:UY) (h:Xi),(K w.params).In h→h.Ns U3 mg→mg d.name=some (.ref fa) →
   ∃fd:YJ,(∀(s:UQ) (u:Uz),BindsTo s fd ⟨[u],[]⟩ [(x,u)]) ∧
    ∀base:Xi,(K w.params).In base→base.Ns U3 mg→jL l.prog w (K w.params) mg base (CX w) k fa fd [x] (sp w))(Gz:∀(w:Xx) (H:Hp) (a:UY) (ns:List Int),ns.length≤n→DL H→fq (K w.params) H a (ns.map V.int)→sp w [.ref a] H (fun v _=>v=.bl true) fun _ _ _=>False)(NA:∀(w:Xx) (H:Hp) (s:UQ) (e:Uz) (s':UQ),CX w [] H s (fun _ _ _=>False) e s'→False) :
  PySem.W.WalkO q loose XP YP l.row.toRowW d [] (fun f vs=>PySem.call f vs):=by
 refine Att.attach_call hn K5 fun w s₀ s₁ mg mb fa o pm cd eR a vs ns G Y ho hd qv K6 IQ CO cY hg => ?_
 have KX:=hY w _ Y
 obtain⟨fd,hb,hF⟩:=F w mg fa _ KX G.T.g K6
 exact Aq KX G.T.g G.T.b G.T.builtins G.T.nolimit hg IQ CO (VC cY GB) hr hF hb (fun H hO hS=>Gz w H a ns cY hO hS) fun H e s'=>NA w H s₁ e s'
end L2
namespace L2
noncomputable def aD (s:Stmt):Arguments:=match s with
 | .FunctionDef _ a _ _ _ _ _ _ _ _=>a
 |_=>{posonlyargs:=[],args:=[],vararg:=none,kwonlyargs:=[],kw_defaults:=[],kwarg:=none,defaults:=[]}
noncomputable def az (s:Stmt):List Stmt:=match s with
 | .FunctionDef _ _ b _ _ _ _ _ _ _=>b
 |_=>[]
noncomputable def ah (s:Stmt):Zi:=match s with
 | .FunctionDef _ _ _ _ _ _ sc _ _ _=>sc
 |_=>{kind:=.function,names:=[],isGenerator:=false,isCoroutine:=false}
noncomputable abbrev uj:CXT:=fun _ _ _ _ _ _=>False
noncomputable abbrev E0:XK:=fun _ _ _=>False
theorem JW:vY uj X E0:=fun _ _ _ _ _ _ _ h=>h.elim
structure C2 (K:UB)(x qual:Str)(st:Stmt)(f:UY)(fd:YJ):Prop where
 ex:∃(oc:Uz) (od:Option UY) (kV eR pm:Uz) (an:Option UY) (bD ct:Uz) (Gy:Array (Option Uz)),
  fd=US x qual (aD st) (az st) (ah st) .none kV eR pm an bD ct∧K.lookup f=some ⟨oc,od,.func fd,Gy⟩∧Vn K bD qual=true
 kp:Vd K (.ref f)=true
section
variable {base:Xi}
theorem C2.ok (F:C2 K x qual st f fd)(S:bq N ps (ah st))(len:∀vs H Q E,sp vs H Q E→vs.length=ps.length)(gH:∀(bD:Uz) (A:VE) (outer:List Env) (s:UQ) (H:Hp) (vs:List V) (Q:VK) (E:XK),fv k (A.deeper (Y8 qual (ah st) s.heap.objs.size f bD))→sp vs H Q E →
   ∃t,sv (nV uj P w K mg base N qual (ah st) f bD A outer s H E).nox (az st) t∧t {nx:=fun _ H'=>Q .non H',rt:=Q} (X2 N vs) H):jL P w K mg base uj (k+1) f fd ps sp:=by
 obtain⟨oc,od,kV,eR,pm,an,bD,ct,Gy,rfl,lk,qv⟩:=F.ex
 refine JM lk qv S len fun A outer s H vs Q E hr Gz => ?_
 obtain⟨t,h,q⟩:=gH bD A outer s H vs Q E hr Gz
 exact⟨t,h.nox,q⟩
theorem C2.binds (F:C2 K x qual st f fd)(h:∀(kV eR pm:Uz) (an:Option UY) (bD ct:Uz) (us:List Uz),us.length=ps.length→Wm (US x qual (aD st) (az st) (ah st) .none kV eR pm an bD ct) ⟨us,[]⟩=pure (ps.zip us)):qS K fd ps []:=by
 obtain⟨oc,od,kV,eR,pm,an,bD,ct,Gy,rfl,lk,qv⟩:=F.ex
 exact .all (h kV eR pm an bD ct)
theorem dc {oc:Uz}{od an:Option UY}{Gy:Array (Option Uz)}{kV eR pm bD ct:Uz}(l:K.lookup f=some ⟨oc,od,.func (US x qual (aD st) (az st) (ah st) .none kV eR pm an bD ct),Gy⟩)(c:Vn K bD qual=true)(k:Vd K (.ref f)=true):C2 K x qual st f (US x qual (aD st) (az st) (ah st) .none kV eR pm an bD ct):=⟨⟨oc,od,kV,eR,pm,an,bD,ct,Gy,rfl,l,c⟩,k⟩
end
theorem de {A:VE}(hr:fv k A):A.units+1<Xu:=X7 (Nat.add_le_add_left (by decide:1≤64) _) hr.units
noncomputable def aM (H H':Hp):Prop:=∀b o,H b=some o→H' b=some o
theorem aM.refl (H:Hp):aM H H:=fun _ _ h=>h
theorem aM.trans (a:aM H H1)(b:aM H1 H2):aM H H2:=fun c o h=>b c o (a c o h)
theorem aM.seq (e:aM H H')(h:fq K H a xs):fq K H' a xs:=by
 rcases h with (h|⟨o,h⟩)|h
 ·exact .inl (.inl (e _ _ h))
 ·exact .inl (.inr ⟨o,e _ _ h⟩)
 ·exact .inr h
end L2
namespace L2
theorem v7 {env:Env}(hf:∀x,(x,NameKind.free)∈scope.names→∃c,env.cells.lookup x=some c) :
  ∃cl:List (Str×UY),closureFor scope env=pure cl∧(∀x c,cl.lookup x=some c→env.cells.lookup x=some c)∧∀x,(x,NameKind.free)∈scope.names→∃c,cl.lookup x=some c:=by
 have gen:∀(names:List (Str×Zx)) (cs:List (Str×UY)),(∀x,(x,NameKind.free)∈names→∃c,env.cells.lookup x=some c)→(∀x c,cs.lookup x=some c→env.cells.lookup x=some c) →
   ∃cl:List (Str×UY),(forIn names cs fun (x:Str×Zx) (r:List (Str×UY))=>(match x with|(name,kind)=>if (kind==NameKind.free)=true then (do let a ←cellOf env name;pure (ForInStep.yield ((name,a)::r))) else pure (ForInStep.yield r):Sem (ForInStep (List (Str×UY)))))=(pure cl:Sem _) ∧
    (∀x c,cl.lookup x=some c→env.cells.lookup x=some c)∧(∀x c,cs.lookup x=some c→∃c',cl.lookup x=some c')∧∀x,(x,NameKind.free)∈names→∃c,cl.lookup x=some c:=by
  intro names
  induction names with
  |nil=>intro cs _ h;exact⟨cs,rfl,h,fun x c e=>⟨c,e⟩,fun x hx=>absurd hx (by simp)⟩
  |cons p r ih =>
   intro cs hn h
   obtain⟨n,k⟩:=p
   by_cases hk:k=NameKind.free
   ·subst hk
    obtain⟨c,hc⟩:=hn n UL
    have h':∀x c',((n,c)::cs).lookup x=some c'→env.cells.lookup x=some c':=fun x c' e=>by
     rw[VS] at e
     by_cases hx:x==n
     ·rw[hx] at e
      have:x=n:=by simpa using hx
      subst this
      cases e
      exact hc
     ·rw[XC.mpr hx] at e
      exact h x c' e
    obtain⟨cl,e1,e2,e3,e4⟩:=ih ((n,c)::cs) (fun x hx=>hn x (UM _ hx)) h'
    refine⟨cl,?_,e2,fun x c' e => ?_,fun x hx => ?_⟩
    ·rw[X8]
     have:cellOf env n=pure c:=by unfold cellOf;rw[hc]
     simp only[beq_self_eq_true,if_true,this]
     exact e1
    ·by_cases hx:x=n
     ·subst hx
      exact e3 x c (by rw[VS];simp)
     ·exact e3 x c' (by rw[VS,show (x==n)=false from by simpa using hx];exact e)
    ·rcases UU.mp hx with e|hx
     ·cases e
      exact e3 n c (by rw[VS];simp)
     ·exact e4 x hx
   ·obtain⟨cl,e1,e2,e3,e4⟩:=ih cs (fun x hx=>hn x (UM _ hx)) h
    refine⟨cl,?_,e2,e3,fun x hx => ?_⟩
    ·rw[X8]
     have:(k==NameKind.free)=false:=by simpa using hk
     simp only[this,Vi,if_false]
     exact e1
    ·rcases UU.mp hx with e|hx
     ·cases e
      exact absurd rfl hk
     ·exact e4 x hx
 obtain⟨cl,e1,e2,_,e4⟩:=gen scope.names [] hf (fun x c e=>by simp at e)
 refine⟨cl,?_,e2,e4⟩
 unfold closureFor
 exact (congrArg (fun m=>m >>= fun r=>pure r) e1).trans rfl
structure nX where
 C:UY
 s:UQ
 H:Hp
 fp:List UY
 pins:List (UY×Obj)
 cl:List (Str×UY)
noncomputable abbrev dO (X:Cx)(scope:Zi)(N:List Str)(Y:nX):Cx where
 prog:=X.prog
 w:=X.w
 K:=X.K
 mg:=X.mg
 base:=X.base
 A:=X.A
 N:=N
 s₀:=Y.s
 H₀:=Y.H
 env:=compEnvC scope Y.cl Y.C X.env
 outer:=X.stack
 stack:=X.stack
 ex:=Y.fp
 fn:=fun _=>false
 calm:=X.calm
 pn:=X.pn++Y.pins
 xe:=fun _ _=>False
noncomputable def oV (iZ:Zi)(NX:List Str)(scope:Zi)(N:List Str)(js:List (Option Nat)):Bool :=
 decide (scope.kind=.function)&&scope.names.all (fun y=>decide (y.2≠.cell))&&scope.names.all (fun y=>decide (y.2=.local→scope.names.lookup y.1=some .local))&&decide (js.length=N.length) &&
 (js.zip N).all (fun p=>match p.1 with|none=>true|some j=>decide (NX[j]? = some p.2)&&decide (scope.names.lookup p.2=some .free)) &&
 scope.names.all (fun y=>decide (y.2=.free→iZ.names.lookup y.1=some .cell∨iZ.names.lookup y.1=some .free))
structure kA (iZ:Zi)(NX:List Str)(scope:Zi)(N:List Str)(js:List (Option Nat)):Prop where
 kind:scope.kind=.function
 nocell:∀y∈scope.names,y.2≠.cell
 loc:∀y∈scope.names,y.2=.local→scope.names.lookup y.1=some .local
 len:js.length=N.length
 cap:∀(i j:Nat) (x:Str),js[i]? = some (some j)→N[i]? = some x→NX[j]? = some x∧scope.names.lookup x=some .free
 free:∀x,(x,NameKind.free)∈scope.names→iZ.names.lookup x=some .cell∨iZ.names.lookup x=some .free
theorem oV.to {iZ:Zi}{NX:List Str}(h:oV iZ NX scope N js=true):kA iZ NX scope N js:=by
 unfold oV at h
 simp only[Vu] at h
 obtain⟨⟨⟨⟨⟨h1,h2⟩,h3⟩,h4⟩,h5⟩,h6⟩:=h
 refine⟨of_decide_eq_true h1,fun y hy=>of_decide_eq_true (VM.mp h2 y hy),fun y hy=>of_decide_eq_true (VM.mp h3 y hy),of_decide_eq_true h4,fun i j x e1 e2 => ?_,fun x hx=>of_decide_eq_true (VM.mp h6 (x,NameKind.free) hx) rfl⟩
 have hz:(js.zip N)[i]? = some (some j,x):=by
  rw[List.getElem?_zip_eq_some];exact⟨e1,e2⟩
 have q:=VM.mp h5 _ (Vt hz)
 simp only[Vu] at q
 exact⟨of_decide_eq_true q.1,of_decide_eq_true q.2⟩
noncomputable def qZ (js:List (Option Nat))(σ:St):St:=js.map fun o=>match o with
 |none=>none
 |some j=>match σ[j]? with
  |some v=>v
  |none=>none
theorem kC {env:Env}(sd:∀y∈scope.names,y.2≠.cell)(h:(relabel scope env).names.lookup x=some .cell∨(relabel scope env).names.lookup x=some .free):(x,NameKind.free)∈scope.names:=by
 have gen:∀k,(k=NameKind.cell∨k=NameKind.free)→(relabel scope env).names.lookup x=some k→(x,NameKind.free)∈scope.names:=fun k hk e=>by
  have hm:=VP e
  obtain⟨⟨n,k0⟩,hy,q⟩:=Vg.mp hm
  dsimp only at q
  split at q
  ·rename_i c
   simp only[Vu,beq_iff_eq] at c
   cases q
   obtain⟨⟨c1,_⟩,_⟩:=c
   rw[c1] at hy
   exact hy
  ·cases q
   rcases hk with hk|hk
   ·exact absurd hk (sd _ hy)
   ·rw[hk] at hy;exact hy
 rcases h with h|h
 ·exact gen _ (.inl rfl) h
 ·exact gen _ (.inr rfl) h
theorem eo {env:Env}{x:Str}:∀{names:List (Str×Zx)},names.lookup x=some .free →
  (names.map fun (n,k)=>if (k==NameKind.free&&env.scope.kind==.function&&env.kindOf n==some .cell) then (n,NameKind.cell) else (n,k)).lookup x=some .cell ∨
  (names.map fun (n,k)=>if (k==NameKind.free&&env.scope.kind==.function&&env.kindOf n==some .cell) then (n,NameKind.cell) else (n,k)).lookup x=some .free
 | [],h=>by simp at h
 | (n,k)::r,h=>by
  rw[UT]
  by_cases hx:x==n
  ·rw[VS,hx] at h
   cases h
   by_cases c:(NameKind.free==NameKind.free&&env.scope.kind==.function&&env.kindOf n==some .cell)=true
   ·refine .inl ?_
    show List.lookup x ((if (NameKind.free==NameKind.free&&env.scope.kind==.function&&env.kindOf n==some .cell)=true then (n,NameKind.cell) else (n,NameKind.free))::_)=_
    rw[if_pos c,VS,hx]
   ·refine .inr ?_
    show List.lookup x ((if (NameKind.free==NameKind.free&&env.scope.kind==.function&&env.kindOf n==some .cell)=true then (n,NameKind.cell) else (n,NameKind.free))::_)=_
    rw[if_neg c,VS,hx]
  ·have oI:=XC.mpr hx
   rw[VS,oI] at h
   have ih:=eo (env:=env) (x:=x) (names:=r) h
   have e:∀p:Str×Zx,p.1=n→List.lookup x (p::(r.map fun (n,k)=>if (k==NameKind.free&&env.scope.kind==.function&&env.kindOf n==some .cell) then (n,NameKind.cell) else (n,k))) =
     List.lookup x (r.map fun (n,k)=>if (k==NameKind.free&&env.scope.kind==.function&&env.kindOf n==some .cell) then (n,NameKind.cell) else (n,k)):=fun p hp=>by
    obtain⟨p1,p2⟩:=p
    cases hp
    rw[VS,oI]
   rw[e _ (by dsimp only;split<;>rfl)]
   exact ih
noncomputable def y_ (X:Cx)(nQ:List WI)(t:TT):Prop :=
 ∀(pins:List (UY×Obj)) (s:UQ) (σ:St) (H:Hp) (Q:Bool→Hp→Prop),aF X pins σ H s→t σ H Q →
  U4 (Vf X.prog X.w) X.A (forIn nQ true fun c r=>if r=true then do let ok ←isTrue c X.env (Yg c X.env);pure (ForInStep.yield ok) else pure (ForInStep.yield r)) (TP X pins σ Q) X.xe s
noncomputable def ML:TT:=fun _ H Q=>Q true H
theorem Ar:y_ X [] ML:=fun _ _ _ H _ I h=>wpAny_tests_nil ⟨H,I,h⟩
theorem As {t:TT}(h:PT X c t):y_ X [c] t:=fun pins s σ H Q I q=>wpAny_tests_one (h pins s σ H Q I q)
end L2
namespace L2
theorem jc {A:VE}{R:Result→UQ→Prop}{mP:WI}{it bY:Uz}{env:Env}(I:Nat→UQ→Prop)(turn:∀n s,I n s→U4 (Vf prog w) A (pyNext it) (fun r s₁=>match r with
   |none=>R (.ok .next) s₁
   |some v=>U4 (Vf prog w) A (YQ mP it v) (fun _ Qx=>U4 (Vf prog w) A (assign mP env v) (fun _ s₂ =>
     U4 (Vf prog w) A (forIn nQ true fun c r=>if r=true then do let ok ←isTrue c env (Yg c env);pure (ForInStep.yield ok) else pure (ForInStep.yield r)) (fun ok s₃ =>
      if ok=true then U4 (Vf prog w) A (Yg elt env) (fun x s₄ =>
       U4 (Vf prog w) A (call (.builtin "list.append") [bY,x]) (fun _ s₅=>∃m,m<n∧I m s₅) (fun _ _=>False) s₄) (fun _ _=>False) s₃
      else ∃m,m<n∧I m s₃) (fun _ _=>False) s₂) (fun _ _=>False) Qx) (fun _ _=>False) s₁) (fun _ _=>False) s)(n:Nat)(h:I n s) :
  codeAny (Vf prog w) A (.compLoop (.ListComp elt [⟨mP,iter,nQ,0⟩] scope pos) 0 it bY env) R s:=by
 refine codeAny_loop rfl I (fun n s hI => ?_) n h
 show U4 _ A ((compTurn (.ListComp elt [⟨mP,iter,nQ,0⟩] scope pos) 0 it bY env).onRaise (fun x=>do noteFrame x env;theTreesLotGoes x)) _ _ s
 refine wpAny_noted ?_
 rw[compTurn_list]
 have fe:∀{e:Uz} {s':UQ} {Z:Prop},(fun (_:Uz) (_:UQ)=>False) e s'→Z:=fun h=>h.elim
 refine Uw (wpAny_standAt (Uw (V3 (turn n s hI) (fun r s₁ h₁ => ?_) fun _ _ h'=>h'.elim)))
 cases r with
 |none=>exact UD h₁
 |some v =>
  refine Uw (V3 h₁ (fun _ Qx RD => ?_) fun _ _ h'=>h'.elim)
  refine Uw (V3 RD (fun _ s₂ h₂=>Uw (V3 h₂ (fun ok s₃ h₃ => ?_) fun _ _ h'=>h'.elim)) fun _ _ h'=>h'.elim)
  cases ok with
  |false=>exact UD ⟨rfl,h₃⟩
  |true =>
   exact Uw (Uw (V3 h₃ (fun x s₄ h₄=>Uw (V3 h₄ (fun _ s₅ h₅=>UD (UD ⟨rfl,h₅⟩)) fun _ _ h'=>h'.elim)) fun _ _ h'=>h'.elim))
noncomputable def JX (J:It)(js:List (Option Nat))(g:nX→TG)(tt:nX→TT)(te:nX→TE)(σ:St)(H1:Hp)(P:List V→Hp→Prop):Prop :=
 ∀Y:nX,∃W:Nat→Nat→List V→Hp→Prop,(∃m,W 0 m [] H1)∧∀i m ys H2,W i m ys H2 →
  (J.stop i H2∧P ys H2) ∨
  (J.go i H2∧ys.length<UA∧∃Nx:List V→Hp→Prop,(∀GD H',Nx GD H'→∃m',m'<m∧W (i+1) m' GD H')∧∀x H3,J.yld i H2 x H3→g Y x (qZ js σ) H3 fun σ4 H4=>tt Y σ4 H4 fun b H5 =>
   if b=true then te Y σ4 H5 fun y H6=>Nx (ys++[y]) H6 else Nx ys H5)
noncomputable def LJ (wi:TI)(js:List (Option Nat))(g:nX→TG)(tt:nX→TT)(te:nX→TE):TE:=fun σ H Q=>wi σ H fun J H1 =>
 JX J js g tt te σ H1 fun ys H2=>∀p,H2 p=none→Q (.ref p) (eB H2 p (.lst ys))
theorem oW {E:Uz→UQ→Prop}{s2:UQ}{iZ:Zi}{g:nX→TG}{tt:nX→TT}{te:nX→TE}{J:It}{tn:Nat→Xi→Prop}{P:List V→Hp→Prop}{cl:List (Str×UY)}{RR:Uz→UY→Result→UQ→Prop}(I:aF X pins σ H s2)(hc:X.calm=true)(T:yQ X.prog X.w X.K tg J fp it tn)(jI:tn 0 s2.heap)(f2:∀b∈fp,nU X pins H b)(qw:∀Y:nX,PG (dO X scope N Y) tg (g Y)∧y_ (dO X scope N Y) nQ (tt Y)∧PE (dO X scope N Y) elt (te Y))(S:kA iZ X.N scope N js)(i8:X.env.scope=iZ)(c1:∀x c,cl.lookup x=some c→X.env.cells.lookup x=some c)(c2:∀x,(x,NameKind.free)∈scope.names→∃c,cl.lookup x=some c)(h:JX J js g tt te σ H P)(hR:∀(bY C:UY) (ys:List V) (H':Hp) (s':UQ),aF X pins σ (eB H' bY (.lst ys)) s'→(∃m,s'.heap.Ns C m)→nU X pins (eB H' bY (.lst ys)) C→H' bY=none→P ys H'→RR (.ref bY) C (.ok .next) s') :
  U4 (Vf X.prog X.w) X.A (newList []) (fun bY s₃=>U4 (Vf X.prog X.w) X.A (newFunctionEnv scope X.env.globals cl [] X.env.qual none .none (some X.env)) (fun K9 s₄ =>
   codeAny (Vf X.prog X.w) X.A (.compStart (.ListComp elt [⟨tg,iter,nQ,0⟩] scope pos) 0 (.ref it) bY {K9 with scope:=relabel scope X.env}) (RR bY K9.locals) s₄) E s₃) E s2:=by
 refine VI (wpAny_newFunctionEnv S.nocell (by intro y hy;simp at hy) (fun h₁ IS E3 => ?_) S.kind)
 dsimp only at IS E3 ⊢
 generalize hH2:s2.heap.push {cls:=.type "list",dict:=none,data:=.seq ([]:List Uz).toArray}=H2 at IS E3 ⊢
 have hC:H2.objs.size=s2.heap.objs.size+1:=by rw[←hH2,WE]
 have L6:s2.heap.objs.size≠H2.objs.size:=by rw[hC];exact Ve (Nat.lt_succ_self _)
 have E4:s2.heap.objs.size≤H2.objs.size:=by rw[hC];exact Nat.le_succ _
 have below:∀b,b<s2.heap.objs.size→b≠H2.objs.size∧b≠s2.heap.objs.size:=fun b hb=>⟨by rw[hC];exact Ve (Ym hb),Ve hb⟩
 have old:∀b o,s2.heap.get? b=some o→h₁.get? b=some o:=fun b o e=>E3.extBut b o (below b (UR e)).1 (Uy _ (hH2▸Uy _ e))
 have oj:h₁.PlainList s2.heap.objs.size #[]:=⟨_,E3.extBut _ _ L6 (Uy _ (hH2▸UN _ rfl))⟩
 have NC:∀b∈fp,b<s2.heap.objs.size:=fun b hb=>by
  obtain⟨o,e,_⟩:=T.obj _ _ jI b hb
  exact UR e
 generalize hCg:H2.objs.size=C at *
 generalize hAg:s2.heap.objs.size=bY at *
 let Y:nX:=⟨C,s2,H,fp,pins,cl⟩
 have ok:(dO X scope N Y).Ok:=by
  refine⟨I.ok.mod,S.kind,I.ok.glob,I.ok.blt,?_,fun x y c e1 e2=>I.ok.inj x y c (c1 x c e1) (c1 y c e2),fun x hx=>c2 x (kC S.nocell hx),fun x c e=>(by cases e),I.ok.hd,I.ok.frames,.inl rfl,fun b hb=>⟨?_,fun x c e => ?_⟩,I.bs,VC I.ok.bsz I.sz,fun b o e hb => ?_,fun b hb hf => ?_,I.stack,I.stkFree⟩
  ·show s2.heap.objs.size≤C
   rw[hAg];exact E4
  ·exact (below b (NC b hb)).1
  ·exact (f2 b hb).2.2.2.2.1 x c (c1 x c e)
  ·rcases (f2 b hb).2.2.2.1 with z|z
   ·exact I.ok.noex b o e z
   ·exact absurd (Vo (UR (I.ok.bs b o e).1) z) (Wj _)
  ·rcases UU.mp (I.stkSub b hf) with z|z
   ·exact (f2 b hb).2.1 z
   ·exact (f2 b hb).2.2.1 z
 have ND:∀x c,X.env.cells.lookup x=some c→c<bY:=fun x c e=>by
  obtain⟨v,q⟩:=I.cell x c e
  rw[←hAg];exact q.lt
 have GC:∀p∈X.pn++pins,p.1<bY:=fun p hp=>by rw[←hAg];exact UR (I.pin p hp).1
 have Uk:X.env.locals<bY:=by rw[←hAg];exact I.lt
 have K_:∀b∈xg X.stack,b<bY:=fun b hb=>by
  obtain⟨_,o,ho,_⟩:=I.stack.mem hb
  rw[←hAg];exact UR ho
 have La:∀p∈X.pn++pins,p.1∉xg X.stack:=fun p hp hf=>by
  rcases UU.mp (I.stkSub _ hf) with z|z
  ·exact (I.pin p hp).2.2.1 z
  ·exact (I.pin p hp).2.2.2.1 z
 have yM:H bY=none:=by rw[←hAg];exact I.hok.fresh (UK _)
 have RE:H C=none:=I.hok.fresh (by rw[hAg];exact E4)
 have I4:∀tk:Nat,aF (dO X scope N Y) [] (qZ js σ) H {s2 with heap:=h₁,toks:=tk}:=fun tk=>by
  refine⟨ok,rfl,I.bare,Un.kept old,⟨_,IS,fun i x v e1 e2 e3 => ?_⟩,fun x c e => ?_,RE,fun x c e=>I.freeC x c (c1 x c e),fun p hp => ?_,I.hok.kept old,?_⟩
  ·
   have E5:(qZ js σ)[i]? = some (some v):=e2
   unfold qZ at E5
   rw[U8] at E5
   cases hj:js[i]? with
   |none=>rw[hj] at E5;cases E5
   |some o =>
    rw[hj] at E5
    cases o with
    |none=>cases E5
    |some j =>
     have e4:(match σ[j]? with|some v=>v|none=>none)=some v:=U0 E5
     obtain⟨nx,fr⟩:=S.cap i j x hj e1
     have e5:σ[j]? = some (some v):=by
      cases q:σ[j]? with
      |none=>rw[q] at e4;cases e4
      |some z=>rw[q] at e4;rw[show z=some v from e4]
     obtain⟨m,hn,hl⟩:=I.loc
     have kx:X.env.scope.names.lookup x=some .cell∨X.env.scope.names.lookup x=some .free:=by rw[i8];exact S.free x (VP fr)
     obtain⟨u,r,lk⟩:=hl j x v nx e5 (.inr kx)
     refine⟨u,r,.inr ⟨eo fr,?_⟩⟩
     obtain⟨c,hcl⟩:=c2 x (VP fr)
     rcases lk with⟨k,_⟩|⟨k,c',e',z⟩
     ·have k':X.env.scope.names.lookup x=some .local:=k
      rcases kx with q|q<;>· rw[q] at k';cases k'
     ·have:c'=c:=by
       have:=c1 x c hcl
       rw[e'] at this;exact U0 this
      subst this
      obtain⟨o,ho,hd⟩:=z
      exact⟨c',hcl,o,old _ _ ho,hd⟩
  ·obtain⟨v,o,ho,hd⟩:=I.cell x c (c1 x c e)
   exact⟨v,o,old _ _ ho,hd⟩
  ·have C6:p∈X.pn++pins:=by simpa using hp
   obtain⟨q1,q2,q3,q4,q5⟩:=I.pin p C6
   exact⟨old _ _ q1,q2,fun z=>absurd (GC p C6) (by rw[z];exact Nat.not_lt.mpr E4),La p C6,q5⟩
  ·show (qZ js σ).length=N.length
   unfold qZ;rw[Ux];exact S.len
 obtain⟨hg,ht,he⟩:=qw Y
 obtain⟨W,⟨m0,w0⟩,turn⟩:=h Y
 have NF:∀{H':Hp} {pl:List (UY×Obj)},H' bY=none→(∀p∈pl,p.1≠bY)→nU (dO X scope N Y) pl H' bY:=fun {H' pl} hn hp=>by
  refine⟨hn,L6,fun z=>absurd (K_ _ z) (Wj _),.inr (by show s2.heap.objs.size≤bY;rw[hAg];exact UK _),fun x c e=>Ve (ND x c (c1 x c e)),fun p C6 => ?_⟩
  rcases U2.mp C6 with z|z
  ·exact Ve (GC p z)
  ·exact hp p z
 have NG:∀{H':Hp} {pl:List (UY×Obj)},(∀b∈fp,H' b=none)→(∀p∈pl,p.1∉fp)→∀b∈fp,nU (dO X scope N Y) pl H' b:=fun {H' pl} hn hp b hb=>by
  refine⟨hn b hb,(below b (NC b hb)).1,fun z => ?_,.inl hb,fun x c e=>(f2 b hb).2.2.2.2.1 x c (c1 x c e),fun p C6 => ?_⟩
  ·rcases UU.mp (I.stkSub b z) with q|q
   ·exact (f2 b hb).2.1 q
   ·exact (f2 b hb).2.2.1 q
  ·rcases U2.mp C6 with z|z
   ·exact (f2 b hb).2.2.2.2.2 p z
   ·exact fun e=>hp p z (by rw[e];exact hb)
 have Qy:bY∉fp:=fun z=>absurd (NC bY z) (by intro q;rw[hAg] at *;exact Wj _ q)
 have NH:∀{i:Nat} {x:Str} {v:V},N[i]? = some x→(qZ js σ)[i]? = some (some v)→∃u c o,bN v u∧scope.names.lookup x=some .free∧cl.lookup x=some c∧s2.heap.get? c=some o∧o.data=.cell (some u):=fun {i x v} e1 e2=>by
  unfold qZ at e2
  rw[U8] at e2
  cases hj:js[i]? with
  |none=>rw[hj] at e2;cases e2
  |some o =>
   rw[hj] at e2
   cases o with
   |none=>cases e2
   |some j =>
    have e4:(match σ[j]? with|some v=>v|none=>none)=some v:=U0 e2
    obtain⟨nx,fr⟩:=S.cap i j x hj e1
    have e5:σ[j]? = some (some v):=by
     cases q:σ[j]? with
     |none=>rw[q] at e4;cases e4
     |some z=>rw[q] at e4;rw[show z=some v from e4]
    obtain⟨m,hn,hl⟩:=I.loc
    have kx:X.env.scope.names.lookup x=some .cell∨X.env.scope.names.lookup x=some .free:=by rw[i8];exact S.free x (VP fr)
    obtain⟨u,r,lk⟩:=hl j x v nx e5 (.inr kx)
    obtain⟨c,hcl⟩:=c2 x (VP fr)
    rcases lk with⟨k,_⟩|⟨k,c',e',z⟩
    ·have k':X.env.scope.names.lookup x=some .local:=k
     rcases kx with q|q<;>· rw[q] at k';cases k'
    ·have:c'=c:=by
      have:=c1 x c hcl
      rw[e'] at this;exact U0 this
     subst this
     obtain⟨o,ho,hd⟩:=z
     exact⟨u,c',o,r,fr,hcl,ho,hd⟩
 have Lb:∀{pl:List (UY×Obj)} {σ':St} {H':Hp} {s':UQ},aF (dO X scope N Y) pl σ' H' s'→aF (dO X scope N Y) pl (qZ js σ) H' s':=fun {pl σ' H' s'} K=>by
  refine⟨K.ok,K.os,K.bare,K.base,?_,K.cell,K.free,K.freeC,K.pin,K.hok,?_⟩
  ·obtain⟨m,hn,_⟩:=K.loc
   refine⟨m,hn,fun i x v e1 e2 e3 => ?_⟩
   obtain⟨u,c,o,r,fr,hcl,ho,hd⟩:=NH e1 e2
   refine⟨u,r,.inr ⟨eo fr,c,hcl,?_⟩⟩
   obtain⟨sl,q⟩:=K.base.any ho (I.freeC x c (c1 x c hcl)) fun z=>(f2 c z).2.2.2.2.1 x c (c1 x c hcl) rfl
   exact⟨_,q,hd⟩
  ·show (qZ js σ).length=N.length
   unfold qZ;rw[Ux];exact S.len
 have loop:∀tk:Nat,codeAny (Vf X.prog X.w) X.A (.compLoop (.ListComp elt [⟨tg,iter,nQ,0⟩] scope pos) 0 (.ref it) (.ref bY) (compEnvC scope cl C X.env)) (RR (.ref bY) C) {s2 with heap:=h₁,toks:=tk}:=by
  intro tk
  refine jc (fun n s'=>∃(i:Nat) (ys:List V) (ar:List Uz) (H':Hp),aF (dO X scope N Y) [] (qZ js σ) H' s'∧tn i s'.heap∧(∀b∈fp,H' b=none)∧H' bY=none∧s'.heap.PlainList bY ar.toArray∧aU ys ar∧ys.length≤UA∧W i n ys H') ?_ m0
   ⟨0,[],[],H,I4 tk,T.keep _ _ _ jI (fun b hb o e=>old b o e),fun b hb=>(f2 b hb).1,yM,oj,.nil,Wy _,w0⟩
  rintro n s3 ⟨i,ys,ar,H3,I3,Dd,fr3,na3,⟨nn,ea⟩,rv3,hz3,w3⟩
  have IT:∀p∈[(bY,({cls:=.type "list",data:=.seq ar.toArray nn}:Obj))],p.1∉fp:=fun p hp=>by
   have e:p=(bY,({cls:=.type "list",data:=.seq ar.toArray nn}:Obj)):=by simpa using hp
   rw[e];exact Qy
  have Ip:aF (dO X scope N Y) [(bY,({cls:=.type "list",data:=.seq ar.toArray nn}:Obj))] (qZ js σ) H3 s3:=I3.pins_of fun p hp=>by
   have e:p=(bY,({cls:=.type "list",data:=.seq ar.toArray nn}:Obj)):=by simpa using hp
   subst e
   exact⟨ea,na3,L6,fun z=>absurd (K_ _ z) (Wj _),fun v z=>by cases z⟩
  rcases turn i n ys H3 w3 with⟨stop,p⟩|⟨go,xa,Nx,hNx,step⟩
  ·refine V3 (T.done (dO X scope N Y) rfl rfl rfl hc i _ s3 _ H3 (fun _ _=>False) Ip (NG fr3 IT) Dd stop) (fun r s4 RF => ?_) fun _ _ z=>z
   obtain⟨hr,J4⟩:=RF
   subst hr
   have pa:=(J4.pin (bY,({cls:=.type "list",data:=.seq ar.toArray nn}:Obj)) (U9 _ UL)).1
   have u:Un (xg X.stack) fp H (eB H3 bY (.lst ys)) s2.heap s4.heap :=
    ⟨J4.base.keep,J4.base.slot,fun b o e nb hx=>by rw[bh (below b (by rw[←hAg];exact UR e)).2];exact J4.base.free b o e nb hx,J4.base.there,
     fun b xs e=>by rw[bh (bO e yM)];exact J4.base.tups b xs e,fun b o w' e=>by rw[bh (bO e yM)];exact J4.base.frzs b o w' e,fun b ps e=>by rw[bh (bO e yM)];exact J4.base.tbls b ps e⟩
   have hok:lT X.prog X.w (eB H3 bY (.lst ys)) s4.heap:=fun b o e=>by
    by_cases hb:b=bY
    ·subst hb
     rw[cC] at e
     cases e
     exact⟨hz3,ar,nn,rv3,pa⟩
    ·rw[bh hb] at e
     refine (J4.hok b o e).stay (fun _ _ _ q=>q) (fun c q => ?_) fun c xs q => ?_
     ·rw[bh (bO q na3)];exact q
     ·rw[bh (bO q na3)];exact q
   have NI:aF X pins σ (eB H3 bY (.lst ys)) s4:=I.call' (ch:=fp) J4.os u hok J4.bare fun b hb=>⟨(f2 b hb).2.2.2.1,(f2 b hb).2.1,(f2 b hb).2.2.2.2.1,(f2 b hb).2.2.2.2.2⟩
   have RG:∃m,s4.heap.Ns C m:=by obtain⟨m,hn,_⟩:=J4.loc;exact⟨m,hn⟩
   exact hR bY C ys H3 s4 NI RG (I.fpOk (by rw[hAg];exact E4) (by rw[bh (Ne.symm L6)];exact J4.free)) na3 p
  ·refine V3 (T.item (dO X scope N Y) rfl rfl rfl hc i _ s3 _ H3 (fun _ _=>False) Ip (NG fr3 IT) Dd go) (fun r s4 h4 => ?_) fun _ _ z=>z
   obtain⟨u,hr,h4⟩:=h4
   subst hr
   refine V3 h4 (fun _ s5 h5 => ?_) fun _ _ z=>z
   obtain⟨x,H5,I5,r5,y5,st5,fr5⟩:=h5
   have Nu:=I5.pinned (NG fr5 IT) (T.obj _ _ st5)
   refine V3 (hg _ s5 _ H5 x u _ Nu r5 (step x H5 y5)) (fun _ s6 h6 => ?_) fun _ _ z=>z
   obtain⟨σ6,H6,I6,q6⟩:=h6
   refine V3 (ht _ s6 σ6 H6 _ I6 q6) (fun b s7 h7 => ?_) fun _ _ z=>z
   obtain⟨H7,I7,q7⟩:=h7
   have Lc:∀{H8:Hp} {σ8:St} {s8:UQ},aF (dO X scope N Y) ([(bY,({cls:=.type "list",data:=.seq ar.toArray nn}:Obj))]++oM fp s5.heap) σ8 H8 s8 →
     s8.heap.get? bY=some ({cls:=.type "list",data:=.seq ar.toArray nn}:Obj)∧H8 bY=none∧(∀b∈fp,H8 b=none)∧(∀b∈fp,∀o,s5.heap.get? b=some o→s8.heap.get? b=some o):=fun {H8 σ8 s8} K=>by
    have q:=K.pin (bY,({cls:=.type "list",data:=.seq ar.toArray nn}:Obj)) (U9 _ (V4 _ UL))
    refine⟨q.1,q.2.1,fun b hb => ?_,fun b hb o e=>(K.pin (b,o) (U9 _ (U9 _ (iK hb e)))).1⟩
    obtain⟨o,e,d⟩:=T.obj _ _ st5 b hb
    exact (K.pin (b,o) (U9 _ (U9 _ (iK hb e)))).2.1
   have CP:∀{H8:Hp} {σ8:St} {s8:UQ} {pl:List (UY×Obj)},aF (dO X scope N Y) pl σ8 H8 s8→aF (dO X scope N Y) [] σ8 H8 s8:=fun K=>K.pins_of fun p hp=>absurd hp (by simp)
   cases b with
   |false =>
    rw[if_neg (by simp)] at q7
    obtain⟨m',hm,w7⟩:=hNx _ _ q7
    obtain⟨p1,p2,p3,p4⟩:=Lc I7
    exact⟨m',hm,i+1,ys,ar,H7,Lb (CP I7),T.keep _ _ _ st5 p4,p3,p2,⟨nn,p1⟩,rv3,hz3,w7⟩
   |true =>
    rw[if_pos rfl] at q7
    refine V3 (he _ s7 σ6 H7 _ I7 q7) (fun v s8 h8 => ?_) fun _ _ z=>z
    obtain⟨y,H8,I8,r8,q8⟩:=h8
    obtain⟨m',hm,w8⟩:=hNx _ _ q8
    obtain⟨p1,p2,p3,p4⟩:=Lc I8
    refine wpAny_list_append_plain (items:=ar.toArray) ⟨nn,p1⟩ (fun h' RH sb => ?_) (by rw[UC,←rv3.length];exact hz3)
    obtain⟨f0,f1,f2',f3,f4,f5⟩:=NF (H':=H8) (pl:=[]) p2 (by simp)
    have I9:aF (dO X scope N Y) [] σ6 H8 {s8 with heap:=h'}:=(CP I8).turned (t':=s8.toks) (fun b o hb e=>(sb.2 b hb).trans e) f0 f1 f3 f4 f5
    refine⟨m',hm,i+1,ys++[y],ar++[v],H8,Lb I9,T.keep _ _ _ st5 (fun b hb o e=>(sb.2 b (fun z=>Qy (z▸hb))).trans (p4 b hb o e)),p3,p2,?_,rv3.append (.cons r8 .nil),?_,w8⟩
    ·rw[show (ar++[v]).toArray=ar.toArray.push v from by simp]
     exact RH
    ·rw[UH,WY];exact xa
 exact codeAny_compStart_list (loop _) (T.self _ _ _ _ _ (T.keep _ _ _ jI (fun b hb o e=>old b o e)) (loop _))
theorem oX {iZ:Zi}(I:aF X pins σ H s)(S:kA iZ X.N scope N js)(i8:X.env.scope=iZ) :
  ∃cl:List (Str×UY),closureFor scope X.env=pure cl∧(∀x c,cl.lookup x=some c→X.env.cells.lookup x=some c)∧∀x,(x,NameKind.free)∈scope.names→∃c,cl.lookup x=some c :=
 v7 fun x hx=>I.ok.has x (by
  have:=S.free x hx
  rw[←i8] at this
  exact this)
theorem Fe {g:nX→TG}{tt:nX→TT}{te:nX→TE}(iZ:Zi)(NX N:List Str)(js:List (Option Nat))(hc:X.calm=true)(hi:PI X tg iter wi)(qw:∀Y:nX,PG (dO X scope N Y) tg (g Y)∧y_ (dO X scope N Y) nQ (tt Y)∧PE (dO X scope N Y) elt (te Y))(i8:X.env.scope=iZ:=by rfl)(CQ:X.N=NX:=by rfl)(hS:oV iZ NX scope N js=true:=by decide +kernel)(hs:∀x,Wh iter X.env x=pure x:=by intro _;rfl):PE X (.ListComp elt [⟨tg,iter,nQ,0⟩] scope pos) (LJ wi js g tt te):=by
 intro pins s σ H Q I h
 have S:kA iZ X.N scope N js:=by rw[CQ];exact oV.to hS
 obtain⟨cl,e1,e2,e3⟩:=oX I S i8
 rw[eval_ListComp]
 refine wpAny_comprehension_free (use:=none) rfl hs e1 S.kind S.loc (e_ (hi pins s σ H _ I h) fun v s1 h1=>e_ h1 fun L4 s2 h2 => ?_)
 obtain⟨it,fp,tn,J,H2,e,I2,T,jI,f2,q⟩:=h2
 subst e
 refine oW (RR:=fun bY C=>compPost (Vf X.prog X.w) X.A X.xe none (EP X pins σ Q) bY C) I2 hc T jI f2 qw S i8 e2 e3 q ?_
 intro bY C ys H' s' I' ns fC na p
 obtain⟨m,hn⟩:=ns
 obtain⟨f0,f1,f2',f3,f4,f5⟩:=fC
 exact⟨m,hn,fun h' sb=>⟨.ref bY,_,I'.turned (t':=s'.toks) (fun b o hb e=>(sb.2 b hb).trans e) f0 f1 f3 f4 f5,rfl,p bY na⟩⟩
theorem uk {lM lP:Pos}{g:nX→TG}{tt:nX→TT}{te:nX→TE}(iZ:Zi)(NX N:List Str)(js:List (Option Nat))(hN:X.N.Nodup)(hx:X.N[i]? = some x)(hl:zY X.env.scope x)(hc:X.calm=true)(hi:PI X tg iter wi)(qw:∀Y:nX,PG (dO X scope N Y) tg (g Y)∧y_ (dO X scope N Y) nQ (tt Y)∧PE (dO X scope N Y) elt (te Y))(i8:X.env.scope=iZ:=by rfl)(CQ:X.N=NX:=by rfl)(hS:oV iZ NX scope N js=true:=by decide +kernel)(hw:Yy (.ListComp elt [⟨tg,iter,nQ,0⟩] scope lP) (some (.Name x lM)) pos.line X.env=pure true:=by rfl)(hf:X.fn x=true∨X.env.scope.names.lookup x=some .local:=by first|exact .inl rfl|exact .inr rfl|assumption)(hs:∀x,Wh iter X.env x=pure x:=by intro _;rfl) :
  PS X (.Assign [.Name x lM] (.ListComp elt [⟨tg,iter,nQ,0⟩] scope lP) pos) (Ac (LJ wi js g tt te) (ug i)):=by
 intro pins s σ H D I h
 have S:kA iZ X.N scope N js:=by rw[CQ];exact oV.to hS
 obtain⟨cl,e1,e2,e3⟩:=oX I S i8
 rw[exec_Assign_Name_used _ _ _ _ hw]
 refine Uw (wpAny_standAt (Uw ?_))
 show U4 _ X.A (do let _ ←comprehension (.ListComp elt [⟨tg,iter,nQ,0⟩] scope lP) scope X.env _ (newList []) false (Yg iter X.env) (some (assign (.Name x lM) X.env))) _ _ s
 refine Uw (V3 (wpAny_comprehension_free (use:=some (assign (.Name x lM) X.env)) (Q:=fun _ s'=>SP X pins D .next s') rfl hs e1 S.kind S.loc
  (e_ (hi pins s σ H _ I h) fun v s1 h1=>e_ h1 fun L4 s2 h2 => ?_)) (fun _ s' hq=>UD (UD hq)) fun _ _ e=>e)
 obtain⟨it,fp,tn,J,H2,e,I2,T,jI,f2,q⟩:=h2
 subst e
 refine oW (RR:=fun bY C=>compPost (Vf X.prog X.w) X.A X.xe (some (assign (.Name x lM) X.env)) (fun _ s'=>SP X pins D .next s') bY C) I2 hc T jI f2 qw S i8 e2 e3 q ?_
 intro bY C ys H' s' I' ns fC na p
 obtain⟨m,hn⟩:=ns
 obtain⟨f0,f1,f2',f3,f4,f5⟩:=fC
 show U4 _ X.A (assign (.Name x lM) X.env (.ref bY)) _ _ _
 refine wpAny_assign_Name (qP I' hN hx hl (v:=.ref bY) rfl (fun CL RI RJ => ?_) hf)
 obtain⟨a,sb,ha⟩:=RJ
 have aC:C≠a:=by
  rcases ha with ha|ha
  ·rw[ha];exact f1
  ·exact fun z=>f4 x a ha z.symm
 refine⟨m,hn.sameBut sb aC,fun h' RK=>⟨_,_,RI.turned (t':=CL.toks) (fun b o hb e=>(RK.2 b hb).trans e) f0 f1 f3 f4 f5,?_⟩⟩
 exact p bY na
noncomputable def JY (J:It)(g:TG)(tb:TS)(D:oJ)(σ:St)(H1:Hp):Prop:=∃W:Nat→Nat→St→Hp→Prop,(∃m,W 0 m σ H1)∧∀i m σ H,W i m σ H →
 (J.stop i H∧D.nx σ H)∨(J.go i H∧∃N:St→Hp→Prop,(∀σ' H',N σ' H'→∃m',m'<m∧W (i+1) m' σ' H')∧∀x H',J.yld i H x H'→g x σ H' fun σ2 H2=>tb {D with nx:=N,ct:=N,bk:=D.nx} σ2 H2)
noncomputable def JZ (wi:TI)(g:TG)(tb:TS):TS:=fun D σ H=>wi σ H fun J H1=>JY J g tb D σ H1
theorem DM {g:TG}{tb:TS}(hp:PassesOwn (Vf X.prog X.w) X.A X.env X.xe)(hc:X.calm=true)(hi:PI X tg iter wi)(hg:PG X tg g)(hb:sv X body tb)(hs:∀x,Wh iter X.env x=pure x:=by intro _;rfl):PS X (.For tg iter body [] pos) (JZ wi g tb):=G6 hp hc hi hg hb hs
end L2
namespace L2
inductive D where
 |non|bl (b:Bool)|int (i:Int)|str (x:Str)|tup (xs:List D)|lst (xs:List D)
instance:Inhabited D:=⟨.non⟩
mutual
noncomputable def aN (K:UB)(H:Hp):D→V→Prop
 | .non,v=>v=.non
 | .bl b,v=>v=.bl b
 | .int i,v=>v=.int i
 | .str x,v=>v=.str x
 | .tup ds,v=>∃a xs,v=.ref a∧gT K H a xs∧ft K H ds xs
 | .lst ds,v=>∃a xs,v=.ref a∧fq K H a xs∧ft K H ds xs
noncomputable def ft (K:UB)(H:Hp):List D→List V→Prop
 | [],xs=>xs=[]
 |d::ds,xs=>∃x r,xs=x::r∧aN K H d x∧ft K H ds r
end
mutual
noncomputable def fE:D→D→Bool
 | .non,.non=>true
 | .bl a,.bl b=>a==b
 | .bl a,.int b=>(if a then 1 else 0)==b
 | .int a,.bl b=>a==(if b then 1 else 0)
 | .int a,.int b=>a==b
 | .str a,.str b=>a==b
 | .tup xs,.tup ys=>i0 xs ys
 | .lst xs,.lst ys=>i0 xs ys
 |_,_=>false
noncomputable def i0:List D→List D→Bool
 | [],[]=>true
 |x::xs,y::ys=>fE x y&&i0 xs ys
 |_,_=>false
end
mutual
noncomputable def cm:D→Nat
 | .tup xs=>gc xs+1
 | .lst xs=>gc xs+1
 |_=>0
noncomputable def gc:List D→Nat
 | []=>0
 |x::xs=>max (cm x) (gc xs)
end
theorem ft.length {K:UB}{H:Hp}:∀{ds:List D} {xs:List V},ft K H ds xs→ds.length=xs.length
 | [],_,h=>by unfold ft at h;subst h;rfl
 |d::ds,_,h=>by
  unfold ft at h
  obtain⟨x,r,rfl,_,q⟩:=h
  rw[UI,UI,ft.length q]
theorem ft.get {K:UB}{H:Hp}:∀{ds:List D} {xs:List V} {i:Nat} {d:D} {x:V},ft K H ds xs→ds[i]? = some d→xs[i]? = some x→aN K H d x
 | [],_,_,_,_,_,e,_=>by simp at e
 |d::ds,_,i,d',x',h,e1,e2=>by
  unfold ft at h
  obtain⟨x,r,rfl,p,q⟩:=h
  cases i with
  |zero=>simp at e1 e2;subst e1 e2;exact p
  |succ i=>exact ft.get q (by simpa using e1) (by simpa using e2)
theorem fw:∀{ds:List D} {i:Nat} {d:D},ds[i]? = some d→cm d≤gc ds
 | [],_,_,e=>by simp at e
 |d::ds,i,d',e=>by
  unfold gc
  cases i with
  |zero=>simp at e;subst e;exact Nat.le_max_left _ _
  |succ i=>exact VC (fw (ds:=ds) (by simpa using e)) (Nat.le_max_right _ _)
noncomputable def dP (xs ys:List D)(j:Nat):Bool:=match xs[j]?,ys[j]? with
 |some a,some b=>fE a b
 |_,_=>true
theorem fK:∀(xs ys:List D),((Vc (min xs.length ys.length)).all (dP xs ys)&&xs.length==ys.length)=i0 xs ys
 | [],[]=>by simp[i0]
 | [],_::_=>by simp[i0]
 |_::_,[]=>by simp[i0]
 |x::xs,y::ys=>by
  have ih:=fK xs ys
  unfold i0
  rw[←ih,UI,UI,Nat.add_min_add_right,List.range_succ_eq_map,List.all_cons,List.all_map]
  have e0:dP (x::xs) (y::ys) 0=fE x y:=rfl
  have e1:(dP (x::xs) (y::ys)∘Nat.succ)=dP xs ys:=by funext j;simp[dP,Function.comp]
  rw[e0,e1,Bool.and_assoc]
  congr 1
  congr 1
  rw[Xe];simp
theorem oY {xs ys:List D}(h:xs.length≠ys.length):i0 xs ys=false:=by
 rw[←fK,show (xs.length==ys.length)=false from by simpa using h,Yt]
mutual
theorem um:∀d:D,fE d d=true
 | .non=>rfl
 | .bl b=>by unfold fE;simp
 | .int b=>by unfold fE;simp
 | .str b=>by unfold fE;simp
 | .tup xs=>by unfold fE;exact lX xs
 | .lst xs=>by unfold fE;exact lX xs
theorem lX:∀ds:List D,i0 ds ds=true
 | []=>rfl
 |d::ds=>by unfold i0;rw[um d,lX ds];rfl
end
theorem J0 {ys:List V}(I:aF X pins σ H s)(h:fq X.K H a xs)(h':gT X.K H a ys):False:=by
 obtain⟨ar,_,p,_⟩:=I.list h
 obtain⟨its',_,q,_⟩:=I.tuple h'
 exact absurd rfl (SeqAt.ne_of_list_tuple p.isList q)
theorem uo (I:aF X pins σ H s):∀n d1 d2 x,cm d1≤n→aN X.K H d1 x→aN X.K H d2 x→fE d1 d2=true:=by
 have lists:∀n,(∀d1 d2 x,cm d1≤n→aN X.K H d1 x→aN X.K H d2 x→fE d1 d2=true)→∀(ds es:List D) (xs:List V),gc ds≤n→ft X.K H ds xs→ft X.K H es xs→i0 ds es=true:=by
  intro n ih ds
  induction ds with
  |nil =>
   intro es xs _ h1 h2
   unfold ft at h1
   subst h1
   cases es with
   |nil=>rfl
   |cons e es=>unfold ft at h2;obtain⟨x,r,e',_⟩:=h2;cases e'
  |cons d ds ihd =>
   intro es xs hd h1 h2
   unfold ft at h1
   obtain⟨x,r,rfl,p,q⟩:=h1
   cases es with
   |nil=>unfold ft at h2;cases h2
   |cons e es =>
    unfold ft at h2
    obtain⟨x',r',e',p',q'⟩:=h2
    cases e'
    unfold gc at hd
    unfold i0
    rw[ih d e x (VC (Nat.le_max_left _ _) hd) p p',ihd es r (VC (Nat.le_max_right _ _) hd) q q']
    rfl
 intro n
 induction n with
 |zero =>
  intro d1 d2 x hd h1 h2
  have fl:∀d,aN X.K H d x→(∃a,x=.ref a)∨(d=.non∧x=.non)∨(∃b,d=.bl b∧x=.bl b)∨(∃b,d=.int b∧x=.int b)∨∃b,d=.str b∧x=.str b:=fun d h=>by
   cases d with
   |non=>unfold aN at h;exact .inr (.inl ⟨rfl,h⟩)
   |bl b=>unfold aN at h;exact .inr (.inr (.inl ⟨b,rfl,h⟩))
   |int b=>unfold aN at h;exact .inr (.inr (.inr (.inl ⟨b,rfl,h⟩)))
   |str b=>unfold aN at h;exact .inr (.inr (.inr (.inr ⟨b,rfl,h⟩)))
   |tup ds=>unfold aN at h;obtain⟨a,_,e,_⟩:=h;exact .inl ⟨a,e⟩
   |lst ds=>unfold aN at h;obtain⟨a,_,e,_⟩:=h;exact .inl ⟨a,e⟩
  have nr:¬∃a,x=.ref a:=fun h00=>by
   obtain⟨a,e⟩:=h00
   subst e
   cases d1 with
   |tup ds=>unfold cm at hd;lia
   |lst ds=>unfold cm at hd;lia
   |_=>unfold aN at h1;cases h1
  have f1:=fl d1 h1
  have f2:=fl d2 h2
  rcases f1 with f1|⟨rfl,rfl⟩|⟨b,rfl,rfl⟩|⟨b,rfl,rfl⟩|⟨b,rfl,rfl⟩
  ·exact absurd f1 nr
  all_goals
   rcases f2 with f2|⟨rfl,f2⟩|⟨c,rfl,f2⟩|⟨c,rfl,f2⟩|⟨c,rfl,f2⟩
   ·exact absurd f2 nr
   all_goals first|(cases f2;exact um _)|cases f2
 |succ n ih =>
  intro d1 d2 x hd h1 h2
  cases d1 with
  |tup ds =>
   unfold aN at h1
   obtain⟨a,xs,rfl,hs,hr⟩:=h1
   cases d2 with
   |tup es =>
    unfold aN at h2
    obtain⟨a',xs',e,hs',hr'⟩:=h2
    cases e
    have:=I.tuple_inj hs hs'
    subst this
    unfold fE
    exact lists n ih ds es xs (by unfold cm at hd;lia) hr hr'
   |lst es =>
    unfold aN at h2
    obtain⟨a',xs',e,hs',hr'⟩:=h2
    cases e
    exact (J0 I hs' hs).elim
   |_=>unfold aN at h2;cases h2
  |lst ds =>
   unfold aN at h1
   obtain⟨a,xs,rfl,hs,hr⟩:=h1
   cases d2 with
   |lst es =>
    unfold aN at h2
    obtain⟨a',xs',e,hs',hr'⟩:=h2
    cases e
    have:=I.list_inj hs hs'
    subst this
    unfold fE
    exact lists n ih ds es xs (by unfold cm at hd;lia) hr hr'
   |tup es =>
    unfold aN at h2
    obtain⟨a',xs',e,hs',hr'⟩:=h2
    cases e
    exact (J0 I hs hs').elim
   |_=>unfold aN at h2;cases h2
  |_=>exact ih _ d2 x (by unfold cm;exact Wy _) h1 h2
theorem oZ (I:aF X pins σ H s):∀(n:Nat) (d1 d2:D) (x y:V) (u v:Uz) (A:VE),cm d1≤n→A.units+n<Xu→aN X.K H d1 x→aN X.K H d2 y→bN x u→bN y v→XA A s u v (fE d1 d2):=by
 intro n
 induction n with
 |zero =>
  intro d1 d2 x y u v A hd hu h1 h2 r1 r2
  have eA:A.units<Xu:=by lia
  cases d1 with
  |non =>
   unfold aN at h1;subst h1;cases r1
   cases d2 with
   |non =>
    unfold aN at h2;subst h2;cases r2
    exact SeqAt.EqAt.same _
   |bl b2 =>
    unfold aN at h2;subst h2;cases r2
    exact SeqAt.EqAt.none_bool b2
   |int b2 =>
    unfold aN at h2;subst h2;obtain⟨t2,rfl⟩:=r2
    exact SeqAt.EqAt.none_int b2 t2
   |str b2 =>
    unfold aN at h2;subst h2;obtain⟨t2,rfl⟩:=r2
    exact SeqAt.EqAt.none_str b2 t2
   |tup b2 =>
    unfold aN at h2;obtain⟨a2,xs2,rfl,bE,d8⟩:=h2;cases r2;obtain⟨its2,rv2,p2,i9⟩:=I.tuple bE
    exact SeqAt.EqAt.none_tuple p2 eA
   |lst b2 =>
    unfold aN at h2;obtain⟨a2,xs2,rfl,bE,d8⟩:=h2;cases r2;obtain⟨its2,rv2,p2,i9⟩:=I.list bE
    exact SeqAt.EqAt.none_list p2.isList eA
  |bl b1 =>
   unfold aN at h1;subst h1;cases r1
   cases d2 with
   |non =>
    unfold aN at h2;subst h2;cases r2
    exact SeqAt.EqAt.bool_none b1
   |bl b2 =>
    unfold aN at h2;subst h2;cases r2
    exact SeqAt.EqAt.bool_bool b1 b2
   |int b2 =>
    unfold aN at h2;subst h2;obtain⟨t2,rfl⟩:=r2
    exact SeqAt.EqAt.bool_int b1 b2 t2
   |str b2 =>
    unfold aN at h2;subst h2;obtain⟨t2,rfl⟩:=r2
    exact SeqAt.EqAt.bool_str b1 b2 t2
   |tup b2 =>
    unfold aN at h2;obtain⟨a2,xs2,rfl,bE,d8⟩:=h2;cases r2;obtain⟨its2,rv2,p2,i9⟩:=I.tuple bE
    exact SeqAt.EqAt.bool_tuple b1 p2 eA
   |lst b2 =>
    unfold aN at h2;obtain⟨a2,xs2,rfl,bE,d8⟩:=h2;cases r2;obtain⟨its2,rv2,p2,i9⟩:=I.list bE
    exact SeqAt.EqAt.bool_list b1 p2.isList eA
  |int b1 =>
   unfold aN at h1;subst h1;obtain⟨t1,rfl⟩:=r1
   cases d2 with
   |non =>
    unfold aN at h2;subst h2;cases r2
    exact SeqAt.EqAt.int_none b1 t1
   |bl b2 =>
    unfold aN at h2;subst h2;cases r2
    exact SeqAt.EqAt.int_bool b1 t1 b2
   |int b2 =>
    unfold aN at h2;subst h2;obtain⟨t2,rfl⟩:=r2
    exact SeqAt.EqAt.int_int b1 t1 b2 t2
   |str b2 =>
    unfold aN at h2;subst h2;obtain⟨t2,rfl⟩:=r2
    exact SeqAt.EqAt.int_str b1 t1 b2 t2
   |tup b2 =>
    unfold aN at h2;obtain⟨a2,xs2,rfl,bE,d8⟩:=h2;cases r2;obtain⟨its2,rv2,p2,i9⟩:=I.tuple bE
    exact SeqAt.EqAt.int_tuple b1 t1 p2 eA
   |lst b2 =>
    unfold aN at h2;obtain⟨a2,xs2,rfl,bE,d8⟩:=h2;cases r2;obtain⟨its2,rv2,p2,i9⟩:=I.list bE
    exact SeqAt.EqAt.int_list b1 t1 p2.isList eA
  |str b1 =>
   unfold aN at h1;subst h1;obtain⟨t1,rfl⟩:=r1
   cases d2 with
   |non =>
    unfold aN at h2;subst h2;cases r2
    exact SeqAt.EqAt.str_none b1 t1
   |bl b2 =>
    unfold aN at h2;subst h2;cases r2
    exact SeqAt.EqAt.str_bool b1 t1 b2
   |int b2 =>
    unfold aN at h2;subst h2;obtain⟨t2,rfl⟩:=r2
    exact SeqAt.EqAt.str_int b1 t1 b2 t2
   |str b2 =>
    unfold aN at h2;subst h2;obtain⟨t2,rfl⟩:=r2
    exact SeqAt.EqAt.str_str b1 t1 b2 t2
   |tup b2 =>
    unfold aN at h2;obtain⟨a2,xs2,rfl,bE,d8⟩:=h2;cases r2;obtain⟨its2,rv2,p2,i9⟩:=I.tuple bE
    exact SeqAt.EqAt.str_tuple b1 t1 p2 eA
   |lst b2 =>
    unfold aN at h2;obtain⟨a2,xs2,rfl,bE,d8⟩:=h2;cases r2;obtain⟨its2,rv2,p2,i9⟩:=I.list bE
    exact SeqAt.EqAt.str_list b1 t1 p2.isList eA
  |tup ds=>unfold cm at hd;lia
  |lst ds=>unfold cm at hd;lia
 |succ n ih =>
  intro d1 d2 x y u v A hd hu h1 h2 r1 r2
  have eA:A.units<Xu:=by lia
  cases d1 with
  |tup ds =>
   unfold aN at h1;obtain⟨a1,xs1,rfl,fu,hr1⟩:=h1;cases r1;obtain⟨its1,rv1,p1,hz1⟩:=I.tuple fu
   cases d2 with
   |non =>
    unfold aN at h2;subst h2;cases r2
    exact SeqAt.EqAt.tuple_none p1 eA
   |bl b2 =>
    unfold aN at h2;subst h2;cases r2
    exact SeqAt.EqAt.tuple_bool b2 p1 eA
   |int b2 =>
    unfold aN at h2;subst h2;obtain⟨t2,rfl⟩:=r2
    exact SeqAt.EqAt.tuple_int b2 t2 p1 eA
   |str b2 =>
    unfold aN at h2;subst h2;obtain⟨t2,rfl⟩:=r2
    exact SeqAt.EqAt.tuple_str b2 t2 p1 eA
   |tup es =>
    unfold aN at h2;obtain⟨a2,xs2,rfl,bE,d8⟩:=h2;cases r2;obtain⟨its2,rv2,p2,i9⟩:=I.tuple bE
    by_cases vN:a1=a2
    ·subst vN
     rw[uo I (n+1) (.tup ds) (.tup es) (.ref a1) hd (by unfold aN;exact⟨a1,xs1,rfl,fu,hr1⟩) (by unfold aN;exact⟨a1,xs2,rfl,bE,d8⟩)]
     exact SeqAt.EqAt.same _
    ·refine SeqAt.EqAt.of_refs vN ?_
     have l1:its1.toArray.size=ds.length:=by rw[UC,←rv1.length,hr1.length]
     have l2:its2.toArray.size=es.length:=by rw[UC,←rv2.length,d8.length]
     have k1:xs1.length=ds.length:=hr1.length.symm
     have k2:xs2.length=es.length:=d8.length.symm
     have he:∀j (h1:j<its1.toArray.size) (h2:j<its2.toArray.size),XA A.in1 s its1.toArray[j] its2.toArray[j] (dP ds es j):=fun j g1 g2=>by
      have q1:ds[j]? = some ds[j]:=Uv (by lia)
      have q2:es[j]? = some es[j]:=Uv (by lia)
      have e1:xs1[j]? = some xs1[j]:=Uv (by lia)
      have e2:xs2[j]? = some xs2[j]:=Uv (by lia)
      obtain⟨u1,z1,w1⟩:=rv1.get e1
      obtain⟨u2,z2,w2⟩:=rv2.get e2
      have y1:its1.toArray[j]=u1:=by
       have:=UJ.mp z1
       obtain⟨_,q⟩:=this
       simpa using q
      have y2:its2.toArray[j]=u2:=by
       have:=UJ.mp z2
       obtain⟨_,q⟩:=this
       simpa using q
      rw[y1,y2]
      have:dP ds es j=fE ds[j] es[j]:=by unfold dP;rw[q1,q2]
      rw[this]
      refine ih ds[j] es[j] xs1[j] xs2[j] u1 u2 A.in1 ?_ (by show A.units+1+n<Xu;lia) (hr1.get q1 e1) (d8.get q2 e2) w1 w2
      have:=fw q1
      unfold cm at hd
      lia
     have q:=SeqAt.RcAt.tuples (A:=A) p1 p2 eA he
     rw[l1,l2,fK] at q
     unfold fE
     exact q
   |lst es =>
    unfold aN at h2;obtain⟨a2,xs2,rfl,bE,d8⟩:=h2;cases r2;obtain⟨its2,rv2,p2,i9⟩:=I.list bE
    exact SeqAt.EqAt.tuple_list p1 p2.isList eA
  |lst ds =>
   unfold aN at h1;obtain⟨a1,xs1,rfl,fu,hr1⟩:=h1;cases r1;obtain⟨its1,rv1,p1,hz1⟩:=I.list fu
   cases d2 with
   |non =>
    unfold aN at h2;subst h2;cases r2
    exact SeqAt.EqAt.list_none p1.isList eA
   |bl b2 =>
    unfold aN at h2;subst h2;cases r2
    exact SeqAt.EqAt.list_bool b2 p1.isList eA
   |int b2 =>
    unfold aN at h2;subst h2;obtain⟨t2,rfl⟩:=r2
    exact SeqAt.EqAt.list_int b2 t2 p1.isList eA
   |str b2 =>
    unfold aN at h2;subst h2;obtain⟨t2,rfl⟩:=r2
    exact SeqAt.EqAt.list_str b2 t2 p1.isList eA
   |tup es =>
    unfold aN at h2;obtain⟨a2,xs2,rfl,bE,d8⟩:=h2;cases r2;obtain⟨its2,rv2,p2,i9⟩:=I.tuple bE
    exact SeqAt.EqAt.list_tuple p1.isList p2 eA
   |lst es =>
    unfold aN at h2;obtain⟨a2,xs2,rfl,bE,d8⟩:=h2;cases r2;obtain⟨its2,rv2,p2,i9⟩:=I.list bE
    by_cases vN:a1=a2
    ·subst vN
     rw[uo I (n+1) (.lst ds) (.lst es) (.ref a1) hd (by unfold aN;exact⟨a1,xs1,rfl,fu,hr1⟩) (by unfold aN;exact⟨a1,xs2,rfl,bE,d8⟩)]
     exact SeqAt.EqAt.same _
    ·refine SeqAt.EqAt.of_refs vN ?_
     have l1:its1.toArray.size=ds.length:=by rw[UC,←rv1.length,hr1.length]
     have l2:its2.toArray.size=es.length:=by rw[UC,←rv2.length,d8.length]
     have k1:xs1.length=ds.length:=hr1.length.symm
     have k2:xs2.length=es.length:=d8.length.symm
     have he:∀j (h1:j<its1.toArray.size) (h2:j<its2.toArray.size),XA A.in1 s its1.toArray[j] its2.toArray[j] (dP ds es j):=fun j g1 g2=>by
      have q1:ds[j]? = some ds[j]:=Uv (by lia)
      have q2:es[j]? = some es[j]:=Uv (by lia)
      have e1:xs1[j]? = some xs1[j]:=Uv (by lia)
      have e2:xs2[j]? = some xs2[j]:=Uv (by lia)
      obtain⟨u1,z1,w1⟩:=rv1.get e1
      obtain⟨u2,z2,w2⟩:=rv2.get e2
      have y1:its1.toArray[j]=u1:=by
       have:=UJ.mp z1
       obtain⟨_,q⟩:=this
       simpa using q
      have y2:its2.toArray[j]=u2:=by
       have:=UJ.mp z2
       obtain⟨_,q⟩:=this
       simpa using q
      rw[y1,y2]
      have:dP ds es j=fE ds[j] es[j]:=by unfold dP;rw[q1,q2]
      rw[this]
      refine ih ds[j] es[j] xs1[j] xs2[j] u1 u2 A.in1 ?_ (by show A.units+1+n<Xu;lia) (hr1.get q1 e1) (d8.get q2 e2) w1 w2
      have:=fw q1
      unfold cm at hd
      lia
     unfold fE
     by_cases hl:ds.length=es.length
     ·have q:=SeqAt.RcAt.lists (A:=A) p1.isList p2.isList (by rw[l1,l2,hl]) eA he
      rw[l1] at q
      have z:=fK ds es
      rw[hl,Nat.min_self,beq_self_eq_true,Bool.and_true] at z
      rw[hl,z] at q
      exact q
     ·rw[oY hl]
      exact Zo (A:=A) p1.isList p2.isList (by rw[l1,l2];simpa using hl) eA
  |non=>exact ih _ d2 x y u v A (by unfold cm;exact Wy _) (by lia) h1 h2 r1 r2
  |bl b1=>exact ih _ d2 x y u v A (by unfold cm;exact Wy _) (by lia) h1 h2 r1 r2
  |int b1=>exact ih _ d2 x y u v A (by unfold cm;exact Wy _) (by lia) h1 h2 r1 r2
  |str b1=>exact ih _ d2 x y u v A (by unfold cm;exact Wy _) (by lia) h1 h2 r1 r2
theorem Hk (I:aF X pins σ H s)(n:Nat)(d1 d2:D)(x y:V)(u v:Uz)(A:VE)(hd:cm d1≤n)(hu:A.units+n<Xu)(h1:aN X.K H d1 x)(h2:aN X.K H d2 y)(r1:bN x u)(r2:bN y v):SeqAt.RcAt A s u v (fE d1 d2):=by
  have eA:A.units<Xu:=by lia
  cases d1 with
  |non =>
   unfold aN at h1;subst h1;cases r1
   cases d2 with
   |non =>
    unfold aN at h2;subst h2;cases r2
    exact SeqAt.RcAt.none_none
   |bl b2 =>
    unfold aN at h2;subst h2;cases r2
    exact SeqAt.RcAt.none_bool b2
   |int b2 =>
    unfold aN at h2;subst h2;obtain⟨t2,rfl⟩:=r2
    exact SeqAt.RcAt.none_int b2 t2
   |str b2 =>
    unfold aN at h2;subst h2;obtain⟨t2,rfl⟩:=r2
    exact SeqAt.RcAt.none_str b2 t2
   |tup es =>
    unfold aN at h2;obtain⟨a2,xs2,rfl,bE,d8⟩:=h2;cases r2;obtain⟨its2,rv2,p2,i9⟩:=I.tuple bE
    exact SeqAt.RcAt.none_tuple p2 eA
   |lst es =>
    unfold aN at h2;obtain⟨a2,xs2,rfl,bE,d8⟩:=h2;cases r2;obtain⟨its2,rv2,p2,i9⟩:=I.list bE
    exact SeqAt.RcAt.none_list p2.isList eA
  |bl b1 =>
   unfold aN at h1;subst h1;cases r1
   cases d2 with
   |non =>
    unfold aN at h2;subst h2;cases r2
    exact SeqAt.RcAt.bool_none b1
   |bl b2 =>
    unfold aN at h2;subst h2;cases r2
    exact SeqAt.RcAt.bool_bool b1 b2
   |int b2 =>
    unfold aN at h2;subst h2;obtain⟨t2,rfl⟩:=r2
    exact SeqAt.RcAt.bool_int b1 b2 t2
   |str b2 =>
    unfold aN at h2;subst h2;obtain⟨t2,rfl⟩:=r2
    exact SeqAt.RcAt.bool_str b1 b2 t2
   |tup es =>
    unfold aN at h2;obtain⟨a2,xs2,rfl,bE,d8⟩:=h2;cases r2;obtain⟨its2,rv2,p2,i9⟩:=I.tuple bE
    exact SeqAt.RcAt.bool_tuple b1 p2 eA
   |lst es =>
    unfold aN at h2;obtain⟨a2,xs2,rfl,bE,d8⟩:=h2;cases r2;obtain⟨its2,rv2,p2,i9⟩:=I.list bE
    exact SeqAt.RcAt.bool_list b1 p2.isList eA
  |int b1 =>
   unfold aN at h1;subst h1;obtain⟨t1,rfl⟩:=r1
   cases d2 with
   |non =>
    unfold aN at h2;subst h2;cases r2
    exact SeqAt.RcAt.int_none b1 t1
   |bl b2 =>
    unfold aN at h2;subst h2;cases r2
    exact SeqAt.RcAt.int_bool b1 t1 b2
   |int b2 =>
    unfold aN at h2;subst h2;obtain⟨t2,rfl⟩:=r2
    exact SeqAt.RcAt.int_int b1 t1 b2 t2
   |str b2 =>
    unfold aN at h2;subst h2;obtain⟨t2,rfl⟩:=r2
    exact SeqAt.RcAt.int_str b1 t1 b2 t2
   |tup es =>
    unfold aN at h2;obtain⟨a2,xs2,rfl,bE,d8⟩:=h2;cases r2;obtain⟨its2,rv2,p2,i9⟩:=I.tuple bE
    exact SeqAt.RcAt.int_tuple b1 t1 p2 eA
   |lst es =>
    unfold aN at h2;obtain⟨a2,xs2,rfl,bE,d8⟩:=h2;cases r2;obtain⟨its2,rv2,p2,i9⟩:=I.list bE
    exact SeqAt.RcAt.int_list b1 t1 p2.isList eA
  |str b1 =>
   unfold aN at h1;subst h1;obtain⟨t1,rfl⟩:=r1
   cases d2 with
   |non =>
    unfold aN at h2;subst h2;cases r2
    exact SeqAt.RcAt.str_none b1 t1
   |bl b2 =>
    unfold aN at h2;subst h2;cases r2
    exact SeqAt.RcAt.str_bool b1 t1 b2
   |int b2 =>
    unfold aN at h2;subst h2;obtain⟨t2,rfl⟩:=r2
    exact SeqAt.RcAt.str_int b1 t1 b2 t2
   |str b2 =>
    unfold aN at h2;subst h2;obtain⟨t2,rfl⟩:=r2
    exact SeqAt.RcAt.str_str b1 t1 b2 t2
   |tup es =>
    unfold aN at h2;obtain⟨a2,xs2,rfl,bE,d8⟩:=h2;cases r2;obtain⟨its2,rv2,p2,i9⟩:=I.tuple bE
    exact SeqAt.RcAt.str_tuple b1 t1 p2 eA
   |lst es =>
    unfold aN at h2;obtain⟨a2,xs2,rfl,bE,d8⟩:=h2;cases r2;obtain⟨its2,rv2,p2,i9⟩:=I.list bE
    exact SeqAt.RcAt.str_list b1 t1 p2.isList eA
  |tup ds =>
   unfold aN at h1;obtain⟨a1,xs1,rfl,fu,hr1⟩:=h1;cases r1;obtain⟨its1,rv1,p1,hz1⟩:=I.tuple fu
   cases d2 with
   |non =>
    unfold aN at h2;subst h2;cases r2
    exact SeqAt.RcAt.tuple_none p1 eA
   |bl b2 =>
    unfold aN at h2;subst h2;cases r2
    exact SeqAt.RcAt.tuple_bool b2 p1 eA
   |int b2 =>
    unfold aN at h2;subst h2;obtain⟨t2,rfl⟩:=r2
    exact SeqAt.RcAt.tuple_int b2 t2 p1 eA
   |str b2 =>
    unfold aN at h2;subst h2;obtain⟨t2,rfl⟩:=r2
    exact SeqAt.RcAt.tuple_str b2 t2 p1 eA
   |tup es =>
    unfold aN at h2;obtain⟨a2,xs2,rfl,bE,d8⟩:=h2;cases r2;obtain⟨its2,rv2,p2,i9⟩:=I.tuple bE
    have l1:its1.toArray.size=ds.length:=by rw[UC,←rv1.length,hr1.length]
    have l2:its2.toArray.size=es.length:=by rw[UC,←rv2.length,d8.length]
    have k1:xs1.length=ds.length:=hr1.length.symm
    have k2:xs2.length=es.length:=d8.length.symm
    have he:∀j (h1:j<its1.toArray.size) (h2:j<its2.toArray.size),XA A.in1 s its1.toArray[j] its2.toArray[j] (dP ds es j):=fun j g1 g2=>by
     have q1:ds[j]? = some ds[j]:=Uv (by lia)
     have q2:es[j]? = some es[j]:=Uv (by lia)
     have e1:xs1[j]? = some xs1[j]:=Uv (by lia)
     have e2:xs2[j]? = some xs2[j]:=Uv (by lia)
     obtain⟨u1,z1,w1⟩:=rv1.get e1
     obtain⟨u2,z2,w2⟩:=rv2.get e2
     have y1:its1.toArray[j]=u1:=by
      obtain⟨_,q⟩:=UJ.mp z1
      simpa using q
     have y2:its2.toArray[j]=u2:=by
      obtain⟨_,q⟩:=UJ.mp z2
      simpa using q
     rw[y1,y2]
     have:dP ds es j=fE ds[j] es[j]:=by unfold dP;rw[q1,q2]
     rw[this]
     have dl:=fw q1
     unfold cm at hd
     exact oZ I (n - 1) ds[j] es[j] xs1[j] xs2[j] u1 u2 A.in1 (by lia) (by show A.units+1+(n - 1)<Xu;lia) (hr1.get q1 e1) (d8.get q2 e2) w1 w2
    have q:=SeqAt.RcAt.tuples (A:=A) p1 p2 eA he
    rw[l1,l2,fK] at q
    unfold fE
    exact q
   |lst es =>
    unfold aN at h2;obtain⟨a2,xs2,rfl,bE,d8⟩:=h2;cases r2;obtain⟨its2,rv2,p2,i9⟩:=I.list bE
    exact SeqAt.RcAt.tuple_list p1 p2.isList eA
  |lst ds =>
   unfold aN at h1;obtain⟨a1,xs1,rfl,fu,hr1⟩:=h1;cases r1;obtain⟨its1,rv1,p1,hz1⟩:=I.list fu
   cases d2 with
   |non =>
    unfold aN at h2;subst h2;cases r2
    exact SeqAt.RcAt.list_none p1.isList eA
   |bl b2 =>
    unfold aN at h2;subst h2;cases r2
    exact SeqAt.RcAt.list_bool b2 p1.isList eA
   |int b2 =>
    unfold aN at h2;subst h2;obtain⟨t2,rfl⟩:=r2
    exact SeqAt.RcAt.list_int b2 t2 p1.isList eA
   |str b2 =>
    unfold aN at h2;subst h2;obtain⟨t2,rfl⟩:=r2
    exact SeqAt.RcAt.list_str b2 t2 p1.isList eA
   |tup es =>
    unfold aN at h2;obtain⟨a2,xs2,rfl,bE,d8⟩:=h2;cases r2;obtain⟨its2,rv2,p2,i9⟩:=I.tuple bE
    exact SeqAt.RcAt.list_tuple p1.isList p2 eA
   |lst es =>
    unfold aN at h2;obtain⟨a2,xs2,rfl,bE,d8⟩:=h2;cases r2;obtain⟨its2,rv2,p2,i9⟩:=I.list bE
    have l1:its1.toArray.size=ds.length:=by rw[UC,←rv1.length,hr1.length]
    have l2:its2.toArray.size=es.length:=by rw[UC,←rv2.length,d8.length]
    have k1:xs1.length=ds.length:=hr1.length.symm
    have k2:xs2.length=es.length:=d8.length.symm
    have he:∀j (h1:j<its1.toArray.size) (h2:j<its2.toArray.size),XA A.in1 s its1.toArray[j] its2.toArray[j] (dP ds es j):=fun j g1 g2=>by
     have q1:ds[j]? = some ds[j]:=Uv (by lia)
     have q2:es[j]? = some es[j]:=Uv (by lia)
     have e1:xs1[j]? = some xs1[j]:=Uv (by lia)
     have e2:xs2[j]? = some xs2[j]:=Uv (by lia)
     obtain⟨u1,z1,w1⟩:=rv1.get e1
     obtain⟨u2,z2,w2⟩:=rv2.get e2
     have y1:its1.toArray[j]=u1:=by
      obtain⟨_,q⟩:=UJ.mp z1
      simpa using q
     have y2:its2.toArray[j]=u2:=by
      obtain⟨_,q⟩:=UJ.mp z2
      simpa using q
     rw[y1,y2]
     have:dP ds es j=fE ds[j] es[j]:=by unfold dP;rw[q1,q2]
     rw[this]
     have dl:=fw q1
     unfold cm at hd
     exact oZ I (n - 1) ds[j] es[j] xs1[j] xs2[j] u1 u2 A.in1 (by lia) (by show A.units+1+(n - 1)<Xu;lia) (hr1.get q1 e1) (d8.get q2 e2) w1 w2
    unfold fE
    by_cases hl:ds.length=es.length
    ·have q:=SeqAt.RcAt.lists (A:=A) p1.isList p2.isList (by rw[l1,l2,hl]) eA he
     rw[l1] at q
     have z:=fK ds es
     rw[hl,Nat.min_self,beq_self_eq_true,Bool.and_true] at z
     rw[hl,z] at q
     exact q
    ·rw[oY hl]
     exact Zo (A:=A) p1.isList p2.isList (by rw[l1,l2];simpa using hl) eA
theorem Au (I:aF X pins σ H s)(n:Nat)(d1 d2:D)(x y:V)(u v:Uz)(A:VE)(hd:cm d1≤n)(hu:A.units+n<Xu)(h1:aN X.K H d1 x)(h2:aN X.K H d2 y)(r1:bN x u)(r2:bN y v):SeqAt.RcNeAt A s u v (!fE d1 d2):=by
  have eA:A.units<Xu:=by lia
  cases d1 with
  |non =>
   unfold aN at h1;subst h1;cases r1
   cases d2 with
   |non =>
    unfold aN at h2;subst h2;cases r2
    exact SeqAt.RcNeAt.none_none
   |bl b2 =>
    unfold aN at h2;subst h2;cases r2
    exact SeqAt.RcNeAt.none_bool b2
   |int b2 =>
    unfold aN at h2;subst h2;obtain⟨t2,rfl⟩:=r2
    exact SeqAt.RcNeAt.none_int b2 t2
   |str b2 =>
    unfold aN at h2;subst h2;obtain⟨t2,rfl⟩:=r2
    exact SeqAt.RcNeAt.none_str b2 t2
   |tup es =>
    unfold aN at h2;obtain⟨a2,xs2,rfl,bE,d8⟩:=h2;cases r2;obtain⟨its2,rv2,p2,i9⟩:=I.tuple bE
    exact SeqAt.RcNeAt.none_tuple p2 eA
   |lst es =>
    unfold aN at h2;obtain⟨a2,xs2,rfl,bE,d8⟩:=h2;cases r2;obtain⟨its2,rv2,p2,i9⟩:=I.list bE
    exact SeqAt.RcNeAt.none_list p2.isList eA
  |bl b1 =>
   unfold aN at h1;subst h1;cases r1
   cases d2 with
   |non =>
    unfold aN at h2;subst h2;cases r2
    exact SeqAt.RcNeAt.bool_none b1
   |bl b2 =>
    unfold aN at h2;subst h2;cases r2
    exact SeqAt.RcNeAt.bool_bool b1 b2
   |int b2 =>
    unfold aN at h2;subst h2;obtain⟨t2,rfl⟩:=r2
    exact SeqAt.RcNeAt.bool_int b1 b2 t2
   |str b2 =>
    unfold aN at h2;subst h2;obtain⟨t2,rfl⟩:=r2
    exact SeqAt.RcNeAt.bool_str b1 b2 t2
   |tup es =>
    unfold aN at h2;obtain⟨a2,xs2,rfl,bE,d8⟩:=h2;cases r2;obtain⟨its2,rv2,p2,i9⟩:=I.tuple bE
    exact SeqAt.RcNeAt.bool_tuple b1 p2 eA
   |lst es =>
    unfold aN at h2;obtain⟨a2,xs2,rfl,bE,d8⟩:=h2;cases r2;obtain⟨its2,rv2,p2,i9⟩:=I.list bE
    exact SeqAt.RcNeAt.bool_list b1 p2.isList eA
  |int b1 =>
   unfold aN at h1;subst h1;obtain⟨t1,rfl⟩:=r1
   cases d2 with
   |non =>
    unfold aN at h2;subst h2;cases r2
    exact SeqAt.RcNeAt.int_none b1 t1
   |bl b2 =>
    unfold aN at h2;subst h2;cases r2
    exact SeqAt.RcNeAt.int_bool b1 t1 b2
   |int b2 =>
    unfold aN at h2;subst h2;obtain⟨t2,rfl⟩:=r2
    exact SeqAt.RcNeAt.int_int b1 t1 b2 t2
   |str b2 =>
    unfold aN at h2;subst h2;obtain⟨t2,rfl⟩:=r2
    exact SeqAt.RcNeAt.int_str b1 t1 b2 t2
   |tup es =>
    unfold aN at h2;obtain⟨a2,xs2,rfl,bE,d8⟩:=h2;cases r2;obtain⟨its2,rv2,p2,i9⟩:=I.tuple bE
    exact SeqAt.RcNeAt.int_tuple b1 t1 p2 eA
   |lst es =>
    unfold aN at h2;obtain⟨a2,xs2,rfl,bE,d8⟩:=h2;cases r2;obtain⟨its2,rv2,p2,i9⟩:=I.list bE
    exact SeqAt.RcNeAt.int_list b1 t1 p2.isList eA
  |str b1 =>
   unfold aN at h1;subst h1;obtain⟨t1,rfl⟩:=r1
   cases d2 with
   |non =>
    unfold aN at h2;subst h2;cases r2
    exact SeqAt.RcNeAt.str_none b1 t1
   |bl b2 =>
    unfold aN at h2;subst h2;cases r2
    exact SeqAt.RcNeAt.str_bool b1 t1 b2
   |int b2 =>
    unfold aN at h2;subst h2;obtain⟨t2,rfl⟩:=r2
    exact SeqAt.RcNeAt.str_int b1 t1 b2 t2
   |str b2 =>
    unfold aN at h2;subst h2;obtain⟨t2,rfl⟩:=r2
    exact SeqAt.RcNeAt.str_str b1 t1 b2 t2
   |tup es =>
    unfold aN at h2;obtain⟨a2,xs2,rfl,bE,d8⟩:=h2;cases r2;obtain⟨its2,rv2,p2,i9⟩:=I.tuple bE
    exact SeqAt.RcNeAt.str_tuple b1 t1 p2 eA
   |lst es =>
    unfold aN at h2;obtain⟨a2,xs2,rfl,bE,d8⟩:=h2;cases r2;obtain⟨its2,rv2,p2,i9⟩:=I.list bE
    exact SeqAt.RcNeAt.str_list b1 t1 p2.isList eA
  |tup ds =>
   unfold aN at h1;obtain⟨a1,xs1,rfl,fu,hr1⟩:=h1;cases r1;obtain⟨its1,rv1,p1,hz1⟩:=I.tuple fu
   cases d2 with
   |non =>
    unfold aN at h2;subst h2;cases r2
    exact SeqAt.RcNeAt.tuple_none p1 eA
   |bl b2 =>
    unfold aN at h2;subst h2;cases r2
    exact SeqAt.RcNeAt.tuple_bool b2 p1 eA
   |int b2 =>
    unfold aN at h2;subst h2;obtain⟨t2,rfl⟩:=r2
    exact SeqAt.RcNeAt.tuple_int b2 t2 p1 eA
   |str b2 =>
    unfold aN at h2;subst h2;obtain⟨t2,rfl⟩:=r2
    exact SeqAt.RcNeAt.tuple_str b2 t2 p1 eA
   |tup es =>
    unfold aN at h2;obtain⟨a2,xs2,rfl,bE,d8⟩:=h2;cases r2;obtain⟨its2,rv2,p2,i9⟩:=I.tuple bE
    have l1:its1.toArray.size=ds.length:=by rw[UC,←rv1.length,hr1.length]
    have l2:its2.toArray.size=es.length:=by rw[UC,←rv2.length,d8.length]
    have k1:xs1.length=ds.length:=hr1.length.symm
    have k2:xs2.length=es.length:=d8.length.symm
    have he:∀j (h1:j<its1.toArray.size) (h2:j<its2.toArray.size),XA A.in1 s its1.toArray[j] its2.toArray[j] (dP ds es j):=fun j g1 g2=>by
     have q1:ds[j]? = some ds[j]:=Uv (by lia)
     have q2:es[j]? = some es[j]:=Uv (by lia)
     have e1:xs1[j]? = some xs1[j]:=Uv (by lia)
     have e2:xs2[j]? = some xs2[j]:=Uv (by lia)
     obtain⟨u1,z1,w1⟩:=rv1.get e1
     obtain⟨u2,z2,w2⟩:=rv2.get e2
     have y1:its1.toArray[j]=u1:=by
      obtain⟨_,q⟩:=UJ.mp z1
      simpa using q
     have y2:its2.toArray[j]=u2:=by
      obtain⟨_,q⟩:=UJ.mp z2
      simpa using q
     rw[y1,y2]
     have:dP ds es j=fE ds[j] es[j]:=by unfold dP;rw[q1,q2]
     rw[this]
     have dl:=fw q1
     unfold cm at hd
     exact oZ I (n - 1) ds[j] es[j] xs1[j] xs2[j] u1 u2 A.in1 (by lia) (by show A.units+1+(n - 1)<Xu;lia) (hr1.get q1 e1) (d8.get q2 e2) w1 w2
    have q:=SeqAt.RcNeAt.tuples (A:=A) p1 p2 eA he
    rw[l1,l2,fK] at q
    unfold fE
    exact q
   |lst es =>
    unfold aN at h2;obtain⟨a2,xs2,rfl,bE,d8⟩:=h2;cases r2;obtain⟨its2,rv2,p2,i9⟩:=I.list bE
    exact SeqAt.RcNeAt.tuple_list p1 p2.isList eA
  |lst ds =>
   unfold aN at h1;obtain⟨a1,xs1,rfl,fu,hr1⟩:=h1;cases r1;obtain⟨its1,rv1,p1,hz1⟩:=I.list fu
   cases d2 with
   |non =>
    unfold aN at h2;subst h2;cases r2
    exact SeqAt.RcNeAt.list_none p1.isList eA
   |bl b2 =>
    unfold aN at h2;subst h2;cases r2
    exact SeqAt.RcNeAt.list_bool b2 p1.isList eA
   |int b2 =>
    unfold aN at h2;subst h2;obtain⟨t2,rfl⟩:=r2
    exact SeqAt.RcNeAt.list_int b2 t2 p1.isList eA
   |str b2 =>
    unfold aN at h2;subst h2;obtain⟨t2,rfl⟩:=r2
    exact SeqAt.RcNeAt.list_str b2 t2 p1.isList eA
   |tup es =>
    unfold aN at h2;obtain⟨a2,xs2,rfl,bE,d8⟩:=h2;cases r2;obtain⟨its2,rv2,p2,i9⟩:=I.tuple bE
    exact SeqAt.RcNeAt.list_tuple p1.isList p2 eA
   |lst es =>
    unfold aN at h2;obtain⟨a2,xs2,rfl,bE,d8⟩:=h2;cases r2;obtain⟨its2,rv2,p2,i9⟩:=I.list bE
    have l1:its1.toArray.size=ds.length:=by rw[UC,←rv1.length,hr1.length]
    have l2:its2.toArray.size=es.length:=by rw[UC,←rv2.length,d8.length]
    have k1:xs1.length=ds.length:=hr1.length.symm
    have k2:xs2.length=es.length:=d8.length.symm
    have he:∀j (h1:j<its1.toArray.size) (h2:j<its2.toArray.size),XA A.in1 s its1.toArray[j] its2.toArray[j] (dP ds es j):=fun j g1 g2=>by
     have q1:ds[j]? = some ds[j]:=Uv (by lia)
     have q2:es[j]? = some es[j]:=Uv (by lia)
     have e1:xs1[j]? = some xs1[j]:=Uv (by lia)
     have e2:xs2[j]? = some xs2[j]:=Uv (by lia)
     obtain⟨u1,z1,w1⟩:=rv1.get e1
     obtain⟨u2,z2,w2⟩:=rv2.get e2
     have y1:its1.toArray[j]=u1:=by
      obtain⟨_,q⟩:=UJ.mp z1
      simpa using q
     have y2:its2.toArray[j]=u2:=by
      obtain⟨_,q⟩:=UJ.mp z2
      simpa using q
     rw[y1,y2]
     have:dP ds es j=fE ds[j] es[j]:=by unfold dP;rw[q1,q2]
     rw[this]
     have dl:=fw q1
     unfold cm at hd
     exact oZ I (n - 1) ds[j] es[j] xs1[j] xs2[j] u1 u2 A.in1 (by lia) (by show A.units+1+(n - 1)<Xu;lia) (hr1.get q1 e1) (d8.get q2 e2) w1 w2
    unfold fE
    by_cases hl:ds.length=es.length
    ·have q:=SeqAt.RcNeAt.lists (A:=A) p1.isList p2.isList (by rw[l1,l2,hl]) eA he
     rw[l1] at q
     have z:=fK ds es
     rw[hl,Nat.min_self,beq_self_eq_true,Bool.and_true] at z
     rw[hl,z] at q
     exact q
    ·rw[oY hl]
     exact SeqAt.RcNeAt.lists_lengths (A:=A) p1.isList p2.isList (by rw[l1,l2];simpa using hl) eA
noncomputable def Hl (K:UB)(f:Bool→Bool):R2:=fun x y H Q=>∃d1 d2,aN K H d1 x∧aN K H d2 y∧cm d1≤30∧Q (.bl (f (fE d1 d2))) H
theorem sF (hu:X.A.units+64<Xu):jK X (WV .Eq) (Hl X.K id):=by
 intro pins s σ H x y v u Q I rx ry h
 obtain⟨d1,d2,h1,h2,hd,q⟩:=h
 exact Hk I 30 d1 d2 x y v u X.A hd (by lia) h1 h2 rx ry X.prog X.w X.xe _ ⟨.bl _,H,I,rfl,q⟩
theorem v9 (hu:X.A.units+64<Xu):jK X (WV .NotEq) (Hl X.K not):=by
 intro pins s σ H x y v u Q I rx ry h
 obtain⟨d1,d2,h1,h2,hd,q⟩:=h
 exact Au I 30 d1 d2 x y v u X.A hd (by lia) h1 h2 rx ry X.prog X.w X.xe _ ⟨.bl _,H,I,rfl,q⟩
end L2
variable {dx:L2.D}{ds:List L2.D}
namespace L2
noncomputable def fc (n m:String):Bool:=(n==m)||(n=="bool"&&m=="int")
theorem Av (K:UB){n m:String}(hn:n∈["NoneType","bool","int","str","list","tuple","dict"])(hm:m∈["bool","int","str","list","tuple","dict"]) :
  PySem.W.kitOne K (.type n) (.type m)=some (fc n m):=by
 simp only[UU,Wz,or_false] at hn hm
 rcases hn with rfl|rfl|rfl|rfl|rfl|rfl|rfl<;>rcases hm with rfl|rfl|rfl|rfl|rfl|rfl<;>kernel_rfl
inductive qD (K:UB)(H:Hp):V→String→Prop where
 |non:qD K H .non "NoneType"
 |bl (x:Bool):qD K H (.bl x) "bool"
 |int (i:Int):qD K H (.int i) "int"
 |str (x:Str):qD K H (.str x) "str"
 |lst {a:UY} {xs:List V} (e:H a=some (.lst xs)):qD K H (.ref a) "list"
 |frz {a:UY} {o:Obj} {xs:List V} (e:H a=some (.frz o (.lst xs))):qD K H (.ref a) "list"
 |tup {a:UY} {xs:List V} (e:H a=some (.tup xs)):qD K H (.ref a) "tuple"
 |dK {a:UY} {gg:List (qy×V)} (e:H a=some (.dK gg)):qD K H (.ref a) "dict"
 |dT {a:UY} {gg:List (List qy×V)} (e:H a=some (.dT gg)):qD K H (.ref a) "dict"
theorem qD.mem {x:V}{n:String}(h:qD K H x n):n∈["NoneType","bool","int","str","list","tuple","dict"]:=by
 cases h<;>simp
theorem qD.ty {x:V}{n:String}(h:qD K H x n):lW K H x (.type n):=by
 cases h with
 |non=>exact .non
 |bl=>exact .bl _
 |int=>exact .int _
 |str=>exact .str _
 |lst e=>exact .lst e
 |frz e=>exact .frz e
 |tup e=>exact .tup e
 |dK e=>exact .dK e
 |dT e=>exact .dT e
theorem uq {m:String}(hm:m∈["bool","int","str","list","tuple","dict"]):eM X (.builtin "isinstance") (fun xs H Q=>∃x n,xs=[x,.ty m]∧qD X.K H x n∧Q (.bl (fc n m)) H):=by
 intro pins s σ H xs us Q I r h
 obtain⟨x,n,rfl,ty,q⟩:=h
 obtain⟨u,w',rfl,rx,rt⟩:=uh r
 cases rt
 exact yX I rx ty.ty (Av X.K ty.mem hm) fun tk=>⟨.bl _,H,I.tok tk,rfl,q⟩
theorem mS:eM X (.type "range") (fun xs H Q=>∃j,xs=[.int j]∧∀p,H p=none→Q (.ref p) (eB H p (.rng 0 j))):=by
 intro pins s σ H xs us Q I r h
 obtain⟨j,rfl,q⟩:=h
 obtain⟨u,rfl,rx⟩:=iA r
 obtain⟨t,rfl⟩:=rx
 refine call_range_1 ⟨.ref s.heap.objs.size,eB H s.heap.objs.size (.rng 0 j),I.laid (fun b u e=>Uy _ e) (UK _) ?_,rfl,q _ (I.hok.fresh (UK _))⟩
 exact⟨_,_,_,UN _ rfl⟩
theorem o5 {a:Int}{bY:Array Uz}(h:ItemsOf (fun i v=>∃t,v=Value.int (a+i*1) t) bY n):aU ((Vc n).map fun i=>V.int (a+(i:Nat))) bY.toList:=by
 obtain⟨hs,hi⟩:=h
 have gen:∀(l:List Uz) (k:Nat),(∀(i:Nat) v,l[i]? = some v→∃t,v=Value.int (a+((k+i:Nat):Int)*1) t)→aU ((List.range' k l.length).map fun i=>V.int (a+(i:Nat))) l:=by
  intro l
  induction l with
  |nil=>intro k _;exact .nil
  |cons v r ih =>
   intro k hk
   rw[UI,List.range'_succ,UT]
   refine .cons ?_ (ih (k+1) fun i v e => ?_)
   ·obtain⟨t,e⟩:=hk 0 v rfl
    exact⟨t,by rw[e];simp⟩
   ·obtain⟨t,e'⟩:=hk (i+1) v (by simpa using e)
    refine⟨t,?_⟩
    rw[e',show k+(i+1)=k+1+i by lia]
 have q:=gen bY.toList 0 (fun i v e=>by
  obtain⟨t,e'⟩:=hi i v (by simpa using e)
  exact⟨t,by rw[e',WZ]⟩)
 rw[UE,hs] at q
 rw[List.range_eq_range']
 exact q
theorem qE (hc:X.calm=true):eM X (.type "list") (fun xs H Q=>∃p lo hi,xs=[.ref p]∧H p=some (.rng lo hi)∧(-(2 ^ 62)≤lo∧lo<2 ^ 62 ∧ -(2 ^ 62)≤hi∧hi<2 ^ 62)∧(hi - lo).toNat≤2 ^ 20 ∧
  ∀l,H l=none→Q (.ref l) (eB H l (.lst ((Vc (hi - lo).toNat).map fun i=>V.int (lo+(i:Nat)))))):=by
 intro pins s σ H xs us Q I r h
 obtain⟨p,lo,hi,rfl,hp,⟨h1,h2,h3,h4⟩,hz,q⟩:=h
 obtain⟨u,rfl,rx⟩:=iA r
 cases rx
 obtain⟨t,u,v,e⟩:=I.hok p _ hp
 refine call_list_range (n:=(hi - lo).toNat) (I.ok.hd hc) (c:=1) (show IsRange s.heap p lo hi 1 t u v from e) (small_one h1 h2 h3 h4) (by rw[rangeSize_one];split<;>lia) (by lia) fun h' tk IU c' hk IV oj => ?_
 have hl:((Vc (hi - lo).toNat).map fun i=>V.int (lo+(i:Nat))).length≤UA:=by
  rw[Ux,Vx,W7];lia
 refine⟨.ref s.heap.objs.size,_,I.laid hk (UK _) (show cU X.prog X.w _ _ _ (.lst _) from ⟨hl,IU.toList,c',o5 oj,by simpa using IV⟩),rfl,q _ (I.hok.fresh (UK _))⟩
noncomputable def Aw (i j:Int):Prop:=0<j∧j<18446744073709551616
theorem v_ (h:n<18446744073709551616):n.log2<9000:=by
 by_cases h0:n=0
 ·subst h0;decide
 ·have:=(Nat.log2_lt h0 (k:=64)).mpr (by lia)
  lia
theorem lY:jK X (Xq .FloorDiv) (rI Aw fun i j=>.int (i / j)):=LH fun i j _ _ _ _ _ hc q=>by
 refine floordiv_int (by have:=hc.1;lia) ?_ (.inl (PyProof.noPylong_of_log2 (v_ (by have:=hc.1;have:=hc.2;lia))))
 rw[Int.fdiv_eq_ediv_of_nonneg _ (by have:=hc.1;lia)]
 exact q
theorem ou:Vs "list"=some (.type "list"):=by decide +kernel
theorem bZ:Vs "tuple"=some (.type "tuple"):=by decide +kernel
theorem Ax:Vs "int"=some (.type "int"):=by decide +kernel
theorem xo:Vs "bool"=some (.type "bool"):=by decide +kernel
theorem ur:Vs "range"=some (.type "range"):=by decide +kernel
theorem fY:Vs "len"=some (.builtin "len"):=by decide +kernel
theorem wa:Vs "max"=some (.builtin "max"):=by decide +kernel
theorem Ay:Vs "min"=some (.builtin "min"):=by decide +kernel
theorem jP:Vs "isinstance"=some (.builtin "isinstance"):=by decide +kernel
theorem q9:Vs "sorted"=some (.builtin "sorted"):=by decide +kernel
theorem Hm:Vs "all"=some (.builtin "all"):=by decide +kernel
theorem Hn:Vs "sum"=some (.builtin "sum"):=by decide +kernel
end L2
namespace HT
open L2
section
variable {A:VE}
theorem getItem_tuple_whole {t sl:UY}{vl vu:Uz}(ht:IsTup s.heap t items)(hs:s.heap.IsSliceOf sl vl vu .none)(pl:IsPart vl lo)(pu:IsPart vu hi)(hw:sIx items.size 0 lo=0∧sIx items.size items.size hi=items.size)(h:Q (.ref t) s):U4 (Vf prog w) A (getItem (.ref t) (.ref sl)) Q E s:=by
 obtain⟨os,Dg,hcs,hds⟩:=id hs
 have Nv:s.TypeIs (.ref sl) "slice":=⟨os,Dg,hcs⟩
 unfold getItem
 try with_reducible refine Wl ?_
 first|refine Uw (UD ?_)|skip
 refine Uw (wpAny_sequenceKey ht.typeIs (by decide) ?_)
 refine Uw (VQ (name:=UO "__getitem__") ht.typeIs Wu
  (V2 Wu ht.typeIs entry_tuple_getitem ?_ (args_tuple_getitem _ _)))
 show U4 _ _ (Y1 (.ref t) >>= _) _ _ s
 refine Uw (tupleItemsOf_ ht ?_)
 refine Uw (YB Nv ?_)
 rw[if_pos (by decide)]
 refine Uw (iB hs pl pu ?_)
 obtain⟨w1,w2⟩:=hw
 rw[w1,w2]
 show U4 _ _ (if (((0:Nat):Int)==0&&(1:Int)==1&&(items.size - 0)==items.size)=true then _ else _) _ _ s
 rw[if_pos (by simp)]
 have C7:U4 (Vf prog w) A.in1 (Y2 (.ref t)) (fun b s'=>b=true∧s'=s) E s:=by
  unfold Y2
  exact Uw (YB ht.typeIs (UD ⟨by decide,rfl⟩))
 refine Uw (V3 C7 (fun b s' hb => ?_) fun _ _ e=>e)
 obtain⟨rfl,rfl⟩:=hb
 rw[if_pos rfl]
 exact Uw (Xn (UD ⟨_,rfl,UD h⟩))
end
end HT
namespace L2
theorem o7 {p:UY}(h:H p=none)(o:HO):aM H (eB H p o):=fun b u q=>by rw[bh (bO q h)];exact q
section
open AutoSeq1 (wpAny_loadPart')
theorem jM {A:VE}{Q:List Uz→UQ→Prop}{r:UY}{a b c:Int}{t u v:Tok}(hh:A.handled=none)(hr:IsRange s.heap r a b c t u v)(w_:Builtin.Range.small a b c=true)(hn:X3 a b c=n)(cY:n≤2 ^ 24)(hQ:∀h' tk (bY:Array Uz),(∀b o',s.heap.get? b=some o'→h'.get? b=some o')→ItemsOf (fun i v=>∃t,v=.int (a+i*c) t) bY n→Q bY.toList {s with heap:=h',toks:=tk}) :
  U4 (Vf prog w) A (collect (.ref r)) Q E s:=by
 unfold collect
 refine Uw (wpAny_runValue (WN F.entry_proto_collect ?_))
 rw[Ws F.plain_proto_collect _]
 show U4 _ A.in1 (newList [] >>= fun l=>again (.builtin "list.__iadd__" ⟨[l,.ref r],[]⟩)) _ _ s
 refine Uw (VI ?_)
 refine UD ⟨plainId_quiet F.plain_list_iadd _,WN F.entry_list_iadd ?_⟩
 rw[Ws F.plain_list_iadd _]
 have hS:(s.heap.push {cls:=.type "list",data:=.seq ([]:List Uz).toArray}).get? s.heap.objs.size=some {cls:=.type "list",data:=.seq #[] 0}:=UN _ rfl
 show U4 _ A.in1 (YR (.ref s.heap.objs.size) (.ref r) (.ref s.heap.objs.size)) _ _ _
 refine V3 (wpAny_extend_range (A:=A) (R:=fun res s'=>res=.ok (.ret (.ref s.heap.objs.size))∧U4 (Vf prog w) A (load s.heap.objs.size >>= fun o=>match o.data with|.seq xs _=>pure xs.toList|_=>XW "internal:collect") Q E s')
  hh (Uy _ hr) w_ hn cY s.heap.objs.size _ 0 hS fun h' tk IU c' hk IV oj=>⟨rfl,?_⟩) (fun fin s' h => ?_) fun e s' h=>absurd h.1 (by simp)
 ·refine Uw (wpAny_load IV (UD ?_))
  exact hQ h' tk IU (fun b o' hb=>hk b o' (Ve (UR hb)) (Uy _ hb)) oj
 ·cases fin with
  |done f =>
   obtain⟨e,q⟩:=h
   cases e
   exact q
  |again c'=>exact⟨h.1,Yz h.2 fun r CL hr=>by obtain⟨rfl,q⟩:=hr;exact q⟩
theorem i4 (l:UY)(a b c:Int)(t u v:Tok)(n:Nat)(w_:Builtin.Range.small a b c=true)(hn:X3 a b c=n)(cY:n≤2 ^ 20) :
  Meets (Builtin.«tuple.__new__» ⟨[.type "tuple",.ref l],[]⟩)
   (fun A R s=>A.handled=none∧IsRange s.heap l a b c t u v∧∀(h':Xi) (tk:Nat) (bY:Array Uz),(∀b o',s.heap.get? b=some o'→h'.get? b=some o')→ItemsOf (fun i v=>∃t,v=.int (a+i*c) t) bY n →
    R (.ok (.ret (.ref h'.objs.size))) {s with heap:=h'.push {cls:=.type "tuple",data:=.seq bY},toks:=tk}) :=
 .of_wp fun prog w A R s h=>by
  obtain⟨hp,g,d,tk,os⟩:=s;obtain⟨hh,ht,h⟩:=h
  have RL:=sub_tuple_self
  have Qz:=init_tuple_lookup
  have Ul:=madeHere_tuple
  have hT:Shared.TypeIs ⟨hp,g,d,tk,os⟩ (.ref l) "range":=⟨_,ht,rfl⟩
  wp_walk using YB hT,jM (A:=A.in1) hh ht w_ hn (by lia)
  intro h' NJ bY hk oj
  show U4 _ _ (Wi bY.toList.toArray >>= fun v=>ret v) _ _ _
  unfold Wi
  refine Uw (VI ?_ (by show bY.toList.toArray.size≤UA;rw[W7];simp;have:=oj.1;lia))
  refine UD ⟨_,rfl,?_⟩
  have e:bY.toList.toArray=bY:=by simp
  rw[e]
  exact h h' NJ bY hk oj
theorem o_ (hc:X.calm=true):eM X (.type "tuple") (fun xs H Q=>∃p lo hi,xs=[.ref p]∧H p=some (.rng lo hi)∧(-(2 ^ 62)≤lo∧lo<2 ^ 62 ∧ -(2 ^ 62)≤hi∧hi<2 ^ 62)∧(hi - lo).toNat≤2 ^ 20 ∧
  ∀l,H l=none→Q (.ref l) (eB H l (.tup ((Vc (hi - lo).toNat).map fun i=>V.int (lo+(i:Nat)))))):=by
 intro pins s σ H xs us Q I r h
 obtain⟨p,lo,hi,rfl,hp,⟨h1,h2,h3,h4⟩,hz,q⟩:=h
 obtain⟨u,rfl,rx⟩:=iA r
 cases rx
 obtain⟨t,u,v,e⟩:=I.hok p _ hp
 refine callType_new F.called_tuple (by decide) (F.typeCall_tuple_1 _) (F.newCall_tuple_1 _) (fun obj=>F.args_object_init_2 obj _) F.entry_tuple_new
  (i4 p lo hi 1 t u v (hi - lo).toNat (small_one h1 h2 h3 h4) (by rw[rangeSize_one];split<;>lia) hz) ⟨I.ok.hd hc,e,fun h' tk bY hk oj=>⟨⟨_,UN _ rfl,rfl⟩,?_⟩⟩
 have hl:((Vc (hi - lo).toNat).map fun i=>V.int (lo+(i:Nat))).length≤UA:=by
  rw[Ux,Vx,W7];lia
 have I1:aF X pins σ H {s with heap:=h',toks:=tk}:=I.kept hk
 refine⟨.ref h'.objs.size,_,I1.laid (t':=tk) (fun b o e=>Uy _ e) (UK _) (show cU X.prog X.w _ _ _ (.tup _) from ⟨hl,bY.toList,o5 oj,by simpa using IsTup.new h' bY,0,by simpa using UN h' rfl⟩),rfl,q _ (I1.hok.fresh (UK _))⟩
end
end L2
namespace HT
open L2
end HT
namespace L2
noncomputable def uu:V→List V→Hp→VK→Prop:=fun x vs H Q=>∃l b xs zs,x=.ref l∧vs=[.ref b]∧H l=some (.lst xs)∧H b=some (.tup zs)∧xs.length+zs.length≤UA∧Q .non (eB H l (.lst (xs++zs)))
theorem wc:MK X "list.extend" uu:=by
 intro pins s σ H x vs v us Q I rx rv h
 obtain⟨l,b,xs,zs,rfl,rfl,hH,hB,hz,q⟩:=h
 cases rx
 obtain⟨u,rfl,ru⟩:=rv.one
 cases ru
 obtain⟨z,ar,n,r,hl,e⟩:=I.lstM hH
 obtain⟨z2,its2,r2,_,n2,e2⟩:=I.hok b _ hB
 have IW:=r2.length
 have hsz:ar.toArray.size+its2.toArray.size≤UA:=by rw[UC,UC];lia
 have CS:¬(!ar.toArray.isEmpty&&Xf (ar.toArray.size+its2.toArray.size))=true:=by
  rw[oU hsz,Yt]
  exact UG
 refine Zn F.slot_list_extend ⟨_,e,rfl⟩ F.entry_list_extend (F.args_list_extend_2 _ _)
  (AutoSeq1.list_extend_list_tuple_0 l ar.toArray n b its2.toArray n2 CS (by rw[UC];lia) (by lia)) ⟨e,e2,?_⟩
 refine⟨.non,_,I.lset (its':=ar++its2) hH e (by simp) (r.append r2) ?_,rfl,q⟩
 rw[UH]
 lia
theorem za {bs:List Bool}{us:List Uz}(r:aU (bs.map V.bl) us){v:Uz}(h:us[i]? = some v):v=.bool (bs.getD i true):=by
 have hl:=r.length
 rw[Ux] at hl
 obtain⟨hi,_⟩:=UJ.mp h
 have e:(bs.map V.bl)[i]? = some (V.bl (bs.getD i true)):=by
  rw[U8,Uv (by lia)]
  simp[X9,Uv (show i<bs.length by lia)]
 obtain⟨u,hu,ru⟩:=r.get e
 rw[h] at hu
 cases hu
 exact ru
theorem zc (bs:List Bool):((Vc bs.length).all fun i=>bs.getD i true)=bs.all id:=by
 induction bs with
 |nil=>rfl
 |cons b bs ih =>
  rw[UI,List.range_succ_eq_map,List.all_cons,List.all_map,List.all_cons]
  congr 1
theorem zd (hc:X.calm=true):eM X (.builtin "all") (fun xs H Q=>∃(p:UY) (bs:List Bool),xs=[.ref p]∧fq X.K H p (bs.map V.bl)∧Q (.bl (bs.all id)) H):=by
 intro pins s σ H xs us Q I r h
 obtain⟨p,bs,rfl,hq,q⟩:=h
 obtain⟨u,rfl,rx⟩:=iA r
 cases rx
 obtain⟨ar,rv,pl,hz⟩:=I.list hq
 have hl:=pl.isList
 have xa:p<s.heap.objs.size:=by obtain⟨_,e,_⟩:=hl;exact UR e
 refine call_all_walk (Yi hl ?_)
 refine⟨s.heap.objs.size,_,_,_,_,_,fun i=>bs.getD i true,rfl,Walks.list (A:=X.A.in1) (I.ok.hd hc) _ p (Ve xa) ar.toArray,⟨⟨_,UN _ rfl,rfl,rfl⟩,hl.push _⟩,?_,fun h' tk hk => ?_⟩
 ·intro i v s' Q' E' hP RM
  have e:=za rv (i:=i) (v:=v) (by simpa using hP)
  subst e
  exact Xd RM
 ·have e:(Vc ar.toArray.size).all (fun i=>bs.getD i true)=bs.all id:=by
   rw[UC,←rv.length,Ux];exact zc bs
  rw[e]
  refine⟨.bl _,H,I.kept fun b o e=>hk b o (fun hm => ?_) (Uy _ e),rfl,q⟩
  rcases UU.mp hm with e1|hm
  ·exact absurd (e1▸UR e) (Wj _)
  ·cases hm
noncomputable def Az (K:UB):V→Option Int→Option Int→Hp→VK→Prop:=fun x lo hi H Q=>∃a xs,x=.ref a∧H a=some (.tup xs)∧∀r H',aM H H'→H' r=some (.tup (oT xs lo hi))→Q (.ref r) H'
theorem DP:Al X (Az X.K):=by
 have base:Al X (JO X.K):=Hg
 intro pins s σ H x v vl vu lo hi sl Q I rx hs pl pu h
 obtain⟨a,xs,rfl,oI,q⟩:=h
 have hx:gT X.K H a xs:=gT.of oI
 by_cases hw:HT.sIx xs.length 0 lo=0∧HT.sIx xs.length xs.length hi=xs.length
 ·cases rx
  obtain⟨ar,r,ht,hz⟩:=I.tuple hx
  have hl:ar.toArray.size=xs.length:=by rw[UC,r.length]
  refine⟨"tuple",_,PyProof.Rows.slot_tuple_getitem.lookup,ht.typeIs,HT.getItem_tuple_whole ht hs pl pu (by rw[hl];exact hw) ⟨.ref a,H,I,rfl,q a H (aM.refl _) ?_⟩⟩
  have e:oT xs lo hi=xs:=by unfold oT;rw[hw.1,hw.2];simp
  rw[e];exact oI
 ·exact base pins s σ H _ v vl vu lo hi sl Q I rx hs pl pu ⟨a,xs,rfl,hx,hw,fun p hp=>q p _ (o7 hp _) cC⟩
noncomputable def AA:R2:=fun x y H Q=>∃a b xs ys,x=.ref a∧y=.ref b∧H a=some (.tup xs)∧H b=some (.tup ys)∧xs.length+ys.length≤UA∧∀r H',aM H H'→H' r=some (.tup (xs++ys))→Q (.ref r) H'
theorem AB:jK X (Xq .Add) AA:=by
 intro pins s σ H x y v u Q I rx ry h
 obtain⟨a,b,xs,ys,rfl,rfl,xf,yO,hz,q⟩:=h
 have ha:gT X.K H a xs:=gT.of xf
 have hb:gT X.K H b ys:=gT.of yO
 by_cases hx:xs=[]
 ·subst hx
  cases rx
  cases ry
  obtain⟨ar,r1,p1,_⟩:=I.tuple ha
  obtain⟨its2,r2,p2,_⟩:=I.tuple hb
  have e1:ar=[]:=(aU.nil_iff r1).mpr rfl
  subst e1
  obtain⟨⟨cls,dd,data,sl⟩,ho,hc,n,hd⟩:=id p1
  obtain⟨⟨cls2,GA,data2,C5⟩,ho2,hc2,n2,C_⟩:=id p2
  simp only at hc hd hc2 C_
  subst hc hd hc2 C_
  exact concat_meets ⟨_,ho,rfl⟩ ⟨_,ho2,rfl⟩ noFill_tuple_add seq_tuple_add Yh X6 (XZ _ _)
   (tuple_addW0 a b ([]:List Uz).toArray its2.toArray n n2 dd GA sl C5 (by simp)) ⟨ho,ho2,⟨.ref b,H,I,rfl,q b H (aM.refl _) (by simpa using yO)⟩⟩
 ·refine DF pins s σ H _ _ v u Q I rx ry ⟨a,b,xs,ys,rfl,rfl,ha,hb,hx,hz,fun e => ?_,fun _ p hp=>q p _ (o7 hp _) cC⟩
  subst e
  exact q a H (aM.refl _) (by simpa using xf)
end L2
namespace L2
structure Fn (P:XI)(w:Xx)(K:UB)(mg:Str→Option Uz)(base:Xi)(x:Str)(k:Nat)(ps:List Str)(sp:Sp):Prop where
 ex:∃(f:UY) (fd:YJ),mg x=some (.ref f)∧Vd K (.ref f)=true∧qS K fd ps []∧jL P w K mg base uj k f fd ps sp
structure Df (K:UB)(mg:Str→Option Uz)(x:Str)(st:Stmt):Prop where
 ex:∃(f:UY) (fd:YJ),mg x=some (.ref f)∧C2 K x x st f fd
section
variable {base:Xi}
theorem Df.fn (d:Df K mg x st)(S:bq N ps (ah st))(hb:∀(kV eR pm:Uz) (an:Option UY) (bD ct:Uz) (us:List Uz),us.length=ps.length→Wm (US x x (aD st) (az st) (ah st) .none kV eR pm an bD ct) ⟨us,[]⟩=pure (ps.zip us))(len:∀vs H Q E,sp vs H Q E→vs.length=ps.length)(gH:∀(f:UY) (bD:Uz) (A:VE) (outer:List Env) (s:UQ) (H:Hp) (vs:List V) (Q:VK) (E:XK),fv k (A.deeper (Y8 x (ah st) s.heap.objs.size f bD))→sp vs H Q E →
   ∃t,sv (nV uj P w K mg base N x (ah st) f bD A outer s H E).nox (az st) t∧t {nx:=fun _ H'=>Q .non H',rt:=Q} (X2 N vs) H):Fn P w K mg base x (k+1) ps sp:=by
 obtain⟨f,fd,m,F⟩:=d.ex
 exact⟨f,fd,m,F.kp,F.binds hb,F.ok S len (gH f)⟩
end
section
variable {p:Pos}{e:WI}{es:List WI}{t:TA}
theorem uv (F:Fn X.prog X.w X.K X.mg X.base x k ps sp)(hr:fv k X.A)(ha:PA X (e::es) t)(hg:Gl X x:=by rfl)(w6:(x==("__debug__":Str))=false:=by decide)
  (he:UX (e::es) X.env=(false,Yg e X.env)::UX es X.env:=by rfl) (kv:(XF pos (UX es X.env)).any (·.1)=false:=by rfl) :
  PE X (.Call (.Name x p) (e::es) [] pos) (Fc sp [] E0 t):=by
 obtain⟨f,fd,hm,hk,hb,G⟩:=F.ex
 exact DB G hr hg hm hk hb .nil JW ha w6 he kv
end
theorem aM.seqT (e:aM H H')(h:gT K H a xs):gT K H' a xs:=by
 rcases h with (h|⟨o,h⟩)|h
 ·exact .inl (.inl (e _ _ h))
 ·exact .inl (.inr ⟨o,e _ _ h⟩)
 ·exact .inr h
mutual
theorem aM.rep {K:UB}{H H':Hp}(e:aM H H'):∀{d:D} {v:V},aN K H d v→aN K H' d v
 | .non,v,h=>by unfold aN at h ⊢;exact h
 | .bl b,v,h=>by unfold aN at h ⊢;exact h
 | .int b,v,h=>by unfold aN at h ⊢;exact h
 | .str b,v,h=>by unfold aN at h ⊢;exact h
 | .tup ds,v,h=>by
  unfold aN at h ⊢
  obtain⟨a,xs,r,q,z⟩:=h
  exact⟨a,xs,r,e.seqT q,aM.reps e z⟩
 | .lst ds,v,h=>by
  unfold aN at h ⊢
  obtain⟨a,xs,r,q,z⟩:=h
  exact⟨a,xs,r,e.seq q,aM.reps e z⟩
theorem aM.reps {K:UB}{H H':Hp}(e:aM H H'):∀{ds:List D} {vs:List V},ft K H ds vs→ft K H' ds vs
 | [],vs,h=>by unfold ft at h ⊢;exact h
 |d::ds,vs,h=>by
  unfold ft at h ⊢
  obtain⟨x,r,q,p,z⟩:=h
  exact⟨x,r,q,aM.rep e p,aM.reps e z⟩
end
end L2
namespace L2
inductive U where
 |non|bl (b:Bool)|int (i:Int)|str (x:Str)|tup (xs:List U)|lst (xs:List U)|dct (ks vs:List U)|scr (xs:List U)
instance:Inhabited U:=⟨.non⟩
inductive R (α:Type) where
 |ok (a:α)|exc (c:String) (u:U)|stk
noncomputable def R.bind {α β:Type}:R α→(α→R β)→R β
 | .ok a,f=>f a
 | .exc c u,_=>.exc c u
 | .stk,_=>.stk
noncomputable abbrev Ev:=List (Option U)
inductive SR where
 |nx (ρ:Ev)|rt (u:U) (ρ:Ev)|bk (ρ:Ev)|ct (ρ:Ev)|exc (c:String) (u:U)|stk
end L2
variable {us:List L2.U}{u s1:L2.U}{p:L2.U→L2.U→L2.R L2.U}{ρ:L2.Ev}{sg:L2.U→L2.Ev→L2.R L2.Ev}
namespace L2
open Sem (wp)
noncomputable instance Ra:DecidableEq U:=fun a b=>Classical.propDecidable (a=b)
mutual
noncomputable def ku (h:Xi):U→Uz→Prop
 | .int i,v=>∃t,v=.int i t
 | .tup us,v=>∃a items,v=.ref a∧h.IsTuple a items∧gQ h us items.toList
 |_,_=>False
noncomputable def gQ (h:Xi):List U→List Uz→Prop
 | [],vs=>vs=[]
 |u::us,vs=>∃v r,vs=v::r∧ku h u v∧gQ h us r
end
mutual
noncomputable def hK:U→Int
 | .int i=>hashInt i
 | .tup us=>reduceHash (Builtin.Tuple.tupleHashOf (P_ us))
 |_=>0
noncomputable def P_:List U→List Int
 | []=>[]
 |u::us=>hK u::P_ us
end
mutual
noncomputable def Rb:U→Nat
 | .tup us=>J1 us+1
 |_=>1
noncomputable def J1:List U→Nat
 | []=>0
 |u::us=>Rb u+J1 us
end
mutual
noncomputable def Rc:U→Nat
 | .tup us=>Ho us+1
 |_=>0
noncomputable def Ho:List U→Nat
 | []=>0
 |u::us=>max (Rc u) (Ho us)
end
theorem wd {x y:Array Uz}(h1:h.IsTuple a x)(h2:h.IsTuple a y):x=y:=by
 obtain⟨o,e,_,n,d⟩:=h1
 obtain⟨o',e',_,n',d'⟩:=h2
 rw[e] at e';cases e'
 rw[d] at d';cases d'
 rfl
mutual
theorem ku.inj {h:Xi}:∀{x y:U} {v:Uz},ku h x v→ku h y v→x=y
 | .int i,y,v,h1,h2=>by
  unfold ku at h1
  obtain⟨t,rfl⟩:=h1
  cases y<;>unfold ku at h2<;>first|exact h2.elim|skip
  ·obtain⟨u,e⟩:=h2;cases e;rfl
  ·obtain⟨_,_,e,_⟩:=h2;cases e
 | .str i,y,v,h1,h2=>by unfold ku at h1;exact h1.elim
 | .tup us,y,v,h1,h2=>by
  unfold ku at h1
  obtain⟨a,ar,rfl,q,z⟩:=h1
  cases y<;>unfold ku at h2<;>first|exact h2.elim|skip
  ·obtain⟨u,e⟩:=h2;cases e
  ·obtain⟨a',its',e,q',z'⟩:=h2
   cases e
   have:=wd q q'
   subst this
   rw[gQ.inj z z']
 | .non,y,v,h1,h2=>by unfold ku at h1;exact h1.elim
 | .bl _,y,v,h1,h2=>by unfold ku at h1;exact h1.elim
 | .lst _,y,v,h1,h2=>by unfold ku at h1;exact h1.elim
 | .dct _ _,y,v,h1,h2=>by unfold ku at h1;exact h1.elim
 | .scr _,y,v,h1,h2=>by unfold ku at h1;exact h1.elim
theorem gQ.inj {h:Xi}:∀{x y:List U} {vs:List Uz},gQ h x vs→gQ h y vs→x=y
 | [],y,vs,h1,h2=>by
  unfold gQ at h1
  subst h1
  cases y with
  |nil=>rfl
  |cons=>unfold gQ at h2;obtain⟨_,_,e,_⟩:=h2;cases e
 |u::us,y,vs,h1,h2=>by
  unfold gQ at h1
  obtain⟨v,r,rfl,p,q⟩:=h1
  cases y with
  |nil=>unfold gQ at h2;cases h2
  |cons =>
   unfold gQ at h2
   obtain⟨v',r',e,p',q'⟩:=h2
   cases e
   rw[ku.inj p p',gQ.inj q q']
end
mutual
theorem ku.keep {h h':Xi}(k:∀a ar,h.IsTuple a ar→h'.IsTuple a ar):∀{x:U} {v:Uz},ku h x v→ku h' x v
 | .int i,v,h1=>by unfold ku at h1 ⊢;exact h1
 | .str i,v,h1=>by unfold ku at h1;exact h1.elim
 | .tup us,v,h1=>by
  unfold ku at h1 ⊢
  obtain⟨a,ar,e,q,z⟩:=h1
  exact⟨a,ar,e,k a ar q,gQ.keep k z⟩
 | .non,v,h1=>by unfold ku at h1;exact h1.elim
 | .bl _,v,h1=>by unfold ku at h1;exact h1.elim
 | .lst _,v,h1=>by unfold ku at h1;exact h1.elim
 | .dct _ _,v,h1=>by unfold ku at h1;exact h1.elim
 | .scr _,v,h1=>by unfold ku at h1;exact h1.elim
theorem gQ.keep {h h':Xi}(k:∀a ar,h.IsTuple a ar→h'.IsTuple a ar):∀{x:List U} {vs:List Uz},gQ h x vs→gQ h' x vs
 | [],vs,h1=>by unfold gQ at h1 ⊢;exact h1
 |u::us,vs,h1=>by
  unfold gQ at h1 ⊢
  obtain⟨v,r,e,p,q⟩:=h1
  exact⟨v,r,e,ku.keep k p,gQ.keep k q⟩
end
noncomputable def Rf (p:List U×UY×V)(q:List U×UY×Uz):Prop:=p.1=q.1∧p.2.1=q.2.1∧bN p.2.2 q.2.2
noncomputable def MM (e:List U×UY×Uz):DictEntry:=⟨hK (.tup e.1),.ref e.2.1,e.2.2⟩
noncomputable def J2 (a:UY)(ep:Nat)(es:List (List U×UY×V))(h:Xi):Prop:=(a==sysModules)=false∧∃o ds,∃xs:List (List U×UY×Uz),h.get? a=some o∧o.ExactDict∧o.data=.dict ds ep∧Paired Rf es xs∧ds.toList=xs.map MM
noncomputable def DN (a:UY)(ep:Nat)(es:List (List U×UY×V)):HO:=.ext (J2 a ep es)
mutual
noncomputable def KH (H:Hp):U→V→Prop
 | .int i,v=>v=.int i
 | .tup us,v=>∃b ys,v=.ref b∧H b=some (.tup ys)∧us.length≤UA∧vR H us ys
 |_,_=>False
noncomputable def vR (H:Hp):List U→List V→Prop
 | [],vs=>vs=[]
 |u::us,vs=>∃v r,vs=v::r∧KH H u v∧vR H us r
end
mutual
theorem KH.to {H H':Hp}(e:∀b ys,H b=some (.tup ys)→H' b=some (.tup ys)):∀{u:U} {v:V},KH H u v→KH H' u v
 | .int i,v,h=>by unfold KH at h ⊢;exact h
 | .tup us,v,h=>by
  unfold KH at h ⊢
  obtain⟨b,ys,r,q,l,z⟩:=h
  exact⟨b,ys,r,e b ys q,l,vR.to e z⟩
 | .non,v,h=>by unfold KH at h;exact h.elim
 | .bl _,v,h=>by unfold KH at h;exact h.elim
 | .str _,v,h=>by unfold KH at h;exact h.elim
 | .lst _,v,h=>by unfold KH at h;exact h.elim
 | .dct _ _,v,h=>by unfold KH at h;exact h.elim
 | .scr _,v,h=>by unfold KH at h;exact h.elim
theorem vR.to {H H':Hp}(e:∀b ys,H b=some (.tup ys)→H' b=some (.tup ys)):∀{us:List U} {vs:List V},vR H us vs→vR H' us vs
 | [],vs,h=>by unfold vR at h ⊢;exact h
 |u::us,vs,h=>by
  unfold vR at h ⊢
  obtain⟨v,r,q,p,z⟩:=h
  exact⟨v,r,q,KH.to e p,vR.to e z⟩
end
mutual
theorem KH.is (ok:lT P w H h):∀{u:U} {v:V} {x:Uz},KH H u v→bN v x→ku h u x
 | .int i,v,x,k,r=>by
  unfold KH at k
  subst k
  obtain⟨t,rfl⟩:=r
  unfold ku;exact⟨t,rfl⟩
 | .tup us,v,x,k,r=>by
  unfold KH at k
  obtain⟨b,ys,rfl,q,_,z⟩:=k
  cases r
  obtain⟨_,ar,rv,it,_⟩:=ok b _ q
  unfold ku
  exact⟨b,ar.toArray,rfl,it,by simpa using vR.is ok z rv⟩
 | .non,v,x,k,r=>by unfold KH at k;exact k.elim
 | .bl _,v,x,k,r=>by unfold KH at k;exact k.elim
 | .str _,v,x,k,r=>by unfold KH at k;exact k.elim
 | .lst _,v,x,k,r=>by unfold KH at k;exact k.elim
 | .dct _ _,v,x,k,r=>by unfold KH at k;exact k.elim
 | .scr _,v,x,k,r=>by unfold KH at k;exact k.elim
theorem vR.is (ok:lT P w H h):∀{us:List U} {vs:List V} {xs:List Uz},vR H us vs→aU vs xs→gQ h us xs
 | [],vs,xs,k,r=>by
  unfold vR at k
  subst k
  cases r
  unfold gQ;rfl
 |u::us,vs,xs,k,r=>by
  unfold vR at k
  obtain⟨v,vr,rfl,p,z⟩:=k
  cases r with
  |cons r1 r2 =>
   unfold gQ
   exact⟨_,_,rfl,KH.is ok p r1,vR.is ok z r2⟩
end
noncomputable def LK (H:Hp)(us:List U)(b:UY):Prop:=Ho us≤6∧∃ys,H b=some (.tup ys)∧us.length≤UA∧vR H us ys
theorem LK.to (e:∀b ys,H b=some (.tup ys)→H' b=some (.tup ys))(k:LK H us b):LK H' us b:=by
 obtain⟨l,ys,q,n,z⟩:=k
 exact⟨l,ys,e b ys q,n,z.to e⟩
structure Hq (H:Hp)(a:UY)(es:List (List U×UY×V)):Prop where
 ob:(∃ep,H a=some (DN a ep es))∨(es=[]∧H a=some (.dK []))
 nd:(es.map (·.1)).Nodup
 key:∀e∈es,LK H e.1 e.2.1
end L2
namespace L2
noncomputable def kU:qy→U
 | .inl i=>.int i
 | .inr x=>.str x
noncomputable def C3 (H:Hp)(a:UY)(ks:List U)(xs:List V):Prop :=
 (∃gg:List (qy×V),H a=some (.dK gg)∧ks=gg.map (fun p=>kU p.1)∧xs=gg.map (·.2)) ∨
 ∃es:List (List U×UY×V),es≠[]∧Hq H a es∧ks=es.map (fun p=>.tup p.1)∧xs=es.map (·.2.2)
noncomputable abbrev J3:=C3
theorem C3.at {ks:List U}(h:J3 H a ks xs):C3 H a ks xs:=h
theorem Hq.ne {es:List (List U×UY×V)}(h:Hq H a es)(n:es≠[]):∃ep,H a=some (DN a ep es):=by
 rcases h.ob with q|⟨e,_⟩
 ·exact q
 ·exact absurd e n
noncomputable def DQ (K:UB)(H:Hp)(a:UY)(xs:List V):Prop:=(∃o,H a=some (.frz o (.lst xs))) ∨
  ∃(o:Obj) (ar:Array Uz) (n:Nat),K.lookup a=some o∧o.cls=.type "list"∧o.dict=none∧o.data=.seq ar n∧ar.size≤UA∧aU xs ar.toList
theorem DQ.sq (h:DQ K H a xs):fq K H a xs:=by
 rcases h with⟨o,h⟩|h
 ·exact .inl (.inr ⟨o,h⟩)
 ·exact .inr h
theorem DQ.to (h:DQ K H a xs)(e:∀o y,H a=some (.frz o y)→H' a=some (.frz o y)):DQ K H' a xs:=by
 rcases h with⟨o,h⟩|h
 ·exact .inl ⟨o,e _ _ h⟩
 ·exact .inr h
mutual
noncomputable def Rp (K:UB)(H:Hp)(A:UY→Prop):U→V→Prop
 | .non,v=>v=.non
 | .bl b,v=>v=.bl b
 | .int i,v=>v=.int i
 | .str x,v=>v=.str x
 | .tup us,v=>∃a xs,v=.ref a∧H a=some (.tup xs)∧us.length≤UA∧aG K H A us xs
 | .lst us,v=>∃a xs,v=.ref a∧¬A a∧H a=some (.lst xs)∧us.length≤UA∧aG K H A us xs
 | .dct ks us,v=>∃a xs,v=.ref a∧¬A a∧C3 H a ks xs∧us.length≤UA∧aG K H A us xs
 | .scr us,v=>∃a xs,v=.ref a∧DQ K H a xs∧us.length≤UA∧aG K H A us xs
noncomputable def aG (K:UB)(H:Hp)(A:UY→Prop):List U→List V→Prop
 | [],xs=>xs=[]
 |u::us,xs=>∃x r,xs=x::r∧Rp K H A u x∧aG K H A us r
end
noncomputable def jN (K:UB)(H:Hp)(A:UY→Prop):U→UY→Prop
 | .lst us,a=>∃xs,H a=some (.lst xs)∧us.length≤UA∧aG K H A us xs
 | .dct ks us,a=>∃xs,J3 H a ks xs∧us.length≤UA∧aG K H A us xs
 |_,_=>False
noncomputable def Pk (K:UB)(H:Hp)(A:UY→Prop):U→V→Prop
 | .non,v=>v=.non
 | .bl b,v=>v=.bl b
 | .int i,v=>v=.int i
 | .str x,v=>v=.str x
 | .tup us,v=>∃a xs,v=.ref a∧H a=some (.tup xs)∧us.length≤UA∧aG K H A us xs
 | .lst us,v=>∃a xs,v=.ref a∧H a=some (.lst xs)∧us.length≤UA∧aG K H A us xs
 | .dct ks us,v=>∃a xs,v=.ref a∧C3 H a ks xs∧us.length≤UA∧aG K H A us xs
 | .scr us,v=>∃a xs,v=.ref a∧DQ K H a xs∧us.length≤UA∧aG K H A us xs
noncomputable def Mu:Option HO→Prop
 |some (.lst _)=>True
 |some (.dK _)=>True
 |some (.dT _)=>True
 |some (.ext _)=>True
 |_=>False
theorem Mu.ex {o:Option HO}(h:Mu o):∃x,o=.some x:=by
 cases o with
 |none=>exact h.elim
 |some x=>exact⟨x,rfl⟩
noncomputable def ff (A:UY→Prop)(H H':Hp):Prop:=∀b o,¬A b→H b=some o→H' b=some o
theorem ff.refl:ff A H H:=fun _ _ _ h=>h
theorem ff.trans (a:ff A H H1)(b:ff A H1 H2):ff A H H2:=fun c o n h=>b c o n (a c o n h)
theorem ff.same (h:aM H H'):ff A H H':=fun b o _ e=>h b o e
section
variable {A':UY→Prop}
theorem C3.ex {ks:List U}(h:C3 H a ks xs):∃o,H a=some o:=by
 rcases h with⟨k,h,_⟩|⟨k,n,h,_⟩
 ·exact⟨_,h⟩
 ·obtain⟨ep,q⟩:=h.ne n;exact⟨_,q⟩
theorem C3.to {ks:List U}(h:C3 H a ks xs)(e:∀o,H a=some o→H' a=some o)(t:∀b ys,H b=some (.tup ys)→H' b=some (.tup ys)):C3 H' a ks xs:=by
 rcases h with⟨k,h,z⟩|⟨k,n,h,z⟩
 ·exact .inl ⟨k,e _ h,z⟩
 ·exact .inr ⟨k,n,⟨h.ob.imp (fun⟨ep,q⟩=>⟨ep,e _ q⟩) (fun q=>⟨q.1,e _ q.2⟩),h.nd,fun y hy=>(h.key y hy).to t⟩,z⟩
mutual
theorem Rp.re (m:∀b,A b→Mu (H b))(e:ff A H H')(n:∀b,A' b→A b∨H b=none):∀{u:U} {v:V},Rp K H A u v→Rp K H' A' u v
 | .non,v,h=>by unfold Rp at h ⊢;exact h
 | .bl b,v,h=>by unfold Rp at h ⊢;exact h
 | .int b,v,h=>by unfold Rp at h ⊢;exact h
 | .str b,v,h=>by unfold Rp at h ⊢;exact h
 | .tup us,v,h=>by
  unfold Rp at h ⊢
  obtain⟨a,xs,r,q,l,z⟩:=h
  exact⟨a,xs,r,e a _ (fun z=>by have:=m a z;rw[q] at this;exact this) q,l,aG.re m e n z⟩
 | .lst us,v,h=>by
  unfold Rp at h ⊢
  obtain⟨a,xs,r,na,q,l,z⟩:=h
  refine⟨a,xs,r,fun y => ?_,e a _ na q,l,aG.re m e n z⟩
  rcases n a y with y|y
  ·exact na y
  ·rw[q] at y;cases y
 | .scr us,v,h=>by
  unfold Rp at h ⊢
  obtain⟨a,xs,r,q,l,z⟩:=h
  exact⟨a,xs,r,q.to fun o y w=>e a _ (fun z=>by have:=m a z;rw[w] at this;exact this) w,l,aG.re m e n z⟩
 | .dct ks us,v,h=>by
  unfold Rp at h ⊢
  obtain⟨a,xs,r,na,q,l,z⟩:=h
  refine⟨a,xs,r,fun y => ?_,q.to (fun o w=>e a o na w) (fun b ys w=>e b _ (fun y=>by have:=m b y;rw[w] at this;exact this) w),l,aG.re m e n z⟩
  obtain⟨o,w⟩:=q.ex
  rcases n a y with y|y
  ·exact na y
  ·rw[w] at y;cases y
theorem aG.re (m:∀b,A b→Mu (H b))(e:ff A H H')(n:∀b,A' b→A b∨H b=none):∀{us:List U} {vs:List V},aG K H A us vs→aG K H' A' us vs
 | [],vs,h=>by unfold aG at h ⊢;exact h
 |u::us,vs,h=>by
  unfold aG at h ⊢
  obtain⟨x,r,q,p,z⟩:=h
  exact⟨x,r,q,Rp.re m e n p,aG.re m e n z⟩
end
mutual
theorem Rp.mono (n:∀b,A' b→A b):∀{u:U} {v:V},Rp K H A u v→Rp K H A' u v
 | .non,v,h=>by unfold Rp at h ⊢;exact h
 | .bl b,v,h=>by unfold Rp at h ⊢;exact h
 | .int b,v,h=>by unfold Rp at h ⊢;exact h
 | .str b,v,h=>by unfold Rp at h ⊢;exact h
 | .tup us,v,h=>by
  unfold Rp at h ⊢
  obtain⟨a,xs,r,q,l,z⟩:=h
  exact⟨a,xs,r,q,l,aG.mono n z⟩
 | .lst us,v,h=>by
  unfold Rp at h ⊢
  obtain⟨a,xs,r,na,q,l,z⟩:=h
  exact⟨a,xs,r,fun y=>na (n a y),q,l,aG.mono n z⟩
 | .scr us,v,h=>by
  unfold Rp at h ⊢
  obtain⟨a,xs,r,q,l,z⟩:=h
  exact⟨a,xs,r,q,l,aG.mono n z⟩
 | .dct ks us,v,h=>by
  unfold Rp at h ⊢
  obtain⟨a,xs,r,na,q,l,z⟩:=h
  exact⟨a,xs,r,fun y=>na (n a y),q,l,aG.mono n z⟩
theorem aG.mono (n:∀b,A' b→A b):∀{us:List U} {vs:List V},aG K H A us vs→aG K H A' us vs
 | [],vs,h=>by unfold aG at h ⊢;exact h
 |u::us,vs,h=>by
  unfold aG at h ⊢
  obtain⟨x,r,q,p,z⟩:=h
  exact⟨x,r,q,Rp.mono n p,aG.mono n z⟩
end
mutual
theorem Rp.same (e:aM H H'):∀{u:U} {v:V},Rp K H A u v→Rp K H' A u v
 | .non,v,h=>by unfold Rp at h ⊢;exact h
 | .bl b,v,h=>by unfold Rp at h ⊢;exact h
 | .int b,v,h=>by unfold Rp at h ⊢;exact h
 | .str b,v,h=>by unfold Rp at h ⊢;exact h
 | .tup us,v,h=>by
  unfold Rp at h ⊢
  obtain⟨a,xs,r,q,l,z⟩:=h
  exact⟨a,xs,r,e a _ q,l,aG.same e z⟩
 | .lst us,v,h=>by
  unfold Rp at h ⊢
  obtain⟨a,xs,r,na,q,l,z⟩:=h
  exact⟨a,xs,r,na,e a _ q,l,aG.same e z⟩
 | .scr us,v,h=>by
  unfold Rp at h ⊢
  obtain⟨a,xs,r,q,l,z⟩:=h
  exact⟨a,xs,r,q.to fun o y w=>e a _ w,l,aG.same e z⟩
 | .dct ks us,v,h=>by
  unfold Rp at h ⊢
  obtain⟨a,xs,r,na,q,l,z⟩:=h
  exact⟨a,xs,r,na,q.to (fun o w=>e a o w) (fun b ys w=>e b _ w),l,aG.same e z⟩
theorem aG.same (e:aM H H'):∀{us:List U} {vs:List V},aG K H A us vs→aG K H' A us vs
 | [],vs,h=>by unfold aG at h ⊢;exact h
 |u::us,vs,h=>by
  unfold aG at h ⊢
  obtain⟨x,r,q,p,z⟩:=h
  exact⟨x,r,q,Rp.same e p,aG.same e z⟩
end
theorem aG.length:∀{us:List U} {vs:List V},aG K H A us vs→us.length=vs.length
 | [],_,h=>by unfold aG at h;subst h;rfl
 |u::us,_,h=>by
  unfold aG at h
  obtain⟨x,r,rfl,_,q⟩:=h
  rw[UI,UI,aG.length q]
theorem aG.get:∀{us:List U} {vs:List V} {i:Nat} {u:U},aG K H A us vs→us[i]? = some u→∃v,vs[i]? = some v∧Rp K H A u v
 | [],_,_,_,_,e=>by simp at e
 |w::us,_,i,u,h,e=>by
  unfold aG at h
  obtain⟨x,r,rfl,p,q⟩:=h
  cases i with
  |zero=>simp at e;subst e;exact⟨x,by simp,p⟩
  |succ i =>
   obtain⟨v,a,b⟩:=aG.get q (i:=i) (by simpa using e)
   exact⟨v,by simpa using a,b⟩
theorem aG.nil:aG K H A [] []:=by unfold aG;rfl
theorem aG.cons (h:Rp K H A u v)(t:aG K H A us vs):aG K H A (u::us) (v::vs):=by unfold aG;exact⟨v,vs,rfl,h,t⟩
theorem aG.append:∀{us ws:List U} {vs xs:List V},aG K H A us vs→aG K H A ws xs→aG K H A (us++ws) (vs++xs)
 | [],ws,vs,xs,h,t=>by unfold aG at h;subst h;exact t
 |u::us,ws,vs,xs,h,t=>by
  unfold aG at h
  obtain⟨x,r,rfl,p,q⟩:=h
  exact aG.cons p (aG.append q t)
theorem aG.take:∀{us:List U} {vs:List V} (n:Nat),aG K H A us vs→aG K H A (us.take n) (vs.take n)
 | [],vs,n,h=>by unfold aG at h;subst h;simp;exact aG.nil
 |u::us,vs,0,h=>by simp;exact aG.nil
 |u::us,vs,n+1,h=>by
  unfold aG at h
  obtain⟨x,r,rfl,p,q⟩:=h
  exact aG.cons p (aG.take n q)
theorem aG.drop:∀{us:List U} {vs:List V} (n:Nat),aG K H A us vs→aG K H A (us.drop n) (vs.drop n)
 | [],vs,n,h=>by unfold aG at h;subst h;simp;exact aG.nil
 |u::us,vs,0,h=>h
 |u::us,vs,n+1,h=>by
  unfold aG at h
  obtain⟨x,r,rfl,p,q⟩:=h
  exact aG.drop n q
theorem aG.set:∀{us:List U} {vs:List V} (n:Nat) {u:U} {v:V},Rp K H A u v→aG K H A us vs→aG K H A (us.set n u) (vs.set n v)
 | [],vs,n,_,_,_,h=>by unfold aG at h;subst h;simp;exact aG.nil
 |u::us,vs,0,_,_,p',h=>by
  unfold aG at h
  obtain⟨x,r,rfl,p,q⟩:=h
  exact aG.cons p' q
 |u::us,vs,n+1,_,_,p',h=>by
  unfold aG at h
  obtain⟨x,r,rfl,p,q⟩:=h
  exact aG.cons p (aG.set n p' q)
theorem Rp.pk (h:Rp K H A u v):Pk K H A u v:=by
 cases u<;>(unfold Rp at h;unfold Pk)
 case lst us=>obtain⟨a,xs,r,na,q⟩:=h;exact⟨a,xs,r,q⟩
 case dct ks us=>obtain⟨a,xs,r,na,q⟩:=h;exact⟨a,xs,r,q⟩
 all_goals exact h
theorem Pk.same (e:aM H H')(h:Pk K H A u v):Pk K H' A u v:=by
 cases u<;>(unfold Pk at h ⊢)
 case tup us=>obtain⟨a,xs,r,q,l,z⟩:=h;exact⟨a,xs,r,e a _ q,l,z.same e⟩
 case lst us=>obtain⟨a,xs,r,q,l,z⟩:=h;exact⟨a,xs,r,e a _ q,l,z.same e⟩
 case scr us=>obtain⟨a,xs,r,q,l,z⟩:=h;exact⟨a,xs,r,q.to fun o y w=>e a _ w,l,z.same e⟩
 case dct ks us=>obtain⟨a,xs,r,q,l,z⟩:=h;exact⟨a,xs,r,q.to (fun o w=>e a o w) (fun b ys w=>e b _ w),l,z.same e⟩
 all_goals exact h
theorem jN.pk (h:jN K H A u a):Pk K H A u (.ref a):=by
 cases u<;>(unfold jN at h;unfold Pk)
 case lst us=>obtain⟨xs,q,l,z⟩:=h;exact⟨a,xs,rfl,q,l,z⟩
 case dct ks us=>obtain⟨xs,q,l,z⟩:=h;exact⟨a,xs,rfl,q.at,l,z⟩
 all_goals exact h.elim
theorem jN.rp (h:jN K H A u a)(n:∀b,A' b→A b)(na:¬A' a):Rp K H A' u (.ref a):=by
 cases u<;>(unfold jN at h;unfold Rp)
 case lst us=>obtain⟨xs,q,l,z⟩:=h;exact⟨a,xs,rfl,na,q,l,z.mono n⟩
 case dct ks us=>obtain⟨xs,q,l,z⟩:=h;exact⟨a,xs,rfl,na,q.at,l,z.mono n⟩
 all_goals exact h.elim
theorem jN.re (m:∀b,A b→Mu (H b))(e:ff A H H')(n:∀b,A' b→A b∨H b=none)(ea:∀o,H a=some o→H' a=some o)(h:jN K H A u a):jN K H' A' u a:=by
 cases u<;>(unfold jN at h ⊢)
 case lst us=>obtain⟨xs,q,l,z⟩:=h;exact⟨xs,ea _ q,l,z.re m e n⟩
 case dct ks us=>obtain⟨xs,q,l,z⟩:=h;exact⟨xs,q.to ea (fun b ys w=>e b _ (fun y=>by have:=m b y;rw[w] at this;exact this) w),l,z.re m e n⟩
 all_goals exact h.elim
theorem jN.mu (h:jN K H A u a):Mu (H a):=by
 cases u<;>(unfold jN at h)
 case lst us=>obtain⟨xs,q,_⟩:=h;rw[q];trivial
 case dct ks us =>
  obtain⟨xs,q,_⟩:=h
  rcases q with⟨k,q,_⟩|⟨k,n,q,_⟩
  ·rw[q];trivial
  ·obtain⟨ep,q⟩:=q.ne n;rw[q];trivial
 all_goals exact h.elim
end
structure Pkg where
 A0:UY→Prop
 B:Hp
 a0:UY
structure Gm where
 own:List Bool
 io:Bool
 W:Hp→Prop
noncomputable def Gm.is (G:Gm)(i:Nat):Bool:=G.own.getD i false
structure dv (K:UB)(G:Gm)(Z:Pkg)(A:UY→Prop)(ρ:Ev)(σ:St)(H:Hp):Prop where
 slot:∀i u,ρ[i]? = some (some u)→∃v,σ[i]? = some (some v)∧if G.is i=true then (∃a,v=.ref a∧A a∧Z.B a=none∧(¬Z.A0 a∨(G.io=true∧i=0))∧jN K H A u a) else Rp K H A u v
 dis:∀i j u w a,G.is i=true→G.is j=true→i≠j→ρ[i]? = some (some u)→ρ[j]? = some (some w)→σ[i]? = some (some (.ref a))→σ[j]? = some (some (.ref a))→False
 mu:∀a,A a→Mu (H a)
 sup:∀a,Z.A0 a→A a
 out:∀a,A a→Z.A0 a∨Z.B a=none
 bas:∀a o,Z.B a=some o→H a=some o
 io0:G.io=true→σ[0]? = some (some (.ref Z.a0))∧G.is 0=true
 len:ρ.length=σ.length
section
variable {A':UY→Prop}{G:Gm}{Z:Pkg}{ρ':Ev}
theorem dv.same (r:dv K G Z A ρ σ H)(e:aM H H'):dv K G Z A ρ σ H' where
 slot:=fun i u h=>by
  obtain⟨v,h1,h2⟩:=r.slot i u h
  refine⟨v,h1,?_⟩
  by_cases c:G.is i=true
  ·rw[if_pos c] at h2 ⊢
   obtain⟨a,e1,e2,e3,e4,e5⟩:=h2
   exact⟨a,e1,e2,e3,e4,e5.re r.mu (ff.same e) (fun b z=>.inl z) fun o w=>e a o w⟩
  ·rw[if_neg c] at h2 ⊢
   exact h2.same e
 dis:=r.dis
 mu:=fun a h=>by
  have m:=r.mu a h
  obtain⟨o,q⟩:=m.ex
  rw[e a o q,←q];exact m
 sup:=r.sup
 out:=r.out
 bas:=fun a o h=>e a o (r.bas a o h)
 io0:=r.io0
 len:=r.len
theorem dv.add (r:dv K G Z A ρ σ H)(e:aM H H')(n:H a=none)(m:Mu (H' a)):dv K G Z (fun b=>A b∨b=a) ρ σ H' where
 slot:=fun i u h=>by
  have q:∀b,(A b∨b=a)→A b∨H b=none:=fun b z=>by
   rcases z with z|z
   ·exact .inl z
   ·subst z;exact .inr n
  obtain⟨v,h1,h2⟩:=r.slot i u h
  refine⟨v,h1,?_⟩
  by_cases c:G.is i=true
  ·rw[if_pos c] at h2 ⊢
   obtain⟨b,e1,e2,e3,e4,e5⟩:=h2
   exact⟨b,e1,.inl e2,e3,e4,e5.re r.mu (ff.same e) q fun o w=>e b o w⟩
  ·rw[if_neg c] at h2 ⊢
   exact h2.re r.mu (ff.same e) q
 dis:=r.dis
 mu:=fun b h=>by
  rcases h with h|h
  ·exact (r.same e).mu b h
  ·subst h;exact m
 sup:=fun b h=>.inl (r.sup b h)
 out:=fun b h=>by
  rcases h with h|h
  ·exact r.out b h
  ·subst h
   refine .inr ?_
   cases q:Z.B b with
   |none=>rfl
   |some o=>rw[r.bas b o q] at n;cases n
 bas:=fun a o h=>e a o (r.bas a o h)
 io0:=r.io0
 len:=r.len
theorem dv.notA (r:dv K G Z A ρ σ H)(n:H a=none):¬A a:=fun z=>by
 have:=r.mu a z
 rw[n] at this;exact this
theorem dv.notB (r:dv K G Z A ρ σ H)(n:H a=none):Z.B a=none:=by
 cases q:Z.B a with
 |none=>rfl
 |some o=>rw[r.bas a o q] at n;cases n
theorem dv.val (r:dv K G Z A ρ σ H)(c:G.is i=false)(h:ρ[i]? = some (some u)):∃v,σ[i]? = some (some v)∧Rp K H A u v:=by
 obtain⟨v,h1,h2⟩:=r.slot i u h
 rw[if_neg (by rw[c];exact UG)] at h2
 exact⟨v,h1,h2⟩
theorem dv.own (r:dv K G Z A ρ σ H)(c:G.is i=true)(h:ρ[i]? = some (some u)):∃a,σ[i]? = some (some (.ref a))∧A a∧Z.B a=none∧(¬Z.A0 a∨(G.io=true∧i=0))∧jN K H A u a:=by
 obtain⟨v,h1,h2⟩:=r.slot i u h
 rw[if_pos c] at h2
 obtain⟨a,rfl,z⟩:=h2
 exact⟨a,h1,z⟩
end
end L2
variable {Z:L2.Pkg}
namespace L2
inductive Md where
 |S|O|P
 deriving DecidableEq
noncomputable def uc (K:UB)(G:Gm)(Z:Pkg)(m:Md)(A:UY→Prop)(ρ:Ev)(σ:St)(H:Hp)(u:U)(v:V):Prop:=match m with
 | .S=>Rp K H A u v
 | .P=>Pk K H A u v
 | .O=>∃a,v=.ref a∧¬A a∧Z.B a=none∧dv K G Z (fun b=>A b∨b=a) ρ σ H∧jN K H (fun b=>A b∨b=a) u a
noncomputable def zQ (K:UB)(m:Md)(A:UY→Prop)(H H':Hp)(u:U)(v:V):Prop:=match m with
 | .S=>Rp K H' A u v
 | .P=>Pk K H' A u v
 | .O=>∃a,v=.ref a∧H a=none∧jN K H' (fun b=>A b∨b=a) u a
noncomputable def DR (K:UB)(G:Gm)(Z:Pkg)(A:UY→Prop)(b:Bool)(m:Md)(ρ:Ev)(σ:St)(H:Hp):R (U×Ev)→VK→Prop
 | .ok (u,ρ'),Q=>∀v H',dv K G Z A ρ' σ H'→ff A H H'→(b=false→ρ'=ρ∧aM H H')→uc K G Z m A ρ' σ H' u v→Q v H'
 |_,_=>False
noncomputable def tD (K:UB)(G:Gm)(b:Bool)(m:Md)(g:Ev→R (U×Ev)):TE:=fun σ H Q=>∃Z A ρ,dv K G Z A ρ σ H∧DR K G Z A b m ρ σ H (g ρ) Q
structure DE (X:Cx)(G:Gm)(e:WI)(b:Bool)(m:Md)(g:Ev→R (U×Ev)):Prop where
 un:PE X e (tD X.K G b m g)
noncomputable def DV (K:UB)(G:Gm)(Z:Pkg)(A:UY→Prop)(b:Bool)(ρ:Ev)(σ:St)(H:Hp):R (Bool×Ev)→(Bool→Hp→Prop)→Prop
 | .ok (c,ρ'),Q=>∀H',dv K G Z A ρ' σ H'→ff A H H'→(b=false→ρ'=ρ∧aM H H')→Q c H'
 |_,_=>False
noncomputable def zS (K:UB)(G:Gm)(b:Bool)(g:Ev→R (Bool×Ev)):TT:=fun σ H Q=>∃Z A ρ,dv K G Z A ρ σ H∧DV K G Z A b ρ σ H (g ρ) Q
structure DT (X:Cx)(G:Gm)(e:WI)(b:Bool)(g:Ev→R (Bool×Ev)):Prop where
 un:PT X e (zS X.K G b g)
noncomputable def we (K:UB)(H:Hp)(A:UY→Prop):List U→List V→Prop
 | [],vs=>vs=[]
 |u::us,vs=>∃x r,vs=x::r∧Pk K H A u x∧we K H A us r
noncomputable def DX (K:UB)(p:Bool)(A:UY→Prop)(H:Hp)(us:List U)(vs:List V):Prop:=if p=true then we K H A us vs else aG K H A us vs
noncomputable def DY (K:UB)(G:Gm)(Z:Pkg)(A:UY→Prop)(b p:Bool)(ρ:Ev)(σ:St)(H:Hp):R (List U×Ev)→(List V→Hp→Prop)→Prop
 | .ok (us,ρ'),Q=>∀vs H',dv K G Z A ρ' σ H'→ff A H H'→(b=false→ρ'=ρ∧aM H H')→DX K p A H' us vs→Q vs H'
 |_,_=>False
noncomputable def MN (K:UB)(G:Gm)(b p:Bool)(g:Ev→R (List U×Ev)):TA:=fun σ H Q=>∃Z A ρ,dv K G Z A ρ σ H∧DY K G Z A b p ρ σ H (g ρ) Q
structure DA (X:Cx)(G:Gm)(es:List WI)(b p:Bool)(g:Ev→R (List U×Ev)):Prop where
 un:PA X es (MN X.K G b p g)
section
variable {e:WI}{t t':TE}
theorem PE.to (h:PE X e t)(i:∀σ H Q,t' σ H Q→t σ H Q):PE X e t':=fun pins s σ H Q I q=>h pins s σ H Q I (i _ _ _ q)
theorem PT.to {t t':TT}(h:PT X e t)(i:∀σ H Q,t' σ H Q→t σ H Q):PT X e t':=fun pins s σ H Q I q=>h pins s σ H Q I (i _ _ _ q)
theorem PW.to {t t':TT}(h:PW X e t)(i:∀σ H Q,t' σ H Q→t σ H Q):PW X e t':=fun lQ pins s σ H Q I q=>h lQ pins s σ H Q I (i _ _ _ q)
theorem PA.to {es:List WI}{t t':TA}(h:PA X es t)(i:∀σ H Q,t' σ H Q→t σ H Q):PA X es t':=fun pos pins s σ H Q I q=>h pos pins s σ H Q I (i _ _ _ q)
theorem PS.to {t t':TS}(h:PS X st t)(i:∀D σ H,t' D σ H→t D σ H):PS X st t':=fun pins s σ H D I q=>h pins s σ H D I (i _ _ _ q)
theorem sv.to {st:List Stmt}{t t':TS}(h:sv X st t)(i:∀D σ H,t' D σ H→t D σ H):sv X st t':=fun pins s σ H D I q=>h pins s σ H D I (i _ _ _ q)
theorem PG.to {t t':TG}(h:PG X e t)(i:∀v σ H Q,t' v σ H Q→t v σ H Q):PG X e t':=fun pins s σ H v u Q I r q=>h pins s σ H v u Q I r (i _ _ _ _ q)
end
section
variable {G:Gm}{A':UY→Prop}{ρ':Ev}{m:Md}{b:Bool}
theorem uc.rp (h:uc K G Z m A ρ σ H u v)(n:m≠.P):Rp K H A u v:=by
 cases m with
 |S=>exact h
 |O =>
  obtain⟨a,rfl,na,_,_,t⟩:=h
  exact t.rp (fun b z=>.inl z) na
 |P=>exact absurd rfl n
theorem uc.pk (h:uc K G Z m A ρ σ H u v):Pk K H A u v:=by
 by_cases c:m=.P
 ·subst c;exact h
 ·exact (h.rp c).pk
theorem zQ.e (r:dv K G Z A ρ σ H)(s:aM H H')(h:zQ K m A H H' u v):uc K G Z m A ρ σ H' u v:=by
 cases m with
 |S=>exact h
 |P=>exact h
 |O =>
  obtain⟨a,rfl,n,t⟩:=h
  exact⟨a,rfl,r.notA n,r.notB n,r.add s n t.mu,t⟩
theorem uc.later (r:dv K G Z A ρ σ H)(h:uc K G Z m A ρ σ H u v)(x:ff A H H')(s:b=false→ρ'=ρ∧aM H H')(c:m=.P→b=false):Pk K H' A u v:=by
 by_cases d:m=.P
 ·exact h.pk.same (s (c d)).2
 ·exact ((h.rp d).re r.mu x fun b z=>.inl z).pk
theorem uc.laterS (r:dv K G Z A ρ σ H)(h:uc K G Z m A ρ σ H u v)(x:ff A H H')(d:m≠.P):Rp K H' A u v:=(h.rp d).re r.mu x fun b z=>.inl z
theorem two {b1 b2:Bool}{ρ1 ρ2:Ev}(h1:b1=false→ρ1=ρ∧aM H H1)(h2:b2=false→ρ2=ρ1∧aM H1 H2):(b1||b2)=false→ρ2=ρ∧aM H H2:=fun h=>by
 rw[WB] at h
 obtain⟨a,b⟩:=h1 h.1
 obtain⟨c,d⟩:=h2 h.2
 exact⟨c.trans a,b.trans d⟩
theorem lZ {b1:Bool}{ρ1:Ev}(h1:b1=false→ρ1=ρ∧aM H H1)(h2:aM H1 H2):b1=false→ρ1=ρ∧aM H H2:=fun h=>⟨(h1 h).1,(h1 h).2.trans h2⟩
end
noncomputable def ag (i:Nat):Ev→R (U×Ev):=fun ρ=>match ρ[i]? with
 |some (some u)=>.ok (u,ρ)
 |_=>.stk
noncomputable def gC (u:U):Ev→R (U×Ev):=fun ρ=>.ok (u,ρ)
section
variable {G:Gm}{e a b:WI}{es:List WI}
theorem J5 {b:Bool}{m:Md}(h:PE X e (GQ i))(c:G.is i=false):DE X G e false .S (ag i):=by
 refine⟨h.to fun σ H Q ⟨Z,A,ρ,r,f⟩ => ?_⟩
 unfold ag at f
 split at f
 ·rename_i u hu
  obtain⟨v,h1,h2⟩:=r.val c hu
  exact⟨v,h1,f v H r ff.refl (fun _=>⟨rfl,aM.refl _⟩) h2⟩
 ·exact f.elim
theorem ao (i:Nat)(hN:X.N[i]? = some x:=by rfl)(hv:Di X.env.scope x:=by first|exact Or.inl rfl|exact Or.inr (Or.inl rfl)|exact Or.inr (Or.inr rfl))(hd:(x==("__debug__":Str))=false:=by decide)
  (qv:(x==("__classdict__":Str))=false:=by decide) (c:G.is i=false:=by rfl):DE X G (.Name x pos) false .S (ag i):=J5 (b:=false) (m:=.S) (j0 hN hv hd qv) c
theorem g9 (i:Nat)(hN:X.N[i]? = some x:=by rfl)(hv:Di X.env.scope x:=by first|exact Or.inl rfl|exact Or.inr (Or.inl rfl)|exact Or.inr (Or.inr rfl))(hd:(x==("__debug__":Str))=false:=by decide)
  (qv:(x==("__classdict__":Str))=false:=by decide) (c:G.is i=true:=by rfl):DE X G (.Name x pos) false .P (ag i):=by
 refine⟨(j0 hN hv hd qv).to fun σ H Q ⟨Z,A,ρ,r,f⟩ => ?_⟩
 unfold ag at f
 split at f
 ·rename_i u hu
  obtain⟨a,h1,_,_,_,h2⟩:=r.own c hu
  exact⟨.ref a,h1,f _ H r ff.refl (fun _=>⟨rfl,aM.refl _⟩) h2.pk⟩
 ·exact f.elim
theorem DZ (h:PE X e (tC v))(r:∀K H A,Rp K H A u v):DE X G e false .S (gC u):=by
 refine⟨h.to fun σ H Q ⟨Z,A,ρ,q,f⟩ => ?_⟩
 exact f v H q ff.refl (fun _=>⟨rfl,aM.refl _⟩) (r _ _ _)
theorem ai {i j pos}:DE X G (.Constant (.int i) j pos) false .S (gC (.int i)):=DZ zZ fun _ _ _=>by unfold Rp;rfl
theorem q_ {i j pos}:DE X G (.Constant (.bool i) j pos) false .S (gC (.bl i)):=DZ Jt fun _ _ _=>by unfold Rp;rfl
theorem pb {j pos}:DE X G (.Constant .none j pos) false .S (gC .non):=DZ GR fun _ _ _=>by unfold Rp;rfl
theorem cM {i j pos}:DE X G (.Constant (.str i) j pos) false .S (gC (.str i)):=DZ GU fun _ _ _=>by unfold Rp;rfl
noncomputable def aL (p:U→U→R U)(g1 g2:Ev→R (U×Ev)):Ev→R (U×Ev):=fun ρ=>(g1 ρ).bind fun x=>(g2 x.2).bind fun y=>(p x.1 y.1).bind fun z=>.ok (z,y.2)
noncomputable def gx (K:UB)(r:R2)(m:Md)(p:U→U→R U):Prop:=∀A H x y u w z Q,Pk K H A u x→Pk K H A w y→(∀a,A a→Mu (H a))→p u w=.ok z→(∀v H',aM H H'→zQ K m A H H' z v→Q v H')→r x y H Q
variable {b1 b2 b3:Bool}{m1 m2 m3 mr:Md}{g1 g2 g3:Ev→R (U×Ev)}
theorem ow (hp:gx X.K r mr p)(hm:m1=.P→b2=false){Q:VK}(h:tD X.K G (b1||b2) mr (aL p g1 g2) σ H Q) :
  JE r (tD X.K G b1 m1 g1) (tD X.K G b2 m2 g2) σ H Q:=by
 obtain⟨Z,A,ρ,q,f⟩:=h
 unfold aL at f
 refine⟨Z,A,ρ,q,?_⟩
 cases e1:g1 ρ with
 |stk=>rw[e1] at f;exact f.elim
 |exc=>rw[e1] at f;exact f.elim
 |ok x =>
  obtain⟨u,ρ1⟩:=x
  rw[e1] at f
  intro v1 H1 q1 x1 s1 se
  refine⟨Z,A,ρ1,q1,?_⟩
  cases e2:g2 ρ1 with
  |stk=>simp only[R.bind,e2] at f;exact f.elim
  |exc=>simp only[R.bind,e2] at f;exact f.elim
  |ok y =>
   obtain⟨w,ρ2⟩:=y
   simp only[R.bind,e2] at f
   intro v2 H2 q2 x2 s2 vL
   cases e3:p u w with
   |stk=>rw[e3] at f;exact f.elim
   |exc=>rw[e3] at f;exact f.elim
   |ok z =>
    rw[e3] at f
    refine hp A H2 v1 v2 u w z Q (se.later q1 x2 s2 hm) vL.pk q2.mu e3 fun v H' sm vm => ?_
    exact f v H' (q2.same sm) ((x1.trans x2).trans (ff.same sm)) (lZ (two s1 s2) sm) (vm.e q2 sm)
theorem aS {op:Operator}(ho:jK X (Xq op) r)(hp:gx X.K r mr p)(ha:DE X G a b1 m1 g1)(hb:DE X G b b2 m2 g2)(hm:m1=.P→b2=false:=by first|exact fun _=>rfl|exact fun h=>nomatch h) :
  DE X G (.BinOp a op b pos) (b1||b2) mr (aL p g1 g2):=⟨(E_ ho ha.un hb.un).to fun _ _ _=>ow hp hm⟩
theorem l_ (ho:jK X (WV op) r)(hp:gx X.K r mr p)(ha:DE X G a b1 m1 g1)(hb:DE X G b b2 m2 g2)(hk:Xy op b=false)(hm:m1=.P→b2=false:=by first|exact fun _=>rfl|exact fun h=>nomatch h) :
  DE X G (.Compare a [op] [b] pos) (b1||b2) mr (aL p g1 g2):=⟨(Dv ho ha.un hb.un hk).to fun _ _ _=>ow hp hm⟩
theorem br (ho:C1 X r)(hp:gx X.K r mr p)(ha:DE X G a b1 m1 g1)(hb:DE X G b b2 m2 g2)(hs:xm b)(hm:m1=.P→b2=false:=by first|exact fun _=>rfl|exact fun h=>nomatch h) :
  DE X G (.Subscript a b pos) (b1||b2) mr (aL p g1 g2):=⟨(JQ ho ha.un hb.un hs).to fun _ _ _=>ow hp hm⟩
noncomputable def gB (g:Ev→R (U×Ev)):Ev→R (Bool×Ev):=fun ρ=>(g ρ).bind fun x=>match x.1 with
 | .bl c=>.ok (c,x.2)
 |_=>.stk
theorem rf {g:Ev→R (U×Ev)}{m:Md}{Q:Bool→Hp→Prop}(h:zS X.K G b1 (gB g) σ H Q):tD X.K G b1 m g σ H fun x H'=>∃k,x=.bl k∧Q k H':=by
 obtain⟨Z,A,ρ,q,f⟩:=h
 refine⟨Z,A,ρ,q,?_⟩
 unfold gB at f
 cases e1:g ρ with
 |stk=>rw[e1] at f;exact f.elim
 |exc=>rw[e1] at f;exact f.elim
 |ok x =>
  obtain⟨u,ρ1⟩:=x
  rw[e1] at f
  intro v H1 q1 x1 s1 vm
  cases u with
  |bl c =>
   have e:v=.bl c:=by have:=vm.pk;unfold Pk at this;exact this
   exact⟨c,e,f H1 q1 x1 s1⟩
  |_=>exact f.elim
theorem sG (h:DE X G e b1 m1 g1)(he:∀lQ,isTrue e X.env lQ=(do let v ←lQ;standAt e.pos;holding [v] (truthy v)):=by intro _;rfl):DT X G e b1 (gB g1):=⟨(GV h.un he).to fun _ _ _ h=>rf h⟩
theorem aT (ho:jK X (WV op) r)(hp:gx X.K r mr p)(ha:DE X G a b1 m1 g1)(hb:DE X G b b2 m2 g2)(hk:Xy op b=false)(hm:m1=.P→b2=false:=by first|exact fun _=>rfl|exact fun h=>nomatch h) :
  DT X G (.Compare a [op] [b] pos) (b1||b2) (gB (aL p g1 g2)):=⟨(Dx ho ha.un hb.un hk).to fun _ _ _ h=>ow hp hm (rf (m:=mr) h)⟩
end
end L2
namespace L2
section
variable {G:Gm}{A':UY→Prop}{ρ':Ev}{b p:Bool}{m:Md}{α:Type}
theorem DR.bind {x:R α}{k:α→R (U×Ev)}{Q:VK}(f:DR K G Z A b m ρ σ H (x.bind k) Q):∃a,x=.ok a∧DR K G Z A b m ρ σ H (k a) Q:=by
 cases x with
 |ok a=>exact⟨a,rfl,f⟩
 |exc=>exact f.elim
 |stk=>exact f.elim
theorem DV.bind {x:R α}{k:α→R (Bool×Ev)}{Q:Bool→Hp→Prop}(f:DV K G Z A b ρ σ H (x.bind k) Q):∃a,x=.ok a∧DV K G Z A b ρ σ H (k a) Q:=by
 cases x with
 |ok a=>exact⟨a,rfl,f⟩
 |exc=>exact f.elim
 |stk=>exact f.elim
theorem DY.bind {x:R α}{k:α→R (List U×Ev)}{Q:List V→Hp→Prop}(f:DY K G Z A b p ρ σ H (x.bind k) Q):∃a,x=.ok a∧DY K G Z A b p ρ σ H (k a) Q:=by
 cases x with
 |ok a=>exact⟨a,rfl,f⟩
 |exc=>exact f.elim
 |stk=>exact f.elim
theorem Pk.bl {c:Bool}(h:Pk K H A (.bl c) v):v=.bl c:=by unfold Pk at h;exact h
theorem Pk.int {i:Int}(h:Pk K H A (.int i) v):v=.int i:=by unfold Pk at h;exact h
theorem Pk.str {i:Str}(h:Pk K H A (.str i) v):v=.str i:=by unfold Pk at h;exact h
theorem jd {c:Bool}:Rp K H A (.bl c) (.bl c):=by unfold Rp;rfl
theorem ez {c:Int}:Rp K H A (.int c) (.int c):=by unfold Rp;rfl
theorem uc.ofS (h:Rp K H A u v):uc K G Z .S A ρ σ H u v:=h
theorem pd:Rp K H A .non .non:=by unfold Rp;rfl
theorem Hr {c:Str}:Rp K H A (.str c) (.str c):=by unfold Rp;rfl
theorem aG.pks:∀{us:List U} {vs:List V},aG K H A us vs→we K H A us vs
 | [],_,h=>by unfold aG at h;unfold we;exact h
 |u::us,_,h=>by
  unfold aG at h;unfold we
  obtain⟨x,r,e,z,q⟩:=h
  exact⟨x,r,e,z.pk,aG.pks q⟩
end
section
variable {G:Gm}{e a b:WI}{es rest:List WI}{b1 b2 b3:Bool}{m1 m2 m3 mr:Md}{g1 g2 g3:Ev→R (U×Ev)}{h1 h2:Ev→R (Bool×Ev)}
noncomputable def uw (g1 g2:Ev→R (Bool×Ev)):Ev→R (Bool×Ev):=fun ρ=>(g1 ρ).bind fun x=>if x.1=true then g2 x.2 else .ok (false,x.2)
noncomputable def Hs (g1 g2:Ev→R (Bool×Ev)):Ev→R (Bool×Ev):=fun ρ=>(g1 ρ).bind fun x=>if x.1=true then .ok (true,x.2) else g2 x.2
noncomputable def ze (g1:Ev→R (Bool×Ev)):Ev→R (Bool×Ev):=fun ρ=>(g1 ρ).bind fun x=>.ok (!x.1,x.2)
structure DW (X:Cx)(G:Gm)(e:WI)(b:Bool)(g:Ev→R (Bool×Ev)):Prop where
 un:PW X e (zS X.K G b g)
theorem DW.dt (h:DW X G e b1 h1):DT X G e b1 h1:=⟨PW.pt h.un⟩
theorem AD {Q:Bool→Hp→Prop}(h:zS X.K G (b1||b2) (uw h1 h2) σ H Q):Ju (zS X.K G b1 h1) (zS X.K G b2 h2) σ H Q:=by
 obtain⟨Z,A,ρ,q,f⟩:=h
 obtain⟨⟨k,ρ1⟩,e1,f⟩:=f.bind
 refine⟨Z,A,ρ,q,?_⟩
 rw[e1]
 intro H1 q1 x1 s1
 cases k with
 |true =>
  rw[if_pos rfl] at f ⊢
  refine⟨Z,A,ρ1,q1,?_⟩
  dsimp only at f
  cases e2:h2 ρ1 with
  |ok y=>rw[e2] at f;exact fun H2 q2 x2 s2=>f H2 q2 (x1.trans x2) (two s1 s2)
  |exc=>rw[e2] at f;exact f.elim
  |stk=>rw[e2] at f;exact f.elim
 |false =>
  rw[if_neg UG] at f ⊢
  exact f H1 q1 x1 fun z=>s1 (WB.mp z).1
theorem D0 {Q:Bool→Hp→Prop}(h:zS X.K G (b1||b2) (Hs h1 h2) σ H Q):P5 (zS X.K G b1 h1) (zS X.K G b2 h2) σ H Q:=by
 obtain⟨Z,A,ρ,q,f⟩:=h
 obtain⟨⟨k,ρ1⟩,e1,f⟩:=f.bind
 refine⟨Z,A,ρ,q,?_⟩
 rw[e1]
 intro H1 q1 x1 s1
 cases k with
 |false =>
  rw[if_neg UG] at f ⊢
  refine⟨Z,A,ρ1,q1,?_⟩
  dsimp only at f
  cases e2:h2 ρ1 with
  |ok y=>rw[e2] at f;exact fun H2 q2 x2 s2=>f H2 q2 (x1.trans x2) (two s1 s2)
  |exc=>rw[e2] at f;exact f.elim
  |stk=>rw[e2] at f;exact f.elim
 |true =>
  rw[if_pos rfl] at f ⊢
  exact f H1 q1 x1 fun z=>s1 (WB.mp z).1
theorem kD (ha:DT X G a b1 h1):DW X G (.BoolOp .And [a] pos) b1 h1:=⟨Dk ha.un⟩
theorem sH (ha:DT X G a b1 h1):DW X G (.BoolOp .Or [a] pos) b1 h1:=⟨GW ha.un⟩
theorem pf (ha:DT X G a b1 h1)(hb:DW X G (.BoolOp .And (b::rest) pos) b2 h2):DW X G (.BoolOp .And (a::b::rest) pos) (b1||b2) (uw h1 h2):=⟨(GX ha.un hb.un).to fun _ _ _=>AD⟩
theorem xp (ha:DT X G a b1 h1)(hb:DW X G (.BoolOp .Or (b::rest) pos) b2 h2):DW X G (.BoolOp .Or (a::b::rest) pos) (b1||b2) (Hs h1 h2):=⟨(Jv ha.un hb.un).to fun _ _ _=>D0⟩
theorem Ht (ha:DT X G a b1 h1):DT X G (.UnaryOp .Not a pos) b1 (ze h1):=⟨(GY ha.un).to fun σ H Q h=>by
 obtain⟨Z,A,ρ,q,f⟩:=h
 obtain⟨⟨k,ρ1⟩,e1,f⟩:=f.bind
 refine⟨Z,A,ρ,q,?_⟩
 rw[e1]
 exact fun H1 q1 x1 s1=>f H1 q1 x1 s1⟩
noncomputable def D1 (g1 g2:Ev→R (U×Ev)):Ev→R (U×Ev):=fun ρ=>(gB g1 ρ).bind fun x=>if x.1=true then g2 x.2 else .ok (.bl false,x.2)
noncomputable def Rg (g1 g2:Ev→R (U×Ev)):Ev→R (U×Ev):=fun ρ=>(gB g1 ρ).bind fun x=>if x.1=true then .ok (.bl true,x.2) else g2 x.2
noncomputable def MO (g1:Ev→R (U×Ev)):Ev→R (U×Ev):=fun ρ=>(gB g1 ρ).bind fun x=>.ok (.bl (!x.1),x.2)
theorem J6 {g:Ev→R (U×Ev)}{ρ1:Ev}{k:Bool}(h:gB g ρ=.ok (k,ρ1)):g ρ=.ok (.bl k,ρ1):=by
 unfold gB at h
 cases e:g ρ with
 |ok y =>
  obtain⟨u,ρ2⟩:=y
  rw[e] at h
  cases u<;>simp[R.bind] at h
  obtain⟨rfl,rfl⟩:=h;rfl
 |exc=>rw[e] at h;simp[R.bind] at h
 |stk=>rw[e] at h;simp[R.bind] at h
theorem AE (hn:m2≠.P:=by decide)(ha:DE X G a b1 m1 g1)(hb:DE X G (.BoolOp .And (b::rest) pos) b2 m2 g2):DE X G (.BoolOp .And (a::b::rest) pos) (b1||b2) .S (D1 g1 g2):=⟨(G0 ha.un hb.un).to fun σ H Q h=>by
 obtain⟨Z,A,ρ,q,f⟩:=h
 obtain⟨⟨k,ρ1⟩,e1,f⟩:=f.bind
 refine⟨Z,A,ρ,q,?_⟩
 rw[J6 e1]
 intro v H1 q1 x1 s1 vm
 refine⟨k,vm.pk.bl,?_⟩
 cases k with
 |true =>
  rw[if_pos rfl] at f ⊢
  refine⟨Z,A,ρ1,q1,?_⟩
  dsimp only at f
  cases e2:g2 ρ1 with
  |ok y=>rw[e2] at f;exact fun v2 H2 q2 x2 s2 vL=>f v2 H2 q2 (x1.trans x2) (two s1 s2) (vL.rp hn)
  |exc=>rw[e2] at f;exact f.elim
  |stk=>rw[e2] at f;exact f.elim
 |false =>
  rw[if_neg UG] at f ⊢
  exact f _ H1 q1 x1 (fun z=>s1 (WB.mp z).1) (uc.ofS jd)⟩
theorem AF {op}(ha:DE X G a b1 m1 g1):DE X G (.BoolOp op [a] pos) b1 m1 g1:=⟨GZ ha.un⟩
noncomputable def MP (h:Ev→R (Bool×Ev))(g1 g2:Ev→R (U×Ev)):Ev→R (U×Ev):=fun ρ=>(h ρ).bind fun x=>if x.1=true then g1 x.2 else g2 x.2
theorem AG (NK:m1≠.P:=by decide)(GB:m2≠.P:=by decide)(hc:DT X G c b1 h1)(ha:DE X G a b2 m1 g1)(hb:DE X G b b3 m2 g2):DE X G (.IfExp c a b pos) (b1||(b2||b3)) .S (MP h1 g1 g2):=⟨(z9 hc.un ha.un hb.un).to fun σ H Q h=>by
 obtain⟨Z,A,ρ,q,f⟩:=h
 obtain⟨⟨k,ρ1⟩,e1,f⟩:=f.bind
 refine⟨Z,A,ρ,q,?_⟩
 rw[e1]
 intro H1 q1 x1 s1
 cases k with
 |true =>
  rw[if_pos rfl] at f ⊢
  refine⟨Z,A,ρ1,q1,?_⟩
  dsimp only at f
  cases e2:g1 ρ1 with
  |ok y=>rw[e2] at f;exact fun v2 H2 q2 x2 s2 vL=>f v2 H2 q2 (x1.trans x2) (two s1 fun z=>s2 (WB.mp z).1) (vL.rp NK)
  |exc=>rw[e2] at f;exact f.elim
  |stk=>rw[e2] at f;exact f.elim
 |false =>
  rw[if_neg UG] at f ⊢
  refine⟨Z,A,ρ1,q1,?_⟩
  dsimp only at f
  cases e2:g2 ρ1 with
  |ok y=>rw[e2] at f;exact fun v2 H2 q2 x2 s2 vL=>f v2 H2 q2 (x1.trans x2) (two s1 fun z=>s2 (WB.mp z).2) (vL.rp GB)
  |exc=>rw[e2] at f;exact f.elim
  |stk=>rw[e2] at f;exact f.elim⟩
noncomputable def Hu (p p':U→U→R U)(g1 g2 g3:Ev→R (U×Ev)):Ev→R (U×Ev):=fun ρ=>(g1 ρ).bind fun x=>(g2 x.2).bind fun y=>(p x.1 y.1).bind fun z=>match z with
 | .bl k=>if k=true then (g3 y.2).bind fun w=>(p' y.1 w.1).bind fun z'=>.ok (z',w.2) else .ok (.bl false,y.2)
 |_=>.stk
noncomputable def Rh (p:U→R U)(g:Ev→R (U×Ev)):Ev→R (U×Ev):=fun ρ=>(g ρ).bind fun x=>(p x.1).bind fun z=>.ok (z,x.2)
noncomputable def ak:Ev→R (List U×Ev):=fun ρ=>.ok ([],ρ)
noncomputable def ae (g:Ev→R (U×Ev))(ga:Ev→R (List U×Ev)):Ev→R (List U×Ev):=fun ρ=>(g ρ).bind fun x=>(ga x.2).bind fun y=>.ok (x.1::y.1,y.2)
variable {ga:Ev→R (List U×Ev)}{p:Bool}
theorem af:DA X G [] false p ak:=⟨j2.to fun σ H Q ⟨Z,A,ρ,q,f⟩=>f [] H q ff.refl (fun _=>⟨rfl,aM.refl _⟩) (by unfold DX;split;exact rfl;exact aG.nil)⟩
theorem aa (ha:DE X G e b1 m1 g1)(hr:DA X G es b2 p ga)(hm:m1=.P→(p=true∧b2=false):=by first|exact fun _=>⟨rfl,rfl⟩|exact fun h=>nomatch h)
  (hs:UX (e::es) X.env=(false,Yg e X.env)::UX es X.env:=by rfl):DA X G (e::es) (b1||b2) p (ae g1 ga):=⟨(fg ha.un hr.un hs).to fun σ H Q h=>by
 obtain⟨Z,A,ρ,q,f⟩:=h
 obtain⟨⟨u,ρ1⟩,e1,f⟩:=f.bind
 obtain⟨⟨us,ρ2⟩,e2,f⟩:=f.bind
 refine⟨Z,A,ρ,q,?_⟩
 rw[e1]
 intro v1 H1 q1 x1 s1 se
 refine⟨Z,A,ρ1,q1,?_⟩
 dsimp only at e2
 rw[e2]
 intro vs H2 q2 x2 s2 vL
 refine f (v1::vs) H2 q2 (x1.trans x2) (two s1 s2) ?_
 unfold DX at vL ⊢
 cases p with
 |true =>
  rw[if_pos rfl] at vL ⊢
  exact⟨v1,vs,rfl,se.later q1 x2 s2 (fun z=>(hm z).2),vL⟩
 |false =>
  rw[if_neg UG] at vL ⊢
  exact aG.cons (se.laterS q1 x2 fun z=>UG (hm z).1) vL⟩
theorem DX.pks (h:DX K p A H us vs):we K H A us vs:=by
 unfold DX at h
 cases p with
 |true=>rw[if_pos rfl] at h;exact h
 |false=>rw[if_neg UG] at h;exact h.pks
theorem DX.rps (h:DX K false A H us vs):aG K H A us vs:=by
 unfold DX at h
 rw[if_neg UG] at h;exact h
noncomputable def bR (ga:Ev→R (List U×Ev)):Ev→R (U×Ev):=fun ρ=>(ga ρ).bind fun x=>if x.1.length≤UA then .ok (.tup x.1,x.2) else .stk
noncomputable def cD (ga:Ev→R (List U×Ev)):Ev→R (U×Ev):=fun ρ=>(ga ρ).bind fun x=>if x.1.length≤UA then .ok (.lst x.1,x.2) else .stk
theorem cZ {p:UY}(h:H p=none)(o:HO):aM H (eB H p o):=fun b u q=>by rw[bh (bO q h)];exact q
theorem ma {a:UY}(h:aG K H A us vs)(n:H a=none)(l:us.length≤UA):Rp K (eB H a (.tup vs)) A (.tup us) (.ref a):=by
 unfold Rp
 exact⟨a,vs,rfl,cC,l,h.same (cZ n _)⟩
theorem cE {a:UY}(m:∀b,A b→Mu (H b))(h:aG K H A us vs)(n:H a=none)(l:us.length≤UA):jN K (eB H a (.lst vs)) (fun b=>A b∨b=a) (.lst us) a :=
 ⟨vs,cC,l,h.re m (ff.same (cZ n _)) fun b z=>by
  rcases z with z|z
  ·exact .inl z
  ·subst z;exact .inr n⟩
theorem cb {x1}(h:DA X G es b1 false ga):DE X G (.Tuple es x1 pos) b1 .S (bR ga):=⟨(Ah h.un).to fun σ H Q h=>by
 obtain⟨Z,A,ρ,q,f⟩:=h
 obtain⟨⟨us,ρ1⟩,e1,f⟩:=f.bind
 refine⟨Z,A,ρ,q,?_⟩
 rw[e1]
 intro vs H1 q1 x1 s1 se
 dsimp only at f
 split at f
 ·rename_i l
  refine⟨by rw[←se.rps.length];exact l,fun a n => ?_⟩
  exact f _ _ (q1.same (cZ n _)) (x1.trans (ff.same (cZ n _))) (lZ s1 (cZ n _)) (uc.ofS (ma se.rps n l))
 ·exact f.elim⟩
theorem cN (h:DA X G es b1 false ga):DE X G (.List es pos) b1 .O (cD ga):=⟨(Hb h.un).to fun σ H Q h=>by
 obtain⟨Z,A,ρ,q,f⟩:=h
 obtain⟨⟨us,ρ1⟩,e1,f⟩:=f.bind
 refine⟨Z,A,ρ,q,?_⟩
 rw[e1]
 intro vs H1 q1 x1 s1 se
 dsimp only at f
 split at f
 ·rename_i l
  refine⟨by rw[←se.rps.length];exact l,fun a n => ?_⟩
  exact f _ _ (q1.same (cZ n _)) (x1.trans (ff.same (cZ n _))) (lZ s1 (cZ n _)) (zQ.e q1 (cZ n _) ⟨a,rfl,n,cE q1.mu se.rps n l⟩)
 ·exact f.elim⟩
noncomputable def fL (p:List U→R U)(ga:Ev→R (List U×Ev)):Ev→R (U×Ev):=fun ρ=>(ga ρ).bind fun x=>(p x.1).bind fun z=>.ok (z,x.2)
noncomputable def md (K:UB)(r:List V→Hp→VK→Prop)(m:Md)(p:List U→R U):Prop:=∀A H vs us z Q,we K H A us vs→(∀a,A a→Mu (H a))→p us=.ok z→(∀v H',aM H H'→zQ K m A H H' z v→Q v H')→r vs H Q
theorem sI {r:List V→Hp→VK→Prop}{f:List U→R U}(hp:md X.K r mr f){Q:VK}(h:tD X.K G b1 mr (fL f ga) σ H Q):MG r (MN X.K G b1 p ga) σ H Q:=by
 obtain⟨Z,A,ρ,q,f⟩:=h
 obtain⟨⟨us,ρ1⟩,e1,f⟩:=f.bind
 obtain⟨z,e2,f⟩:=f.bind
 refine⟨Z,A,ρ,q,?_⟩
 rw[e1]
 intro vs H1 q1 x1 s1 se
 exact hp A H1 vs us z Q se.pks q1.mu e2 fun v H' sm vm=>f v H' (q1.same sm) (x1.trans (ff.same sm)) (lZ s1 sm) (vm.e q1 sm)
theorem bw {id:String}{p1:Pos}{r:List V→Hp→VK→Prop}{f:List U→R U}(hc:eM X (.builtin id) r)(hp:md X.K r mr f)(hg:Gl X x)(hm:X.mg x=none)(hv:Vs x=some (.builtin id))(ha:DA X G (e::es) b1 true ga)(hn:x≠"__name__":=by decide)(w6:(x==("__debug__":Str))=false:=by decide)
  (he:UX (e::es) X.env=(false,Yg e X.env)::UX es X.env:=by rfl) (kv:(XF pos (UX es X.env)).any (·.1)=false:=by rfl):DE X G (.Call (.Name x p1) (e::es) [] pos) b1 mr (fL f ga):=⟨(kz hc hg hm hv ha.un hn w6 he kv).to fun _ _ _=>sI hp⟩
theorem bP {T:String}{p1:Pos}{r:List V→Hp→VK→Prop}{f:List U→R U}(hc:eM X (.type T) r)(hp:md X.K r mr f)(hg:Gl X x)(hm:X.mg x=none)(hv:Vs x=some (.type T))(ha:DA X G (e::es) b1 true ga)(hn:x≠"__name__":=by decide)(w6:(x==("__debug__":Str))=false:=by decide)
  (he:UX (e::es) X.env=(false,Yg e X.env)::UX es X.env:=by rfl) (kv:(XF pos (UX es X.env)).any (·.1)=false:=by rfl):DE X G (.Call (.Name x p1) (e::es) [] pos) b1 mr (fL f ga):=⟨(gu hc hg hm hv ha.un hn w6 he kv).to fun _ _ _=>sI hp⟩
end
end L2
namespace L2
section
variable {G:Gm}{A':UY→Prop}{ρ':Ev}{b p:Bool}{m:Md}{α:Type}
theorem jN.mono (n:∀b,A' b→A b)(h:jN K H A u a):jN K H A' u a:=by
 cases u<;>(unfold jN at h ⊢)
 case lst us=>obtain⟨xs,q,l,z⟩:=h;exact⟨xs,q,l,z.mono n⟩
 case dct ks us=>obtain⟨xs,q,l,z⟩:=h;exact⟨xs,q,l,z.mono n⟩
 all_goals exact h.elim
theorem d0 {α:Type}{l:List (Option α)}{x:Option α}{y:α}(h:(l.set i x)[j]? = some (some y)):(i=j∧x=some y)∨(i≠j∧l[j]? = some (some y)):=by
 by_cases e:i=j
 ·subst e
  rw[List.getElem?_set_self'] at h
  refine .inl ⟨rfl,?_⟩
  cases q:l[i]? with
  |none=>rw[q] at h;cases h
  |some w=>rw[q] at h;exact U0 h
 ·rw[Vp e] at h
  exact .inr ⟨e,h⟩
theorem ox {α:Type}{l l':List (Option α)}{x:α}{β:Type}{k:List (Option β)}{y:Option β}{z:β}(hl:k.length=l.length)(h:(k.set i y)[i]? = some (some z)):(l.set i (some x))[i]? = some (some x):=by
 have:i<l.length:=by
  have:=(UJ.mp h).1
  rw[Wo] at this;lia
 rw[Yf this]
theorem dv.set (r:dv K G Z A ρ σ H)(c:G.is i=false)(h:Rp K H A u v):dv K G Z A (ρ.set i (some u)) (σ.set i (some v)) H where
 slot:=fun j w hj=>by
  rcases d0 hj with⟨rfl,e⟩|⟨ne,e⟩
  ·cases e
   refine⟨v,ox (l':=σ) r.len hj,?_⟩
   rw[if_neg (by rw[c];exact UG)];exact h
  ·rw[Vp ne]
   exact r.slot j w e
 dis:=fun j k w w' a cj ck ne hj hk sj sk=>by
  rcases d0 hj with⟨rfl,_⟩|⟨n1,e1⟩
  ·rw[c] at cj;cases cj
  ·rcases d0 hk with⟨rfl,_⟩|⟨n2,e2⟩
   ·rw[c] at ck;cases ck
   ·rw[Vp n1] at sj
    rw[Vp n2] at sk
    exact r.dis j k w w' a cj ck ne e1 e2 sj sk
 mu:=r.mu
 sup:=r.sup
 out:=r.out
 bas:=r.bas
 io0:=fun h0=>by
  obtain⟨a,b⟩:=r.io0 h0
  refine⟨?_,b⟩
  have:i≠0:=fun z=>by subst z;rw[b] at c;cases c
  rw[Vp this];exact a
 len:=by rw[Wo,Wo];exact r.len
theorem dv.drop (r:dv K G Z A ρ σ H)(i:Nat):dv K G Z A (ρ.set i none) σ H where
 slot:=fun j w hj=>by
  rcases d0 hj with⟨rfl,e⟩|⟨ne,e⟩
  ·cases e
  ·exact r.slot j w e
 dis:=fun j k w w' a cj ck ne hj hk sj sk=>by
  rcases d0 hj with⟨rfl,e⟩|⟨n1,e1⟩
  ·cases e
  ·rcases d0 hk with⟨rfl,e⟩|⟨n2,e2⟩
   ·cases e
   ·exact r.dis j k w w' a cj ck ne e1 e2 sj sk
 mu:=r.mu
 sup:=r.sup
 out:=r.out
 bas:=r.bas
 io0:=r.io0
 len:=by rw[Wo];exact r.len
theorem dv.setO (r:dv K G Z A ρ σ H)(c:G.is i=true)(hi:G.io=true→i≠0)(na:¬A a)(nb:Z.B a=none)(r':dv K G Z (fun b=>A b∨b=a) ρ σ H)(h:jN K H (fun b=>A b∨b=a) u a) :
  dv K G Z (fun b=>A b∨b=a) (ρ.set i (some u)) (σ.set i (some (.ref a))) H where
 slot:=fun j w hj=>by
  rcases d0 hj with⟨rfl,e⟩|⟨ne,e⟩
  ·cases e
   refine⟨.ref a,ox (l':=σ) r.len hj,?_⟩
   rw[if_pos c];exact⟨a,rfl,.inr rfl,nb,.inl fun z=>na (r.sup a z),h⟩
  ·rw[Vp ne]
   exact r'.slot j w e
 dis:=fun j k w w' b cj ck ne hj hk sj sk=>by
  have key:∀k w',G.is k=true→i≠k→ρ[k]? = some (some w')→σ[k]? ≠ some (some (.ref a)):=fun k w' ck _ e q=>by
   obtain⟨b,h1,h2,_⟩:=r.own ck e
   rw[h1] at q;cases q;exact na h2
  rcases d0 hj with⟨rfl,e1⟩|⟨n1,e1⟩
  ·rcases d0 hk with⟨rfl,_⟩|⟨n2,e2⟩
   ·exact ne rfl
   ·rw[ox (l':=σ) r.len hj] at sj
    cases sj
    rw[Vp n2] at sk
    exact key k w' ck n2 e2 sk
  ·rcases d0 hk with⟨rfl,e2⟩|⟨n2,e2⟩
   ·rw[ox (l':=σ) r.len hk] at sk
    cases sk
    rw[Vp n1] at sj
    exact key j w cj n1 e1 sj
   ·rw[Vp n1] at sj
    rw[Vp n2] at sk
    exact r.dis j k w w' b cj ck ne e1 e2 sj sk
 mu:=r'.mu
 sup:=r'.sup
 out:=r'.out
 bas:=r'.bas
 io0:=fun h0=>by
  obtain⟨a,b⟩:=r.io0 h0
  exact⟨by rw[Vp (hi h0)];exact a,b⟩
 len:=by rw[Wo,Wo];exact r.len
theorem dv.free (r:dv K G Z A ρ σ H)(c:G.is i=true)(hi:G.io=true→i≠0)(h:ρ[i]? = some (some u)):∃a A',σ[i]? = some (some (.ref a))∧dv K G Z A' (ρ.set i none) σ H∧Rp K H A' u (.ref a):=by
 obtain⟨a,h1,h2,h3,h4,h5⟩:=r.own c h
 have na:¬Z.A0 a:=by
  rcases h4 with h4|⟨h4,h6⟩
  ·exact h4
  ·exact absurd h6 (hi h4)
 have sub:∀b,(A b∧b≠a)→A b:=fun b z=>z.1
 refine⟨a,fun b=>A b∧b≠a,h1,?_,h5.rp sub fun z=>z.2 rfl⟩
 exact {
  slot:=fun j w hj=>by
   rcases d0 hj with⟨rfl,e⟩|⟨ne,e⟩
   ·cases e
   ·obtain⟨v,s1,s2⟩:=r.slot j w e
    refine⟨v,s1,?_⟩
    by_cases cj:G.is j=true
    ·rw[if_pos cj] at s2 ⊢
     obtain⟨b,e1,e2,e3,e4,e5⟩:=s2
     refine⟨b,e1,⟨e2,fun z => ?_⟩,e3,e4,e5.mono sub⟩
     subst z e1
     exact r.dis i j u w b c cj ne h e h1 s1
    ·rw[if_neg cj] at s2 ⊢
     exact s2.mono sub
  dis:=(r.drop i).dis
  mu:=fun b z=>r.mu b z.1
  sup:=fun b z=>⟨r.sup b z,fun e=>na (e▸z)⟩
  out:=fun b z=>r.out b z.1
  bas:=r.bas
  io0:=r.io0
  len:=by rw[Wo];exact r.len}
theorem dv.put (r:dv K G Z A ρ σ H){w:U}(c:G.is i=true)(h:ρ[i]? = some (some u))(ha:σ[i]? = some (some (.ref a)))(e:∀b o,b≠a→H b=some o→H' b=some o)(t:jN K H' A w a) :
  dv K G Z A (ρ.set i (some w)) σ H':=by
 obtain⟨a',h1,h2,h3,h4,h5⟩:=r.own c h
 rw[ha] at h1;cases h1
 have x:ff A H H':=fun b o nb z=>e b o (fun q=>nb (q▸h2)) z
 exact {
  slot:=fun j y hj=>by
   rcases d0 hj with⟨rfl,q⟩|⟨ne,q⟩
   ·cases q
    refine⟨.ref a,ha,?_⟩
    rw[if_pos c]
    exact⟨a,rfl,h2,h3,h4,t⟩
   ·obtain⟨v,s1,s2⟩:=r.slot j y q
    refine⟨v,s1,?_⟩
    by_cases cj:G.is j=true
    ·rw[if_pos cj] at s2 ⊢
     obtain⟨b,e1,e2,e3,e4,e5⟩:=s2
     refine⟨b,e1,e2,e3,e4,e5.re r.mu x (fun b z=>.inl z) fun o z=>e b o (fun q' => ?_) z⟩
     subst q' e1
     exact r.dis i j u y b c cj ne h q ha s1
    ·rw[if_neg cj] at s2 ⊢
     exact s2.re r.mu x fun b z=>.inl z
  dis:=fun j k y y' b cj ck ne hj hk sj sk=>by
   have f:∀j y,(ρ.set i (some w))[j]? = some (some y)→∃y',ρ[j]? = some (some y'):=fun j y hj=>by
    rcases d0 hj with⟨rfl,q⟩|⟨ne,q⟩
    ·exact⟨u,h⟩
    ·exact⟨y,q⟩
   obtain⟨y1,hj⟩:=f j y hj
   obtain⟨y2,hk⟩:=f k y' hk
   exact r.dis j k y1 y2 b cj ck ne hj hk sj sk
  mu:=fun b z=>by
   by_cases q:b=a
   ·subst q;exact t.mu
   ·have m:=r.mu b z
    obtain⟨o,z⟩:=m.ex
    rw[e b o q z,←z];exact m
  sup:=r.sup
  out:=r.out
  bas:=fun b o z=>e b o (fun q=>by subst q;rw[h3] at z;cases z) (r.bas b o z)
  io0:=r.io0
  len:=by rw[Wo];exact r.len}
end
noncomputable def J7 (K:UB)(m:Md)(A:UY→Prop)(H:Hp):R U→VK→Prop
 | .ok u,Q=>∀v H',aM H H'→zQ K m A H H' u v→Q v H'
 |_,_=>False
noncomputable def wg {α:Type}(n:Nat)(g:List U→R α)(us:List U):R α:=if us.length=n then g us else .stk
noncomputable def ud (K:UB)(n:Nat)(f:List U→R U)(m:Md):Sp:=fun vs H Q _=>∃us A,aG K H A us vs∧(∀a,A a→Mu (H a))∧J7 K m A H (wg n f us) Q
noncomputable def lS (K:UB)(n:Nat)(f:List U→R (U×U)):Sp:=fun vs H Q _=>∃u0 us a0 vs' A,vs=.ref a0::vs'∧A a0∧jN K H A u0 a0∧aG K H A us vs'∧(∀a,A a→Mu (H a))∧match wg n f (u0::us) with
 | .ok (u,w)=>∀v H',(∀b o,b≠a0→H b=some o→H' b=some o)→jN K H' A w a0→Rp K H' A u v→Q v H'
 |_=>False
section
variable {G:Gm}{e a b:WI}{es rest:List WI}{p1:Pos}{b1 b2 b3:Bool}{m1 m2 m3 mr:Md}{g1 g2 g3:Ev→R (U×Ev)}{h1 h2:Ev→R (Bool×Ev)}{ga:Ev→R (List U×Ev)}
noncomputable def iU (n:Nat)(f:List U→R U)(ga:Ev→R (List U×Ev)):Ev→R (U×Ev):=fun ρ=>(ga ρ).bind fun x=>(wg n f x.1).bind fun z=>.ok (z,x.2)
theorem bM {f:List U→R U}(F:Fn X.prog X.w X.K X.mg X.base x k ps (ud X.K n f mr))(hr:fv k X.A)(ha:DA X G (e::es) b1 false ga)(hg:Gl X x:=by rfl)(w6:(x==("__debug__":Str))=false:=by decide)(he:UX (e::es) X.env=(false,Yg e X.env)::UX es X.env:=by rfl)(kv:(XF pos (UX es X.env)).any (·.1)=false:=by rfl):DE X G (.Call (.Name x p1) (e::es) [] pos) b1 mr (iU n f ga):=⟨(uv F hr ha.un hg w6 he kv).to fun σ H Q h=>by
 obtain⟨Z,A,ρ,q,f⟩:=h
 obtain⟨⟨us,ρ1⟩,e1,f⟩:=f.bind
 obtain⟨z,e2,f⟩:=f.bind
 refine⟨Z,A,ρ,q,?_⟩
 rw[e1]
 intro vs H1 q1 x1 s1 se
 show ud _ _ _ _ _ _ _ _
 rw[Vw]
 refine⟨us,A,se.rps,q1.mu,?_⟩
 dsimp only at e2
 rw[e2]
 exact fun v H' sm vm=>f v H' (q1.same sm) (x1.trans (ff.same sm)) (lZ s1 sm) (vm.e q1 sm)⟩
noncomputable def live (ρ:Ev)(i:Nat):Bool:=match ρ[i]? with
 |some (some _)=>true
 |_=>false
theorem sJ (h:live ρ i=true):∃u,ρ[i]? = some (some u):=by
 unfold live at h
 split at h
 ·rename_i u hu;exact⟨u,hu⟩
 ·cases h
noncomputable def eZ (n i:Nat)(f:List U→R (U×U))(ga:Ev→R (List U×Ev)):Ev→R (U×Ev):=fun ρ=>if live ρ i=true then (ga ρ).bind fun x=>match x.2[i]? with
 |some (some u0)=>(wg n f (u0::x.1)).bind fun z=>.ok (z.1,x.2.set i (some z.2))
 |_=>.stk
 else .stk
theorem aw {y:Str}{f:List U→R (U×U)}(F:Fn X.prog X.w X.K X.mg X.base x k ps (lS X.K n f))(hr:fv k X.A)(ha:DA X G es b1 false ga)(hN:X.N[i]? = some y:=by rfl)(hv:Di X.env.scope y:=by first|exact Or.inl rfl|exact Or.inr (Or.inl rfl)|exact Or.inr (Or.inr rfl))(c:G.is i=true:=by rfl)(hd:(y==("__debug__":Str))=false:=by decide)(qv:(y==("__classdict__":Str))=false:=by decide)(hs:UX (.Name y p2::es) X.env=(false,Yg (.Name y p2) X.env)::UX es X.env:=by rfl)(hg:Gl X x:=by rfl)(w6:(x==("__debug__":Str))=false:=by decide)(kv:(XF pos (UX es X.env)).any (·.1)=false:=by rfl):DE X G (.Call (.Name x p1) (.Name y p2::es) [] pos) true .S (eZ n i f ga):=⟨(uv F hr (fg (j0 hN hv hd qv) ha.un hs) hg w6 hs kv).to fun σ H Q h=>by
 obtain⟨Z,A,ρ,q,f⟩:=h
 unfold eZ at f
 split at f
 ·rename_i hl
  obtain⟨u00,hu0⟩:=sJ hl
  obtain⟨a0,h0,_⟩:=q.own c hu0
  obtain⟨⟨us,ρ1⟩,e1,f⟩:=f.bind
  dsimp only at f
  split at f
  ·rename_i u0 hu
   obtain⟨⟨z,w⟩,e2,f⟩:=f.bind
   refine⟨.ref a0,h0,Z,A,ρ,q,?_⟩
   rw[e1]
   intro vs H1 q1 x1 s1 se
   obtain⟨a0',k1,k2,_,_,k3⟩:=q1.own c hu
   rw[h0] at k1;cases k1
   show lS _ _ _ _ _ _ _
   rw[Vw]
   refine⟨u0,us,a0,vs,A,rfl,k2,k3,se.rps,q1.mu,?_⟩
   rw[e2]
   intro v H' em tp rp
   exact f v H' (q1.put c hu h0 em tp) (x1.trans fun b o nb z=>em b o (fun y=>nb (y▸k2)) z) (fun z=>nomatch z) rp
  ·exact f.elim
 ·exact f.elim⟩
noncomputable def AH (K:UB)(T:String)(r:V→List V→Hp→VK→Prop)(p:U→List U→R (U×U)):Prop:=∀A H a u vs us z w Q,jN K H A u a→A a→aG K H A us vs→(∀a,A a→Mu (H a))→p u us=.ok (z,w) →
 (∀v H',(∀b o,b≠a→H b=some o→H' b=some o)→jN K H' A w a→Rp K H' A z v→Q v H')→r (.ref a) vs H Q
noncomputable def zf:U→String→Bool
 | .lst _,T=>T=="list"
 |_,_=>false
theorem Hv {a:UY}{T:String}(h:jN K H A u a)(t:zf u T=true):MJ K T (.ref a) H:=by
 cases u<;>(unfold zf at t;unfold jN at h)
 case lst us =>
  obtain⟨xs,q,_⟩:=h
  exact .inl ⟨by simpa using t,xs,.inl (.inl q)⟩
 all_goals cases t
noncomputable def gM (T:String)(i:Nat)(p:U→List U→R (U×U))(ga:Ev→R (List U×Ev)):Ev→R (U×Ev):=fun ρ=>match ρ[i]? with
 |some (some u1)=>if zf u1 T=true then (ga ρ).bind fun x=>match x.2[i]? with
  |some (some u0)=>(p u0 x.1).bind fun z=>.ok (z.1,x.2.set i (some z.2))
  |_=>.stk
  else .stk
 |_=>.stk
theorem AI {T:String}{r:V→List V→Hp→VK→Prop}{p:U→List U→R (U×U)}(hp:AH X.K T r p)(c:G.is i=true){Q:VK}(h:tD X.K G true .S (gM T i p ga) σ H Q) :
  P9 X.K T r (GQ i) (MN X.K G b1 false ga) σ H Q:=by
 obtain⟨Z,A,ρ,q,f⟩:=h
 unfold gM at f
 split at f
 ·rename_i u1 ky
  split at f
  ·rename_i ht
   obtain⟨a0,h0,_,_,_,t0⟩:=q.own c ky
   obtain⟨⟨us,ρ1⟩,e1,f⟩:=f.bind
   dsimp only at f
   split at f
   ·rename_i u0 hu
    obtain⟨⟨z,w⟩,e2,f⟩:=f.bind
    refine⟨.ref a0,h0,Hv t0 ht,Z,A,ρ,q,?_⟩
    rw[e1]
    intro vs H1 q1 x1 s1 se
    obtain⟨a0',k1,k2,_,_,k3⟩:=q1.own c hu
    rw[h0] at k1;cases k1
    exact hp A H1 a0 u0 vs us z w Q k3 k2 se.rps q1.mu e2 fun v H' em tp rp=>f v H' (q1.put c hu h0 em tp) (x1.trans fun b o nb z=>em b o (fun y=>nb (y▸k2)) z) (fun z=>nomatch z) rp
   ·exact f.elim
  ·exact f.elim
 ·exact f.elim
theorem sL {T id:String}{y name:Str}{vM:Pos}{r:V→List V→Hp→VK→Prop}{p:U→List U→R (U×U)}(pa:PlainAttrs T)(slot:Slot T name id)(Nw:typeOf (.builtin id)=pure (.type "method_descriptor"))(hm:Fd X id r)(hp:AH X.K T r p)(ha:DA X G (e::es) b1 false ga)(hN:X.N[i]? = some y:=by rfl)(hv:Di X.env.scope y:=by first|exact Or.inl rfl|exact Or.inr (Or.inl rfl)|exact Or.inr (Or.inr rfl))(c:G.is i=true:=by rfl)(hd:(y==("__debug__":Str))=false:=by decide)(qv:(y==("__classdict__":Str))=false:=by decide)(CM:attributeBase (.Name y p2) name X.env (Yg (.Name y p2) X.env)=Yg (.Name y p2) X.env:=by rfl)(IM:((XF pos (UX (e::es) X.env)).all (fun x => !x.1)&&(backToKw pos (keywordEach [] X.env)).all (fun x=>x.1.isSome)
   && decide ((e::es).length+([]:List Keyword).length+(if ([]:List Keyword).isEmpty then 0 else 1)<30))=true:=by rfl)(CN:(vM.endLine==pos.line)=true:=by rfl)(hs:UX (e::es) X.env=(false,Yg e X.env)::UX es X.env:=by rfl)(w9:(XF pos (UX es X.env)).any (·.1)=false:=by rfl) :
  DE X G (.Call (.Attribute (.Name y p2) name vM) (e::es) [] pos) true .S (gM T i p ga):=⟨(JV pa slot Nw hm (j0 hN hv hd qv) ha.un CM IM CN hs w9).to fun _ _ _=>AI hp c⟩
noncomputable def AJ (K:UB)(r:V→Option Int→Option Int→Hp→VK→Prop)(m:Md)(p:U→Option Int→Option Int→R U):Prop:=∀A H x u lo hi z Q,Pk K H A u x→(∀a,A a→Mu (H a))→p u lo hi=.ok z→(∀v H',aM H H'→zQ K m A H H' z v→Q v H')→r x lo hi H Q
noncomputable def MQ (K:UB)(G:Gm)(Z:Pkg)(A:UY→Prop)(b:Bool)(ρ:Ev)(σ:St)(H:Hp):R (Option Int×Ev)→(Option Int→Hp→Prop)→Prop
 | .ok (c,ρ'),Q=>∀H',dv K G Z A ρ' σ H'→ff A H H'→(b=false→ρ'=ρ∧aM H H')→Q c H'
 |_,_=>False
noncomputable def Ri (K:UB)(G:Gm)(b:Bool)(g:Ev→R (Option Int×Ev)):TO:=fun σ H Q=>∃Z A ρ,dv K G Z A ρ σ H∧MQ K G Z A b ρ σ H (g ρ) Q
structure DO (X:Cx)(G:Gm)(e:Option WI)(b:Bool)(g:Ev→R (Option Int×Ev)):Prop where
 un:PO X e (Ri X.K G b g)
noncomputable def cn:Ev→R (Option Int×Ev):=fun ρ=>.ok (none,ρ)
noncomputable def bS (g:Ev→R (U×Ev)):Ev→R (Option Int×Ev):=fun ρ=>(g ρ).bind fun x=>match x.1 with
 | .int i=>.ok (some i,x.2)
 |_=>.stk
theorem PO.to {e:Option WI}{t t':TO}(h:PO X e t)(i:∀σ H Q,t' σ H Q→t σ H Q):PO X e t':=fun pins s σ H Q I q=>h pins s σ H Q I (i _ _ _ q)
theorem dI:DO X G none false cn:=⟨DD.to fun σ H Q ⟨Z,A,ρ,q,f⟩=>f H q ff.refl fun _=>⟨rfl,aM.refl _⟩⟩
theorem c_ (h:DE X G e b1 m1 g1):DO X G (some e) b1 (bS g1):=⟨(xk h.un).to fun σ H Q h00=>by
 obtain⟨Z,A,ρ,q,f⟩:=h00
 refine⟨Z,A,ρ,q,?_⟩
 unfold bS at f
 cases e1:g1 ρ with
 |stk=>rw[e1] at f;exact f.elim
 |exc=>rw[e1] at f;exact f.elim
 |ok x =>
  obtain⟨u,ρ1⟩:=x
  rw[e1] at f
  intro v H1 q1 x1 s1 vm
  cases u with
  |int c=>exact⟨c,vm.pk.int,f H1 q1 x1 s1⟩
  |_=>exact f.elim⟩
noncomputable def jx (p:U→Option Int→Option Int→R U)(g:Ev→R (U×Ev))(lo hi:Ev→R (Option Int×Ev)):Ev→R (U×Ev):=fun ρ=>(g ρ).bind fun x=>(lo x.2).bind fun l=>(hi l.2).bind fun h=>(p x.1 l.1 h.1).bind fun z=>.ok (z,h.2)
theorem cF {r:V→Option Int→Option Int→Hp→VK→Prop}{p:U→Option Int→Option Int→R U}{lo hi:Option WI}{gl gh:Ev→R (Option Int×Ev)}(hr:Al X r)(hp:AJ X.K r mr p)(he:DE X G e b1 m1 g1)(hl:DO X G lo b2 gl)(hu:DO X G hi b3 gh)(hm:m1=.P→(b2||b3)=false:=by first|exact fun _=>rfl|exact fun h=>nomatch h):DE X G (.Subscript e (.Slice lo hi none p2) pos) (b1||(b2||b3)) mr (jx p g1 gl gh):=⟨(Am hr he.un hl.un hu.un).to fun σ H Q h=>by
 obtain⟨Z,A,ρ,q,f⟩:=h
 obtain⟨⟨u,ρ1⟩,e1,f⟩:=f.bind
 obtain⟨⟨l,ρ2⟩,e2,f⟩:=f.bind
 obtain⟨⟨h,ρ3⟩,e3,f⟩:=f.bind
 obtain⟨z,e4,f⟩:=f.bind
 dsimp only at e2 e3 e4 f
 refine⟨Z,A,ρ,q,?_⟩
 rw[e1]
 intro v1 H1 q1 x1 s1 se
 refine⟨Z,A,ρ1,q1,?_⟩
 rw[e2]
 intro H2 q2 x2 s2
 refine⟨Z,A,ρ2,q2,?_⟩
 rw[e3]
 intro H3 q3 x3 s3
 exact hp A H3 v1 u l h z Q (se.later q1 (x2.trans x3) (two s2 s3) hm) q3.mu e4 fun v H' sm vm=>f v H' (q3.same sm) ((x1.trans (x2.trans x3)).trans (ff.same sm)) (lZ (two s1 (two s2 s3)) sm) (vm.e q3 sm)⟩
end
end L2
namespace L2
noncomputable def MR (K:UB)(G:Gm)(sg:U→Ev→R Ev):TG:=fun v σ H Q=>∃Z A ρ u,dv K G Z A ρ σ H∧Rp K H A u v∧match sg u ρ with
 | .ok ρ'=>∀σ',dv K G Z A ρ' σ' H→(∀i,G.is i=true→σ'[i]? = σ[i]?)→Q σ' H
 |_=>False
structure DG (X:Cx)(G:Gm)(tg:WI)(sg:U→Ev→R Ev):Prop where
 un:PG X tg (MR X.K G sg)
noncomputable def MT (K:UB)(G:Gm)(sg:List U→Ev→R Ev):Dp:=fun vs σ H Q=>∃Z A ρ us,dv K G Z A ρ σ H∧aG K H A us vs∧match sg us ρ with
 | .ok ρ'=>∀σ',dv K G Z A ρ' σ' H→(∀i,G.is i=true→σ'[i]? = σ[i]?)→Q σ' H
 |_=>False
structure LL (X:Cx)(G:Gm)(tgs:List WI)(sg:List U→Ev→R Ev):Prop where
 un:E9 X tgs (MT X.K G sg)
noncomputable def dw (i:Nat):U→Ev→R Ev:=fun u ρ=>.ok (ρ.set i (some u))
noncomputable def rg:List U→Ev→R Ev:=fun us ρ=>match us with
 | []=>.ok ρ
 |_=>.stk
noncomputable def g_ (s:U→Ev→R Ev)(t:List U→Ev→R Ev):List U→Ev→R Ev:=fun us ρ=>match us with
 |u::r=>(s u ρ).bind fun ρ1=>t r ρ1
 |_=>.stk
noncomputable def rh (n:Nat)(t:List U→Ev→R Ev):U→Ev→R Ev:=fun u ρ=>match u with
 | .tup us=>if us.length=n then t us ρ else .stk
 |_=>.stk
section
variable {G:Gm}
theorem E9.to {es:List WI}{t t':Dp}(h:E9 X es t)(i:∀v σ H Q,t' v σ H Q→t v σ H Q):E9 X es t':=fun pins s σ H v u Q I r q=>h pins s σ H v u Q I r (i _ _ _ _ q)
theorem aW (hN:X.N.Nodup)(hi:X.N[i]? = some x:=by rfl)(hx:zY X.env.scope x:=by first|exact Or.inl rfl|exact Or.inr rfl)(c:G.is i=false:=by rfl)(hf:X.fn x=true∨X.env.scope.names.lookup x=some .local:=by first|exact .inl rfl|exact .inr rfl|assumption):DG X G (.Name x pos) (dw i):=⟨(Dq hN hi hx hf).to fun v σ H Q ⟨Z,A,ρ,u,q,r,f⟩=>f _ (q.set c r) fun j cj=>by
  have:i≠j:=fun z=>by subst z;rw[c] at cj;cases cj
  rw[Vp this]⟩
theorem xq:LL X G [] rg:=⟨Dr.to fun vs σ H Q h00=>by
 obtain⟨Z,A,ρ,us,q,r,f⟩:=h00
 unfold rg at f
 cases us with
 |nil=>unfold aG at r;exact⟨r,f σ q fun _ _=>rfl⟩
 |cons=>exact f.elim⟩
theorem kE {e:WI}{es:List WI}{s:U→Ev→R Ev}{t:List U→Ev→R Ev}(h1:DG X G e s)(h2:LL X G es t)
  (hs:(Xm (e::es) X.env).map (·.2)=assign e X.env::(Xm es X.env).map (·.2):=by rfl):LL X G (e::es) (g_ s t):=⟨(Ab h1.un h2.un hs).to fun vs σ H Q h00=>by
 obtain⟨Z,A,ρ,us,q,r,f⟩:=h00
 unfold g_ at f
 cases us with
 |nil=>exact f.elim
 |cons u us =>
  unfold aG at r
  obtain⟨v,vr,rfl,r1,r2⟩:=r
  dsimp only at f
  refine⟨v,vr,rfl,Z,A,ρ,u,q,r1,?_⟩
  cases e1:s u ρ with
  |ok ρ1 =>
   rw[e1] at f
   simp only[R.bind] at f
   intro σ1 q1 o1
   refine⟨Z,A,ρ1,us,q1,r2,?_⟩
   cases e2:t us ρ1 with
   |ok ρ2=>rw[e2] at f;exact fun σ2 q2 o2=>f σ2 q2 fun i c=>(o2 i c).trans (o1 i c)
   |exc=>rw[e2] at f;exact f.elim
   |stk=>rw[e2] at f;exact f.elim
  |exc=>rw[e1] at f;exact f.elim
  |stk=>rw[e1] at f;exact f.elim⟩
theorem AK {es:List WI}{t:List U→Ev→R Ev}(hc:X.calm=true)(h:LL X G es t)(hn:(Xm es X.env).length=n:=by rfl)(g8:(Xm es X.env).findIdx? (·.1)=none:=by rfl):DG X G (.Tuple es k pos) (rh n t):=⟨(G2 hc h.un hn g8).to fun v σ H Q h00=>by
 obtain⟨Z,A,ρ,u,q,r,f⟩:=h00
 unfold rh at f
 cases u with
 |tup us =>
  unfold Rp at r
  obtain⟨a,xs,rfl,sq,l,rs⟩:=r
  dsimp only at f
  by_cases hl:us.length=n
  ·rw[if_pos hl] at f
   exact⟨a,xs,rfl,gT.of sq,by rw[←rs.length];exact hl,Z,A,ρ,us,q,rs,f⟩
  ·rw[if_neg hl] at f;exact f.elim
 |_=>exact f.elim⟩
end
noncomputable def Rj (K:UB)(Z:Pkg)(m:Md)(H:Hp)(u:U)(v:V):Prop:=match m with
 | .S=>Rp K H Z.A0 u v
 | .O=>∃a,v=.ref a∧Z.B a=none∧¬Z.A0 a∧jN K H (fun b=>Z.A0 b∨b=a) u a
 | .P=>False
noncomputable def sM (K:UB)(G:Gm)(Z:Pkg)(m:Md):SR→oJ→Prop
 | .nx ρ',D=>∀A' σ' H',dv K G Z A' ρ' σ' H'→D.nx σ' H'
 | .bk ρ',D=>∀A' σ' H',dv K G Z A' ρ' σ' H'→D.bk σ' H'
 | .ct ρ',D=>∀A' σ' H',dv K G Z A' ρ' σ' H'→D.ct σ' H'
 | .rt u ρ',D=>∀A' σ' H' v,dv K G Z A' ρ' σ' H'→Rj K Z m H' u v→D.rt v H'
 | .exc _ _,_=>∀H',(∀a o,Z.B a=some o→H' a=some o)→G.W H'
 | .stk,_=>False
noncomputable def LM (K:UB)(G:Gm)(m:Md)(g:Ev→SR):TS:=fun D σ H=>∃Z A ρ,dv K G Z A ρ σ H∧sM K G Z m (g ρ) D
structure DS (X:Cx)(G:Gm)(m:Md)(st:Stmt)(g:Ev→SR):Prop where
 un:PS X st (LM X.K G m g)
structure zT (X:Cx)(G:Gm)(m:Md)(st:List Stmt)(g:Ev→SR):Prop where
 un:sv X st (LM X.K G m g)
noncomputable def bT:Ev→SR:=.nx
noncomputable def aJ (g1 g2:Ev→SR):Ev→SR:=fun ρ=>match g1 ρ with
 | .nx ρ'=>g2 ρ'
 |r=>r
noncomputable def SR.of {α:Type}:R α→(α→SR)→SR
 | .ok a,f=>f a
 |_,_=>.stk
section
variable {G:Gm}{m:Md}{α:Type}
theorem sM.of {x:R α}{k:α→SR}{D:oJ}(f:sM K G Z m (SR.of x k) D):∃a,x=.ok a∧sM K G Z m (k a) D:=by
 cases x with
 |ok a=>exact⟨a,rfl,f⟩
 |exc=>exact f.elim
 |stk=>exact f.elim
end
section
variable {G:Gm}{e a b:WI}{QB rest:List Stmt}{es:List WI}{p1:Pos}{b1 b2 b3:Bool}{m m1 m2 m3 mr:Md}{g1 g2 g3:Ev→R (U×Ev)}{h1 h2:Ev→R (Bool×Ev)}{ga:Ev→R (List U×Ev)}{s1 s2:Ev→SR}
theorem aX:zT X G m [] bT:=⟨Dl.to fun D σ H ⟨Z,A,ρ,q,f⟩=>f A σ H q⟩
theorem av (h:DS X G m st s1):zT X G m [st] s1:=⟨Dm h.un⟩
theorem aj (ha:DS X G m st s1)(hb:zT X G m rest s2):zT X G m (st::rest) (aJ s1 s2):=⟨(z_ ha.un hb.un).to fun D σ H h00=>by
 obtain⟨Z,A,ρ,q,f⟩:=h00
 refine⟨Z,A,ρ,q,?_⟩
 unfold aJ at f
 cases e:s1 ρ with
 |nx ρ1=>rw[e] at f;exact fun A1 σ1 H1 q1=>⟨Z,A1,ρ1,q1,f⟩
 |rt=>rw[e] at f;exact f
 |bk=>rw[e] at f;exact f
 |ct=>rw[e] at f;exact f
 |exc=>rw[e] at f;exact f
 |stk=>rw[e] at f;exact f⟩
noncomputable def Hw:Ev→SR:=.bk
noncomputable def J8:Ev→SR:=.ct
noncomputable def jQ (g:Ev→R (U×Ev)):Ev→SR:=fun ρ=>SR.of (g ρ) fun x=>.nx x.2
theorem sN (h:DE X G e b1 m1 g1)(hs:Yy e none pos.line X.env=pure false:=by rfl):DS X G m (.Expr e pos) (jQ g1):=⟨(Dn h.un hs).to fun D σ H h00=>by
 obtain⟨Z,A,ρ,q,f⟩:=h00
 obtain⟨⟨u,ρ1⟩,e1,f⟩:=f.of
 refine⟨Z,A,ρ,q,?_⟩
 rw[e1]
 exact fun v H1 q1 _ _ _=>f A σ H1 q1⟩
noncomputable def bV (g:Ev→R (U×Ev)):Ev→SR:=fun ρ=>SR.of (g ρ) fun x=>.rt x.1 x.2
theorem aK (h:DE X G e b1 m1 g1)(hn:m1≠.P:=by decide):DS X G .S (.Return (some e) pos) (bV g1):=⟨(Aa h.un).to fun D σ H h00=>by
 obtain⟨Z,A,ρ,q,f⟩:=h00
 obtain⟨⟨u,ρ1⟩,e1,f⟩:=f.of
 refine⟨Z,A,ρ,q,?_⟩
 rw[e1]
 exact fun v H1 q1 _ _ vm=>f A σ H1 v q1 ((vm.rp hn).mono q1.sup)⟩
theorem xr (h:DE X G e b1 .O g1):DS X G .O (.Return (some e) pos) (bV g1):=⟨(Aa h.un).to fun D σ H h00=>by
 obtain⟨Z,A,ρ,q,f⟩:=h00
 obtain⟨⟨u,ρ1⟩,e1,f⟩:=f.of
 refine⟨Z,A,ρ,q,?_⟩
 rw[e1]
 intro v H1 q1 _ _ vm
 obtain⟨a,rfl,na,nb,_,t⟩:=vm
 exact f A σ H1 _ q1 ⟨a,rfl,nb,fun z=>na (q1.sup a z),t.mono fun b z=>z.imp (q1.sup b) id⟩⟩
noncomputable def bu (i:Nat)(g:Ev→R (U×Ev)):Ev→SR:=fun ρ=>SR.of (g ρ) fun x=>.nx (x.2.set i (some x.1))
theorem ph (c:G.is i=false)(hn:m1≠.P)(hi:∀σ H Q,tD X.K G b1 m1 g1 σ H Q→te σ H Q){D:oJ}(h:LM X.K G m (bu i g1) D σ H):Ac te (ug i) D σ H:=by
 obtain⟨Z,A,ρ,q,f⟩:=h
 obtain⟨⟨u,ρ1⟩,e1,f⟩:=f.of
 refine hi _ _ _ ⟨Z,A,ρ,q,?_⟩
 rw[e1]
 exact fun v H1 q1 _ _ vm=>f A _ H1 (q1.set c (vm.rp hn))
theorem zg (c:G.is i=true)(h0:G.io=true→i≠0)(hi:∀σ H Q,tD X.K G b1 .O g1 σ H Q→te σ H Q){D:oJ}(h:LM X.K G m (bu i g1) D σ H):Ac te (ug i) D σ H:=by
 obtain⟨Z,A,ρ,q,f⟩:=h
 obtain⟨⟨u,ρ1⟩,e1,f⟩:=f.of
 refine hi _ _ _ ⟨Z,A,ρ,q,?_⟩
 rw[e1]
 intro v H1 q1 _ _ vm
 obtain⟨a,rfl,na,nb,r,t⟩:=vm
 exact f _ _ H1 (q1.setO c h0 na nb r t)
theorem bj (hN:X.N.Nodup)(h:DE X G e b1 m1 g1)(hi:X.N[i]? = some x:=by rfl)(hx:zY X.env.scope x:=by first|exact Or.inl rfl|exact Or.inr rfl)(c:G.is i=false:=by rfl)(hn:m1≠.P:=by decide)(hs:Yy e (some (.Name x p1)) pos.line X.env=pure false:=by rfl)(hf:X.fn x=true∨X.env.scope.names.lookup x=some .local:=by first|exact .inl rfl|exact .inr rfl|assumption):DS X G m (.Assign [.Name x p1] e pos) (bu i g1):=⟨(vU hN hi hx h.un hs hf).to fun _ _ _=>ph c hn fun _ _ _ h=>h⟩
theorem jy (hN:X.N.Nodup)(h:DE X G e b1 .O g1)(h0:G.io=true→i≠0:=by decide)(hi:X.N[i]? = some x:=by rfl)(hx:zY X.env.scope x:=by first|exact Or.inl rfl|exact Or.inr rfl)(c:G.is i=true:=by rfl)(hs:Yy e (some (.Name x p1)) pos.line X.env=pure false:=by rfl)(hf:X.fn x=true∨X.env.scope.names.lookup x=some .local:=by first|exact .inl rfl|exact .inr rfl|assumption):DS X G m (.Assign [.Name x p1] e pos) (bu i g1):=⟨(vU hN hi hx h.un hs hf).to fun _ _ _=>zg c h0 fun _ _ _ h=>h⟩
noncomputable def ux (i j:Nat):Ev→SR:=fun ρ=>match ρ[j]? with
 |some (some u)=>.nx ((ρ.set j none).set i (some u))
 |_=>.stk
theorem D2 {y:Str}(hN:X.N.Nodup)(h0:G.io=true→j≠0:=by decide)(hj:X.N[j]? = some y:=by rfl)(hv:Di X.env.scope y:=by first|exact Or.inl rfl|exact Or.inr (Or.inl rfl)|exact Or.inr (Or.inr rfl))(hd:(y==("__debug__":Str))=false:=by decide)(qv:(y==("__classdict__":Str))=false:=by decide)(cj:G.is j=true:=by rfl)(hi:X.N[i]? = some x:=by rfl)(hx:zY X.env.scope x:=by first|exact Or.inl rfl|exact Or.inr rfl)(c:G.is i=false:=by rfl)(hs:Yy (.Name y p2) (some (.Name x p1)) pos.line X.env=pure false:=by rfl)(hf:X.fn x=true∨X.env.scope.names.lookup x=some .local:=by first|exact .inl rfl|exact .inr rfl|assumption):DS X G m (.Assign [.Name x p1] (.Name y p2) pos) (ux i j):=⟨(vU hN hi hx (j0 hj hv hd qv) hs hf).to fun D σ H h00=>by
 obtain⟨Z,A,ρ,q,f⟩:=h00
 unfold ux at f
 split at f
 ·rename_i u hu
  obtain⟨a,A',h1,r,p⟩:=q.free cj h0 hu
  exact⟨.ref a,h1,f A' _ H (r.set c p)⟩
 ·exact f.elim⟩
noncomputable def MU (sg:U→Ev→R Ev)(g:Ev→R (U×Ev)):Ev→SR:=fun ρ=>SR.of (g ρ) fun x=>SR.of (sg x.1 x.2) .nx
noncomputable def MV (i j:Nat)(ga:Ev→R (List U×Ev)):Ev→SR:=fun ρ=>SR.of (ga ρ) fun x=>match x.1 with
 | [u,w]=>.nx ((x.2.set i (some u)).set j (some w))
 |_=>.stk
noncomputable def iV (h:Ev→R (Bool×Ev))(s1 s2:Ev→SR):Ev→SR:=fun ρ=>SR.of (h ρ) fun x=>if x.1=true then s1 x.2 else s2 x.2
theorem cu {a b:List Stmt}(hc:DT X G c b1 h1)(ha:zT X G m a s1)(hb:zT X G m b s2):DS X G m (.If c a b pos) (iV h1 s1 s2):=⟨(Jz hc.un ha.un hb.un).to fun D σ H h00=>by
 obtain⟨Z,A,ρ,q,f⟩:=h00
 obtain⟨⟨k,ρ1⟩,e1,f⟩:=f.of
 refine⟨Z,A,ρ,q,?_⟩
 rw[e1]
 intro H1 q1 _ _
 cases k with
 |true=>rw[if_pos rfl] at f ⊢;exact⟨Z,A,ρ1,q1,f⟩
 |false=>rw[if_neg UG] at f ⊢;exact⟨Z,A,ρ1,q1,f⟩⟩
noncomputable def AL (h:Ev→R (Bool×Ev))(s:Ev→SR):Nat→Ev→SR
 |0,_=>.stk
 |n+1,ρ=>SR.of (h ρ) fun x=>if x.1=true then match s x.2 with
   | .nx ρ2=>AL h s n ρ2
   | .ct ρ2=>AL h s n ρ2
   | .bk ρ2=>.nx ρ2
   |r=>r
  else .nx x.2
end
end L2
namespace L2
noncomputable def Wk (K:UB)(p:Bool)(A:UY→Prop)(us:List U)(J:It)(H1:Hp):Prop:=us.length≤UA ∧
 ∀H A',(if p=true then aM H1 H else ff A H1 H)→(∀b,A' b→A b∨H1 b=none)→(∀(i:Nat) (u:U),us[i]? = some u→J.go i H∧∀x H',J.yld i H x H'→aM H H'∧Rp K H' A' u x)∧J.stop us.length H
noncomputable def MW (K:UB)(G:Gm)(b p:Bool)(gi:Ev→R (List U×Ev)):TI:=fun σ H R=>∃Z A ρ,dv K G Z A ρ σ H∧match gi ρ with
 | .ok (us,ρ')=>∀J H1,dv K G Z A ρ' σ H1→ff A H H1→(b=false→ρ'=ρ∧aM H H1)→Wk K p A us J H1→R J H1
 |_=>False
structure DI (X:Cx)(G:Gm)(tg iter:WI)(b p:Bool)(gi:Ev→R (List U×Ev)):Prop where
 un:PI X tg iter (MW X.K G b p gi)
section
variable {G:Gm}{e a b:WI}{es:List WI}{p1:Pos}{b1 b2 b3:Bool}{m m1 m2 m3 mr:Md}{g1 g2 g3:Ev→R (U×Ev)}{h1 h2:Ev→R (Bool×Ev)}{ga:Ev→R (List U×Ev)}{s1 s2:Ev→SR}
theorem PI.to {t t':TI}(h:PI X tg e t)(i:∀σ H Q,t' σ H Q→t σ H Q):PI X tg e t':=fun pins s σ H Q I q=>h pins s σ H Q I (i _ _ _ q)
theorem PI.or {t t':TI}(h:PI X tg e t)(h':PI X tg e t'):PI X tg e (fun σ H R=>t σ H R∨t' σ H R):=fun pins s σ H Q I q=>by
 rcases q with q|q
 ·exact h pins s σ H Q I q
 ·exact h' pins s σ H Q I q
noncomputable def J9:Md→Bool
 | .P=>true
 |_=>false
noncomputable def fM (g:Ev→R (U×Ev)):Ev→R (List U×Ev):=fun ρ=>(g ρ).bind fun x=>match x.1 with
 | .lst us=>.ok (us,x.2)
 | .tup us=>.ok (us,x.2)
 | .scr us=>.ok (us,x.2)
 |_=>.stk
theorem D3 (q:dv K G Z A ρ σ H1)(h:uc K G Z m1 A ρ σ H1 (.lst us) v):∃a,v=.ref a∧(∃xs,fq K H1 a xs)∧Wk K (J9 m1) A us (LF K a) H1:=by
 have hp:=h.pk
 unfold Pk at hp
 obtain⟨a,xs,rfl,rd,l,rs⟩:=hp
 refine⟨a,rfl,⟨xs,fq.of rd⟩,l,fun H A' hs ha => ?_⟩
 have st:H a=some (.lst xs)∧∀(i:Nat) (u:U),us[i]? = some u→∃x,xs[i]? = some x∧Rp K H A' u x:=by
  cases hm:J9 m1 with
  |true =>
   rw[hm,if_pos rfl] at hs
   refine⟨hs a _ rd,fun i u hu => ?_⟩
   obtain⟨x,h1,h2⟩:=rs.get hu
   exact⟨x,h1,h2.re q.mu (ff.same hs) ha⟩
  |false =>
   rw[hm,if_neg UG] at hs
   have hn:m1≠.P:=fun z=>by subst z;cases hm
   have hr:=h.rp hn
   unfold Rp at hr
   obtain⟨a',xs',e,na,rd',_,rs'⟩:=hr
   cases e
   refine⟨hs a _ na rd,fun i u hu => ?_⟩
   obtain⟨x,h1,h2⟩:=rs.get hu
   exact⟨x,h1,h2.re q.mu hs ha⟩
 obtain⟨rd2,get⟩:=st
 refine⟨fun i u hu => ?_,⟨xs,fq.of rd2,by rw[←rs.length];exact UK _⟩⟩
 obtain⟨x,h1,h2⟩:=get i u hu
 refine⟨⟨xs,x,fq.of rd2,h1⟩,fun y H' yl => ?_⟩
 obtain⟨e,yl⟩:=yl
 have e2:=yl xs (fq.of rd2)
 rw[h1] at e2
 cases e2
 subst e
 exact⟨aM.refl _,h2⟩
theorem Hx {p:Bool}(q:dv K G Z A ρ σ H1)(h:Pk K H1 A (.tup us) v):∃a,v=.ref a∧(∃xs,gT K H1 a xs)∧Wk K p A us (Mr K a) H1:=by
 unfold Pk at h
 obtain⟨a,xs,rfl,sq,l,rs⟩:=h
 refine⟨a,rfl,⟨xs,gT.of sq⟩,l,fun H A' hs ha => ?_⟩
 have ex:ff A H1 H:=by
  cases p with
  |true=>rw[if_pos rfl] at hs;exact ff.same hs
  |false=>rw[if_neg UG] at hs;exact hs
 have IX:gT K H a xs:=gT.of (ex a _ (fun z=>by have:=q.mu a z;rw[sq] at this;exact this) sq)
 refine⟨fun i u hu => ?_,⟨xs,IX,by rw[←rs.length];exact UK _⟩⟩
 obtain⟨x,h1,h2⟩:=rs.get hu
 refine⟨⟨xs,x,IX,h1⟩,fun y H' yl => ?_⟩
 obtain⟨e,yl⟩:=yl
 have e2:=yl xs IX
 rw[h1] at e2
 cases e2
 subst e
 exact⟨aM.refl _,h2.re q.mu ex ha⟩
theorem Hy {p:Bool}(q:dv K G Z A ρ σ H1)(h:Pk K H1 A (.scr us) v):∃a,v=.ref a∧(∃xs,fq K H1 a xs)∧Wk K p A us (LF K a) H1:=by
 unfold Pk at h
 obtain⟨a,xs,rfl,sq,l,rs⟩:=h
 refine⟨a,rfl,⟨xs,sq.sq⟩,l,fun H A' hs ha => ?_⟩
 have ex:ff A H1 H:=by
  cases p with
  |true=>rw[if_pos rfl] at hs;exact ff.same hs
  |false=>rw[if_neg UG] at hs;exact hs
 have IX:fq K H a xs:=(sq.to fun o y w=>ex a _ (fun z=>by have:=q.mu a z;rw[w] at this;exact this) w).sq
 refine⟨fun i u hu => ?_,⟨xs,IX,by rw[←rs.length];exact UK _⟩⟩
 obtain⟨x,h1,h2⟩:=rs.get hu
 refine⟨⟨xs,x,IX,h1⟩,fun y H' yl => ?_⟩
 obtain⟨e,yl⟩:=yl
 have e2:=yl xs IX
 rw[h1] at e2
 cases e2
 subst e
 exact⟨aM.refl _,h2.re q.mu ex ha⟩
theorem dG (h:DE X G e b1 m1 g1):DI X G tg e b1 (J9 m1) (fM g1):=⟨((Ds h.un).or (G5 h.un)).to fun σ H RR h00=>by
 obtain⟨Z,A,ρ,q,f⟩:=h00
 unfold fM at f
 cases e1:g1 ρ with
 |stk=>rw[e1] at f;exact f.elim
 |exc=>rw[e1] at f;exact f.elim
 |ok y =>
  obtain⟨u,ρ1⟩:=y
  rw[e1] at f
  cases u with
  |lst us =>
   refine .inl ⟨Z,A,ρ,q,?_⟩
   rw[e1]
   intro v H1 q1 x1 s1 vm
   obtain⟨a,e,l,wk⟩:=D3 q1 vm
   exact⟨a,e,l,f _ H1 q1 x1 s1 wk⟩
  |tup us =>
   refine .inr ⟨Z,A,ρ,q,?_⟩
   rw[e1]
   intro v H1 q1 x1 s1 vm
   obtain⟨a,e,l,wk⟩:=Hx (p:=J9 m1) q1 vm.pk
   exact⟨a,e,l,f _ H1 q1 x1 s1 wk⟩
  |scr us =>
   refine .inl ⟨Z,A,ρ,q,?_⟩
   rw[e1]
   intro v H1 q1 x1 s1 vm
   obtain⟨a,e,l,wk⟩:=Hy (p:=J9 m1) q1 vm.pk
   exact⟨a,e,l,f _ H1 q1 x1 s1 wk⟩
  |_=>exact f.elim⟩
noncomputable def aE (lo:Int)(n:Nat):List U:=(Vc n).map fun i=>.int (lo+(i:Nat))
theorem AM {lo:Int}{p:Bool}(h:n≤UA):Wk K p A (aE lo n) (LG lo n) H1:=by
 have hl:(aE lo n).length=n:=by unfold aE;rw[Ux,Vx]
 refine⟨by rw[hl];exact h,fun H A' _ _=>⟨fun i u hu => ?_,by rw[hl];exact UK _⟩⟩
 unfold aE at hu
 rw[U8] at hu
 cases e:(Vc n)[i]? with
 |none=>rw[e] at hu;cases hu
 |some j =>
  rw[e] at hu
  obtain⟨l1,l2⟩:=UJ.mp e
  rw[Vx] at l1
  rw[List.getElem_range] at l2
  subst l2
  cases hu
  refine⟨l1,fun x H' y => ?_⟩
  obtain⟨rfl,rfl⟩:=y
  exact⟨aM.refl _,ez⟩
noncomputable def fN (ga:Ev→R (List U×Ev)):Ev→R (List U×Ev):=fun ρ=>(ga ρ).bind fun x=>match x.1 with
 | [.int j]=>if -1000000≤j∧j≤1000000 then .ok (aE 0 j.toNat,x.2) else .stk
 |_=>.stk
theorem dC {a:WI}(ha:DA X G [a] b1 false ga)(hm:X.mg "range"=none)(hg:Gl X "range":=by rfl)(hs:UX [a] X.env=[(false,Yg a X.env)]:=by rfl):DI X G tg (.Call (.Name "range" p1) [a] [] pos) b1 false (fN ga):=⟨(yS hg hm ha.un hs).to fun σ H RR h00=>by
 obtain⟨Z,A,ρ,q,f⟩:=h00
 unfold fN at f
 cases e1:ga ρ with
 |stk=>rw[e1] at f;exact f.elim
 |exc=>rw[e1] at f;exact f.elim
 |ok y =>
  obtain⟨us,ρ1⟩:=y
  rw[e1] at f
  dsimp only[L2.R.bind] at f
  refine⟨Z,A,ρ,q,?_⟩
  rw[e1]
  intro vs H1 q1 x1 s1 vm
  split at f
  ·rename_i RN ρ' e2
   split at e2
   ·rename_i j
    split at e2
    ·rename_i hl
     cases e2
     have r:=vm.rps
     unfold aG at r
     obtain⟨v,vr,rfl,r1,r2⟩:=r
     unfold aG at r2
     subst r2
     unfold Rp at r1
     subst r1
     exact⟨j,rfl,by lia,by lia,f _ H1 q1 x1 s1 (AM (by have:UA=16777216:=rfl;lia))⟩
    ·cases e2
   ·cases e2
  ·exact f.elim⟩
noncomputable def gU (sg:U→Ev→R Ev)(s:Ev→SR):List U→Ev→SR
 | [],ρ=>.nx ρ
 |u::us,ρ=>SR.of (sg u ρ) fun ρ1=>match s ρ1 with
   | .nx ρ2=>gU sg s us ρ2
   | .ct ρ2=>gU sg s us ρ2
   | .bk ρ2=>.nx ρ2
   |r=>r
noncomputable def kF (gi:Ev→R (List U×Ev))(sg:U→Ev→R Ev)(s:Ev→SR):Ev→SR:=fun ρ=>SR.of (gi ρ) fun x=>gU sg s x.1 x.2
open Classical in
noncomputable def Pkg.lp (Z:Pkg)(A:UY→Prop)(H:Hp):Pkg:={Z with B:=fun b=>if A b∧Z.B b=none then none else H b}
theorem sO {b:UY}(h1:A b)(h2:Z.B b=none):(Z.lp A H).B b=none:=by
 unfold Pkg.lp
 dsimp only
 exact if_pos ⟨h1,h2⟩
theorem kG {b:UY}(h:¬(A b∧Z.B b=none)):(Z.lp A H).B b=H b:=by
 unfold Pkg.lp
 dsimp only
 exact if_neg h
theorem wj {b:UY}(h:(Z.lp A H).B b=none):(A b∧Z.B b=none)∨H b=none:=by
 by_cases c:A b∧Z.B b=none
 ·exact .inl c
 ·rw[kG c] at h;exact .inr h
theorem dv.lp (q:dv K G Z A ρ σ H):dv K G (Z.lp A H) A ρ σ H where
 slot:=fun i u h=>by
  obtain⟨v,h1,h2⟩:=q.slot i u h
  refine⟨v,h1,?_⟩
  by_cases c:G.is i=true
  ·rw[if_pos c] at h2 ⊢
   obtain⟨a,e1,e2,e3,e4,e5⟩:=h2
   exact⟨a,e1,e2,sO e2 e3,e4,e5⟩
  ·rw[if_neg c] at h2 ⊢;exact h2
 dis:=q.dis
 mu:=q.mu
 sup:=q.sup
 out:=fun a h=>(q.out a h).imp id fun z=>sO h z
 bas:=fun a o h=>by
  by_cases c:A a∧Z.B a=none
  ·rw[sO c.1 c.2] at h;cases h
  ·rw[kG c] at h;exact h
 io0:=q.io0
 len:=q.len
theorem dv.unlp {A':UY→Prop}{ρ':Ev}{σ':St}(q:dv K G Z A ρ σ H)(q':dv K G (Z.lp A H) A' ρ' σ' H'):dv K G Z A' ρ' σ' H':=by
 have sub:∀a,(Z.lp A H).B a=none→Z.B a=none:=fun a h=>by
  rcases wj h with z|h
  ·exact z.2
  ·cases e:Z.B a with
   |none=>rfl
   |some o=>rw[q.bas a o e] at h;cases h
 exact {
  slot:=fun i u h=>by
   obtain⟨v,h1,h2⟩:=q'.slot i u h
   refine⟨v,h1,?_⟩
   by_cases c:G.is i=true
   ·rw[if_pos c] at h2 ⊢
    obtain⟨a,e1,e2,e3,e4,e5⟩:=h2
    exact⟨a,e1,e2,sub a e3,e4,e5⟩
   ·rw[if_neg c] at h2 ⊢;exact h2
  dis:=q'.dis
  mu:=q'.mu
  sup:=q'.sup
  out:=fun a h=>(q'.out a h).imp id (sub a)
  bas:=fun a o h=>q'.bas a o (by
   rw[kG (fun z=>by rw[h] at z;exact nomatch z.2)]
   exact q.bas a o h)
  io0:=q'.io0
  len:=q'.len}
theorem sM.lp {r:SR}{D:oJ}(q:dv K G Z A ρ σ H)(f:sM K G Z m r D):sM K G (Z.lp A H) m r D:=by
 cases r with
 |nx=>exact fun A' σ' H' q'=>f A' σ' H' (q.unlp q')
 |bk=>exact fun A' σ' H' q'=>f A' σ' H' (q.unlp q')
 |ct=>exact fun A' σ' H' q'=>f A' σ' H' (q.unlp q')
 |rt u ρ' =>
  intro A' σ' H' v q' vm
  refine f A' σ' H' v (q.unlp q') ?_
  cases m with
  |S=>exact vm
  |P=>exact vm
  |O =>
   obtain⟨a,e,nb,na,t⟩:=vm
   refine⟨a,e,?_,na,t⟩
   rcases wj nb with z|h
   ·exact z.2
   ·cases e:Z.B a with
    |none=>rfl
    |some o=>rw[q.bas a o e] at h;cases h
 |exc=>exact fun H' hb=>f H' fun a o h=>hb a o (by
   rw[kG (fun z=>by rw[h] at z;exact nomatch z.2)]
   exact q.bas a o h)
 |stk=>exact f.elim
theorem je {gi:Ev→R (List U×Ev)}(hp:PassesOwn (Vf X.prog X.w) X.A X.env X.xe)(hc:X.calm=true)(hi:DI X G tg iter b1 false gi)(hg:DG X G tg sg)(hb:zT X G m body s1)(hs:∀x,Wh iter X.env x=pure x:=by intro _;rfl):DS X G m (.For tg iter body [] pos) (kF gi sg s1):=⟨(DM hp hc hi.un hg.un hb.un hs).to fun D σ H h00=>by
 obtain⟨Z,A,ρ,q,f⟩:=h00
 obtain⟨⟨us,ρ1⟩,e1,f⟩:=f.of
 refine⟨Z,A,ρ,q,?_⟩
 rw[e1]
 intro J H1 q1 x1 xb wk
 dsimp only at f
 obtain⟨hz,wk⟩:=wk
 refine⟨fun i k σ H=>i+k=us.length∧∃A' ρ',dv X.K G (Z.lp A H1) A' ρ' σ H∧sM X.K G (Z.lp A H1) m (gU sg s1 (us.drop i) ρ') D,⟨us.length,by lia,A,ρ1,q1.lp,by rw[Yu];exact f.lp q1⟩,?_⟩
 rintro i k σ H ⟨hk,A',ρ',q',f'⟩
 have ex:ff A H1 H:=fun b o nb z=>q'.bas b o (by
  rw[kG (fun y=>nb y.1)];exact z)
 have nw:∀b,A' b→A b∨H1 b=none:=fun b z=>by
  rcases q'.out b z with y|y
  ·exact .inl (q1.sup b y)
  ·rcases wj y with w|h
   ·exact .inl w.1
   ·exact .inr h
 obtain⟨w1,w2⟩:=wk H A' (by rw[if_neg UG];exact ex) nw
 by_cases xa:i<us.length
 ·have eu:us[i]? = some us[i]:=Uv xa
  obtain⟨go,yl⟩:=w1 i _ eu
  rw[V9 xa] at f'
  unfold gU at f'
  obtain⟨ρ2,e2,f2⟩:=f'.of
  refine .inr ⟨go,fun σ H=>∃A' ρ',dv X.K G (Z.lp A H1) A' ρ' σ H∧sM X.K G (Z.lp A H1) m (gU sg s1 (us.drop (i+1)) ρ') D,fun σ' H' z=>⟨k - 1,by lia,by lia,z⟩,fun x H' y => ?_⟩
  obtain⟨sm,rp⟩:=yl x H' y
  refine⟨Z.lp A H1,A',ρ',us[i],q'.same sm,rp,?_⟩
  rw[e2]
  intro σ2 q2 _
  refine⟨Z.lp A H1,A',ρ2,q2,?_⟩
  cases e3:s1 ρ2 with
  |nx ρ3=>rw[e3] at f2;exact fun A3 σ3 H3 q3=>⟨A3,ρ3,q3,f2⟩
  |ct ρ3=>rw[e3] at f2;exact fun A3 σ3 H3 q3=>⟨A3,ρ3,q3,f2⟩
  |bk ρ3=>rw[e3] at f2;exact f2
  |rt=>rw[e3] at f2;exact f2
  |exc=>rw[e3] at f2;exact f2
  |stk=>rw[e3] at f2;exact f2
 ·have e:i=us.length:=by lia
  subst e
  rw[XR] at f'
  exact .inl ⟨w2,f' A' σ H q'⟩⟩
end
end L2
namespace L2
noncomputable def fO (js:List (Option Nat))(ρ:Ev):Ev:=js.map fun o=>match o with
 |none=>none
 |some j=>match ρ[j]? with
  |some v=>v
  |none=>none
noncomputable def nY (G:Gm)(js:List (Option Nat)):Gm:=⟨js.map fun o=>match o with
 |none=>false
 |some j=>G.is j,false,fun _=>False⟩
noncomputable def kH:List (Option Nat)→Bool
 | []=>true
 |none::r=>kH r
 |some j::r => !(r.contains (some j))&&kH r
theorem pj:∀{js:List (Option Nat)} {i k j:Nat},kH js=true→js[i]? = some (some j)→js[k]? = some (some j)→i=k
 | [],_,_,_,_,h,_=>by simp at h
 |none::r,i,k,j,ok,h1,h2=>by
  unfold kH at ok
  cases i with
  |zero=>simp at h1
  |succ i =>
   cases k with
   |zero=>simp at h2
   |succ k=>exact congrArg (·+1) (pj (j:=j) ok (by simpa using h1) (by simpa using h2))
 |some j'::r,i,k,j,ok,h1,h2=>by
  unfold kH at ok
  rw[Vu] at ok
  have nm:∀n:Nat,r[n]? ≠ some (some j'):=fun n h=>by
   have:=Vt h
   simp at ok
   exact ok.1 this
  cases i with
  |zero =>
   cases k with
   |zero=>rfl
   |succ k=>simp at h1 h2;subst h1;exact absurd h2 (nm k)
  |succ i =>
   cases k with
   |zero=>simp at h1 h2;subst h2;exact absurd h1 (nm i)
   |succ k=>exact congrArg (·+1) (pj (j:=j) ok.2 (by simpa using h1) (by simpa using h2))
theorem kI (h:(fO js ρ)[i]? = some (some u)):∃j,js[i]? = some (some j)∧ρ[j]? = some (some u):=by
 unfold fO at h
 rw[U8] at h
 cases e:js[i]? with
 |none=>rw[e] at h;cases h
 |some o =>
  rw[e] at h
  cases o with
  |none=>cases h
  |some j =>
   refine⟨j,rfl,?_⟩
   have h:=U0 h
   dsimp only at h
   split at h
   ·rename_i v hv;rw[hv,h]
   ·cases h
theorem kJ (h:js[i]? = some (some j))(hv:σ[j]? = some (some v)):(qZ js σ)[i]? = some (some v):=by
 unfold qZ
 rw[U8,h]
 dsimp only[Option.map]
 rw[hv]
theorem pq {G:Gm}(h:js[i]? = some (some j)):(nY G js).is i=G.is j:=by
 unfold nY Gm.is
 dsimp only
 rw[X9,U8,h]
 rfl
theorem xt (js:List (Option Nat))(ρ:Ev)(σ:St):(fO js ρ).length=(qZ js σ).length:=by
 unfold fO qZ;rw[Ux,Ux]
section
variable {G:Gm}{ρi:Ev}
theorem xu (q:dv K G Z A ρ σ H)(ok:kH js=true):dv K (nY G js) ⟨fun _=>False,fun _=>none,0⟩ A (fO js ρ) (qZ js σ) H where
 slot:=fun i u h=>by
  obtain⟨j,h1,h2⟩:=kI h
  obtain⟨v,h3,h4⟩:=q.slot j u h2
  refine⟨v,kJ h1 h3,?_⟩
  rw[pq h1]
  by_cases c:G.is j=true
  ·rw[if_pos c] at h4 ⊢
   obtain⟨a,e1,e2,_,_,e5⟩:=h4
   exact⟨a,e1,e2,rfl,.inl id,e5⟩
  ·rw[if_neg c] at h4 ⊢;exact h4
 dis:=fun i k u w a ci ck ne hi hk si sk=>by
  obtain⟨j,h1,h2⟩:=kI hi
  obtain⟨j',h1',Jq⟩:=kI hk
  rw[pq h1] at ci
  rw[pq h1'] at ck
  obtain⟨b,e1,_⟩:=q.own ci h2
  obtain⟨b',xc,_⟩:=q.own ck Jq
  rw[kJ h1 e1] at si
  rw[kJ h1' xc] at sk
  cases si
  cases sk
  exact q.dis j j' u w a ci ck (fun z=>ne (by subst z;exact pj ok h1 h1')) h2 Jq e1 xc
 mu:=q.mu
 sup:=fun _ h=>h.elim
 out:=fun _ _=>.inr rfl
 bas:=fun _ _ h=>by cases h
 io0:=fun h=>by cases h
 len:=xt js ρ σ
noncomputable def D4 (G:Gm)(js:List (Option Nat))(ρ:Ev)(σ:St)(a:UY):Prop:=∃(i j:Nat) (u:U),js[i]? = some (some j)∧G.is j=true∧ρ[j]? = some (some u)∧σ[j]? = some (some (.ref a))
open Classical in
noncomputable def Hz (G:Gm)(js:List (Option Nat))(A:UY→Prop)(ρ:Ev)(σ:St)(H:Hp):Pkg:=⟨fun a=>A a∧¬D4 G js ρ σ a,fun a=>if D4 G js ρ σ a then none else H a,0⟩
theorem pz (h:D4 G js ρ σ a):(Hz G js A ρ σ H).B a=none:=by
 unfold Hz;dsimp only;exact if_pos h
theorem kK (h:¬D4 G js ρ σ a):(Hz G js A ρ σ H).B a=H a:=by
 unfold Hz;dsimp only;exact if_neg h
theorem HA (q:dv K G Z A ρ σ H)(ok:kH js=true):dv K (nY G js) (Hz G js A ρ σ H) A (fO js ρ) (qZ js σ) H where
 slot:=fun i u h=>by
  obtain⟨j,h1,h2⟩:=kI h
  obtain⟨v,h3,h4⟩:=q.slot j u h2
  refine⟨v,kJ h1 h3,?_⟩
  rw[pq h1]
  by_cases c:G.is j=true
  ·rw[if_pos c] at h4 ⊢
   obtain⟨a,e1,e2,_,_,e5⟩:=h4
   subst e1
   have cp:D4 G js ρ σ a:=⟨i,j,u,h1,c,h2,h3⟩
   exact⟨a,rfl,e2,pz cp,.inl fun z=>z.2 cp,e5⟩
  ·rw[if_neg c] at h4 ⊢;exact h4
 dis:=(xu q ok).dis
 mu:=q.mu
 sup:=fun _ h=>h.1
 out:=fun a h=>by
  by_cases c:D4 G js ρ σ a
  ·exact .inr (pz c)
  ·exact .inl ⟨h,c⟩
 bas:=fun a o h=>by
  by_cases c:D4 G js ρ σ a
  ·rw[pz c] at h;cases h
  ·rw[kK c] at h;exact h
 io0:=fun h=>by cases h
 len:=xt js ρ σ
noncomputable def jf:List (Option Nat)→Nat→Option Nat
 | [],_=>none
 |o::r,j=>if o=some j then some 0 else (jf r j).map (·+1)
theorem rj:∀{js:List (Option Nat)} {i j:Nat},jf js j=some i→js[i]? = some (some j)
 | [],_,_,h=>by cases h
 |o::r,i,j,h=>by
  unfold jf at h
  split at h
  ·rename_i e;cases h;rw[e];rfl
  ·cases e:jf r j with
   |none=>rw[e] at h;cases h
   |some k =>
    rw[e] at h
    cases h
    rw[VR]
    exact rj e
theorem pA:∀{js:List (Option Nat)} {i j:Nat},jf js j=none→js[i]? ≠ some (some j)
 | [],_,_,_=>by simp
 |o::r,i,j,h=>by
  unfold jf at h
  split at h
  ·cases h
  ·rename_i ne
   cases e:jf r j with
   |some k=>rw[e] at h;cases h
   |none =>
    cases i with
    |zero=>intro z;exact ne (U0 z)
    |succ i=>rw[VR];exact pA e
noncomputable def wb (G:Gm)(js:List (Option Nat))(ρi ρ:Ev):Ev:=ρ.mapIdx fun j x=>if (G.is j&&x.isSome)=true then (match jf js j with
 |some i=>(ρi[i]?).getD none
 |none=>x) else x
theorem wm (h:(wb G js ρi ρ)[j]? = some (some u)):∃u0,ρ[j]? = some (some u0)∧((G.is j=true∧∃i,jf js j=some i∧ρi[i]? = some (some u))∨(u0=u∧(G.is j=false∨jf js j=none))):=by
 unfold wb at h
 rw[List.getElem?_mapIdx] at h
 cases e:ρ[j]? with
 |none=>rw[e] at h;cases h
 |some x =>
  rw[e] at h
  have h:=U0 h
  cases x with
  |none=>simp at h
  |some u0 =>
   refine⟨u0,rfl,?_⟩
   dsimp only at h
   by_cases c:G.is j=true
   ·rw[if_pos (by rw[c];rfl)] at h
    split at h
    ·rename_i i hi
     refine .inl ⟨c,i,hi,?_⟩
     cases e2:ρi[i]? with
     |none=>rw[e2] at h;cases h
     |some y=>rw[e2] at h;simp at h;rw[h]
    ·rename_i hi
     exact .inr ⟨U0 h,.inr hi⟩
   ·have c:G.is j=false:=XC.mpr c
    rw[if_neg (by rw[c];exact UG)] at h
    exact .inr ⟨U0 h,.inl c⟩
theorem dv.wb {σ4:St}(q:dv K G Z A ρ σ H)(ok:kH js=true)(q':dv K (nY G js) (Hz G js A ρ σ H) A ρi σ4 H')(ho:∀i,(nY G js).is i=true→σ4[i]? = (qZ js σ)[i]?):dv K G Z A (L2.wb G js ρi ρ) σ H'∧ff A H H':=by
 have Ld:∀a,D4 G js ρ σ a→A a∧Z.B a=none:=fun a h00=>by
  obtain⟨i,j,u,h1,h2,h3,h4⟩:=h00
  obtain⟨b,e1,e2,e3,_⟩:=q.own h2 h3
  rw[h4] at e1;cases e1;exact⟨e2,e3⟩
 have ex:ff A H H':=fun b o nb z=>q'.bas b o (by rw[kK fun c=>nb (Ld b c).1];exact z)
 refine⟨{
  slot:=fun j u h => ?_
  dis:=fun i k u w a ci ck ne hi hk si sk=>by
   obtain⟨u1,h1,_⟩:=wm hi
   obtain⟨u2,h2,_⟩:=wm hk
   exact q.dis i k u1 u2 a ci ck ne h1 h2 si sk
  mu:=q'.mu
  sup:=q.sup
  out:=q.out
  bas:=fun a o h=>q'.bas a o (by
   rw[kK fun c=>by rw[(Ld a c).2] at h;cases h]
   exact q.bas a o h)
  io0:=q.io0
  len:=by unfold L2.wb;rw[List.length_mapIdx];exact q.len},ex⟩
 obtain⟨u0,h0,hh⟩:=wm h
 rcases hh with⟨c,i,hi,hu⟩|⟨rfl,hc⟩
 ·have hj:=rj hi
  obtain⟨a,e1,e2,e3,e4,_⟩:=q.own c h0
  have ci:(nY G js).is i=true:=by rw[pq hj];exact c
  obtain⟨a',k1,k2,_,_,k5⟩:=q'.own ci hu
  rw[ho i ci,kJ hj e1] at k1
  cases k1
  refine⟨.ref a,e1,?_⟩
  rw[if_pos c]
  exact⟨a,rfl,e2,e3,e4,k5⟩
 ·obtain⟨v,h1,h2⟩:=q.slot j u0 h0
  refine⟨v,h1,?_⟩
  by_cases c:G.is j=true
  ·rw[if_pos c] at h2 ⊢
   obtain⟨a,rfl,e2,e3,e4,e5⟩:=h2
   have hc:jf js j=none:=by
    rcases hc with hc|hc
    ·rw[c] at hc;cases hc
    ·exact hc
   have nc:¬D4 G js ρ σ a:=fun h00=>by
    obtain⟨i,j',u,z1,z2,z3,z4⟩:=h00
    have ne:j≠j':=fun z=>by subst z;exact pA hc z1
    exact q.dis j j' u0 u a c z2 ne h0 z3 h1 z4
   exact⟨a,rfl,e2,e3,e4,e5.re q.mu ex (fun b z=>.inl z) fun o z=>q'.bas a o (by rw[kK nc];exact z)⟩
  ·rw[if_neg c] at h2 ⊢
   exact h2.re q.mu ex fun b z=>.inl z
end
noncomputable def pD (f:U→R (Option U)):List U→R (List U)
 | []=>.ok []
 |u::us=>(f u).bind fun o=>(pD f us).bind fun r=>.ok (match o with
  |some y=>y::r
  |none=>r)
noncomputable def rk (js:List (Option Nat))(sg:U→Ev→R Ev)(gt:Ev→R (Bool×Ev))(ge:Ev→R (U×Ev))(ρ:Ev)(u:U):R (Option U) :=
 (sg u (fO js ρ)).bind fun ρi=>(gt ρi).bind fun c=>if c.1=true then (ge ρi).bind fun y=>.ok (some y.1) else .ok none
noncomputable def gy (gi:Ev→R (List U×Ev))(js:List (Option Nat))(sg:U→Ev→R Ev)(gt:Ev→R (Bool×Ev))(ge:Ev→R (U×Ev)):Ev→R (U×Ev):=fun ρ =>
 (gi ρ).bind fun x=>(pD (rk js sg gt ge x.2) x.1).bind fun ys=>.ok (.lst ys,x.2)
noncomputable def kL (G:Gm)(js:List (Option Nat))(sg:U→Ev→R Ev)(gt:Ev→R (Bool×Ev))(ge:Ev→R (U×Ev)):List U→Ev→R (List U×Ev)
 | [],ρ=>.ok ([],ρ)
 |u::us,ρ=>(sg u (fO js ρ)).bind fun ρi=>(gt ρi).bind fun c=>if c.1=true then (ge c.2).bind fun y=>(kL G js sg gt ge us (wb G js y.2 ρ)).bind fun r=>.ok (y.1::r.1,r.2) else kL G js sg gt ge us (wb G js c.2 ρ)
noncomputable def pE (G:Gm)(gi:Ev→R (List U×Ev))(js:List (Option Nat))(sg:U→Ev→R Ev)(gt:Ev→R (Bool×Ev))(ge:Ev→R (U×Ev)):Ev→R (U×Ev):=fun ρ =>
 (gi ρ).bind fun x=>(kL G js sg gt ge x.1 x.2).bind fun y=>.ok (.lst y.1,y.2)
theorem R.bind_ok {α β:Type}{x:R α}{k:α→R β}{b:β}(h:x.bind k=.ok b):∃a,x=.ok a∧k a=.ok b:=by
 cases x with
 |ok a=>exact⟨a,rfl,h⟩
 |exc=>cases h
 |stk=>cases h
section
variable {G:Gm}{e:WI}{b1 b2 b3 p:Bool}{m me:Md}{gi:Ev→R (List U×Ev)}{gt:Ev→R (Bool×Ev)}{ge:Ev→R (U×Ev)}
theorem uy (ok:kH js=true)(hn:me≠.P){Q:VK}(h:tD X.K G b1 .O (gy gi js sg gt ge) σ H Q) :
  LJ (MW X.K G b1 p gi) js (fun _=>MR X.K (nY G js) sg) (fun _=>zS X.K (nY G js) false gt) (fun _=>tD X.K (nY G js) false me ge) σ H Q:=by
 obtain⟨Z,A,ρ,q,f⟩:=h
 obtain⟨⟨us,ρ1⟩,e1,f⟩:=f.bind
 obtain⟨all,e2,f⟩:=f.bind
 refine⟨Z,A,ρ,q,?_⟩
 rw[e1]
 intro J H1 q1 x1 s1 ⟨hz,wk⟩ Y
 dsimp only at e2 f
 refine⟨fun i k ys H2=>i+k=us.length∧aM H1 H2∧∃done rest,pD (rk js sg gt ge ρ1) (us.drop i)=.ok rest∧done++rest=all∧aG X.K H2 A done ys∧done.length≤i,
  ⟨us.length,by lia,aM.refl _,[],all,by rw[Yu];exact e2,rfl,aG.nil,UK _⟩,?_⟩
 rintro i k ys H2 ⟨hk,sm,done,rest,e3,e4,rs,hd⟩
 have q2:=q1.same sm
 obtain⟨w1,w2⟩:=wk H2 A (by split;exact sm;exact ff.same sm) fun b z=>.inl z
 by_cases xa:i<us.length
 ·have eu:us[i]? = some us[i]:=Uv xa
  obtain⟨go,yl⟩:=w1 i _ eu
  rw[V9 xa] at e3
  unfold pD at e3
  obtain⟨o,e5,e3⟩:=R.bind_ok e3
  obtain⟨r,e6,e3⟩:=R.bind_ok e3
  unfold rk at e5
  obtain⟨ρi,e7,e5⟩:=R.bind_ok e5
  obtain⟨⟨c,ρc⟩,e8,e5⟩:=R.bind_ok e5
  refine .inr ⟨go,by rw[←rs.length];lia,fun GD H'=>aM H1 H'∧∃done,done++r=all∧aG X.K H' A done GD∧done.length≤i+1,fun GD H' ⟨z1,dn,z2,z3,z4⟩=>⟨k - 1,by lia,by lia,z1,dn,r,e6,z2,z3,z4⟩,fun x H3 y => ?_⟩
  obtain⟨sm3,rp⟩:=yl x H3 y
  refine⟨_,A,fO js ρ1,us[i],(xu (q2.same sm3) ok),rp,?_⟩
  rw[e7]
  intro σ4 q4 _
  refine⟨_,A,ρi,q4,?_⟩
  rw[e8]
  intro H5 q5 x5 s5
  obtain⟨rfl,sm5⟩:=s5 rfl
  cases c with
  |false =>
   rw[if_neg UG] at e5 ⊢
   cases e5
   cases e3
   exact⟨(sm.trans sm3).trans sm5,done,e4,(rs.same sm3).same sm5,by lia⟩
  |true =>
   rw[if_pos rfl] at e5 ⊢
   obtain⟨⟨y1,ρy⟩,e9,e5⟩:=R.bind_ok e5
   cases e5
   cases e3
   refine⟨_,A,ρc,q5,?_⟩
   rw[e9]
   intro v H6 q6 x6 s6 vm
   obtain⟨rfl,sm6⟩:=s6 rfl
   have QA:=sm3.trans (sm5.trans sm6)
   exact⟨sm.trans QA,done++[y1],by rw[UZ];exact e4,(rs.same QA).append (aG.cons (vm.rp hn) aG.nil),by rw[UH];simp;lia⟩
 ·have e:i=us.length:=by lia
  subst e
  rw[XR] at e3
  cases e3
  rw[Vw] at e4
  subst e4
  refine .inl ⟨w2,fun a na => ?_⟩
  have sn:=cZ na (.lst ys)
  exact f _ _ (q2.same sn) ((x1.trans (ff.same sm)).trans (ff.same sn)) (lZ (lZ s1 sm) sn) (zQ.e q2 sn ⟨a,rfl,na,cE q2.mu rs na (by lia)⟩)
theorem uz (ok:kH js=true)(hn:me≠.P){Q:VK}(h:tD X.K G true .O (pE G gi js sg gt ge) σ H Q) :
  LJ (MW X.K G b1 false gi) js (fun _=>MR X.K (nY G js) sg) (fun _=>zS X.K (nY G js) b2 gt) (fun _=>tD X.K (nY G js) b3 me ge) σ H Q:=by
 obtain⟨Z,A,ρ,q,f⟩:=h
 obtain⟨⟨us,ρ1⟩,e1,f⟩:=f.bind
 obtain⟨⟨all,ρe⟩,e2,f⟩:=f.bind
 refine⟨Z,A,ρ,q,?_⟩
 rw[e1]
 intro J H1 q1 x1 s1 ⟨hz,wk⟩ Y
 dsimp only at e2 f
 refine⟨fun i k ys H2=>i+k=us.length∧ff A H1 H2∧∃ρ2 done rest,dv X.K G Z A ρ2 σ H2∧kL G js sg gt ge (us.drop i) ρ2=.ok (rest,ρe)∧done++rest=all∧aG X.K H2 A done ys∧done.length≤i,
  ⟨us.length,by lia,ff.refl,ρ1,[],all,q1,by rw[Yu];exact e2,rfl,aG.nil,UK _⟩,?_⟩
 rintro i k ys H2 ⟨hk,ex,ρ2,done,rest,q2,e3,e4,rs,hd⟩
 obtain⟨w1,w2⟩:=wk H2 A (by rw[if_neg UG];exact ex) fun b z=>.inl z
 by_cases xa:i<us.length
 ·have eu:us[i]? = some us[i]:=Uv xa
  obtain⟨go,yl⟩:=w1 i _ eu
  rw[V9 xa] at e3
  unfold kL at e3
  obtain⟨ρi,e7,e3⟩:=R.bind_ok e3
  obtain⟨⟨c,ρc⟩,e8,e3⟩:=R.bind_ok e3
  refine .inr ⟨go,by rw[←rs.length];lia,fun GD H'=>ff A H1 H'∧∃ρ2 done rest,dv X.K G Z A ρ2 σ H'∧kL G js sg gt ge (us.drop (i+1)) ρ2=.ok (rest,ρe)∧done++rest=all∧aG X.K H' A done GD∧done.length≤i+1,fun GD H' z=>⟨k - 1,by lia,by lia,z⟩,fun x H3 y => ?_⟩
  obtain⟨sm3,rp⟩:=yl x H3 y
  have q3:=q2.same sm3
  refine⟨Hz G js A ρ2 σ H3,A,fO js ρ2,us[i],HA q3 ok,rp,?_⟩
  rw[e7]
  intro σ4 q4 o4
  refine⟨_,A,ρi,q4,?_⟩
  rw[e8]
  intro H5 q5 x5 s5
  dsimp only at e3
  cases c with
  |false =>
   rw[if_neg UG] at e3 ⊢
   obtain⟨q6,x6⟩:=q3.wb ok q5 o4
   exact⟨ex.trans ((ff.same sm3).trans x6),_,done,rest,q6,e3,e4,(rs.same sm3).re q3.mu x6 (fun b z=>.inl z),by lia⟩
  |true =>
   rw[if_pos rfl] at e3 ⊢
   obtain⟨⟨y1,ρy⟩,e9,e3⟩:=R.bind_ok e3
   obtain⟨⟨r,ρr⟩,e10,e3⟩:=R.bind_ok e3
   cases e3
   refine⟨_,A,ρc,q5,?_⟩
   rw[e9]
   intro v H6 q6 x6 s6 vm
   obtain⟨q7,x7⟩:=q3.wb ok q6 o4
   exact⟨ex.trans ((ff.same sm3).trans x7),_,done++[y1],r,q7,e10,by rw[UZ];exact e4,((rs.same sm3).re q3.mu x7 (fun b z=>.inl z)).append (aG.cons (vm.rp hn) aG.nil),by rw[UH];simp;lia⟩
 ·have e:i=us.length:=by lia
  subst e
  rw[XR] at e3
  cases e3
  rw[Vw] at e4
  subst e4
  refine .inl ⟨w2,fun a na => ?_⟩
  have sn:=cZ na (.lst ys)
  exact f _ _ (q2.same sn) ((x1.trans ex).trans (ff.same sn)) (fun z=>nomatch z) (zQ.e q2 sn ⟨a,rfl,na,cE q2.mu rs na (by lia)⟩)
structure zh (X:Cx)(G:Gm)(nQ:List WI)(b:Bool)(h:Ev→R (Bool×Ev)):Prop where
 un:y_ X nQ (zS X.K G b h)
noncomputable def du:Ev→R (Bool×Ev):=fun ρ=>.ok (true,ρ)
theorem bx:zh X G [] false du:=⟨fun pins s σ H Q I ⟨Z,A,ρ,q,f⟩=>Ar pins s σ H Q I (f H q ff.refl fun _=>⟨rfl,aM.refl _⟩)⟩
theorem AN {h:Ev→R (Bool×Ev)}(hc:DT X G e b1 h):zh X G [e] b1 h:=⟨As hc.un⟩
theorem iL (iZ:Zi)(NX N:List Str)(js:List (Option Nat))(hc:X.calm=true)(hi:DI X G tg iter b1 p gi)(qw:∀Y:nX,DG (dO X scope N Y) (nY G js) tg sg∧zh (dO X scope N Y) (nY G js) nQ false gt∧DE (dO X scope N Y) (nY G js) elt false me ge)(hn:me≠.P:=by decide)(ok:kH js=true:=by rfl)(i8:X.env.scope=iZ:=by rfl)(CQ:X.N=NX:=by rfl)(hS:oV iZ NX scope N js=true:=by decide +kernel)(hs:∀x,Wh iter X.env x=pure x:=by intro _;rfl):DE X G (.ListComp elt [⟨tg,iter,nQ,0⟩] scope pos) b1 .O (gy gi js sg gt ge):=⟨(Fe iZ NX N js hc hi.un (fun Y=>⟨(qw Y).1.un,(qw Y).2.1.un,(qw Y).2.2.un⟩) i8 CQ hS hs).to fun _ _ _=>uy ok hn⟩
theorem pF (iZ:Zi)(NX N:List Str)(js:List (Option Nat))(hc:X.calm=true)(hi:DI X G tg iter b1 false gi)(qw:∀Y:nX,DG (dO X scope N Y) (nY G js) tg sg∧zh (dO X scope N Y) (nY G js) nQ b2 gt∧DE (dO X scope N Y) (nY G js) elt b3 me ge)(hn:me≠.P:=by decide)(ok:kH js=true:=by rfl)(i8:X.env.scope=iZ:=by rfl)(CQ:X.N=NX:=by rfl)(hS:oV iZ NX scope N js=true:=by decide +kernel)(hs:∀x,Wh iter X.env x=pure x:=by intro _;rfl):DE X G (.ListComp elt [⟨tg,iter,nQ,0⟩] scope pos) true .O (pE G gi js sg gt ge):=⟨(Fe iZ NX N js hc hi.un (fun Y=>⟨(qw Y).1.un,(qw Y).2.1.un,(qw Y).2.2.un⟩) i8 CQ hS hs).to fun _ _ _=>uz ok hn⟩
variable {lM lP:Pos}
theorem iC (iZ:Zi)(NX N:List Str)(js:List (Option Nat))(hN:X.N.Nodup)(hc:X.calm=true)(hi:DI X G tg iter b1 p gi)(qw:∀Y:nX,DG (dO X scope N Y) (nY G js) tg sg∧zh (dO X scope N Y) (nY G js) nQ false gt∧DE (dO X scope N Y) (nY G js) elt false me ge)(hx:X.N[i]? = some x:=by rfl)(hl:zY X.env.scope x:=by first|exact Or.inl rfl|exact Or.inr rfl)(c:G.is i=false:=by rfl)(hn:me≠.P:=by decide)(ok:kH js=true:=by rfl)(i8:X.env.scope=iZ:=by rfl)(CQ:X.N=NX:=by rfl)(hS:oV iZ NX scope N js=true:=by decide +kernel)(hw:Yy (.ListComp elt [⟨tg,iter,nQ,0⟩] scope lP) (some (.Name x lM)) pos.line X.env=pure true:=by rfl)(hf:X.fn x=true∨X.env.scope.names.lookup x=some .local:=by first|exact .inl rfl|exact .inr rfl|assumption)(hs:∀x,Wh iter X.env x=pure x:=by intro _;rfl):DS X G m (.Assign [.Name x lM] (.ListComp elt [⟨tg,iter,nQ,0⟩] scope lP) pos) (bu i (gy gi js sg gt ge)):=⟨(uk iZ NX N js hN hx hl hc hi.un (fun Y=>⟨(qw Y).1.un,(qw Y).2.1.un,(qw Y).2.2.un⟩) i8 CQ hS hw hf hs).to fun _ _ _=>ph (b1:=b1) c (by decide) fun _ _ _=>uy ok hn⟩
theorem rl (iZ:Zi)(NX N:List Str)(js:List (Option Nat))(hN:X.N.Nodup)(hc:X.calm=true)(hi:DI X G tg iter b1 false gi)(qw:∀Y:nX,DG (dO X scope N Y) (nY G js) tg sg∧zh (dO X scope N Y) (nY G js) nQ b2 gt∧DE (dO X scope N Y) (nY G js) elt b3 me ge)(hx:X.N[i]? = some x:=by rfl)(hl:zY X.env.scope x:=by first|exact Or.inl rfl|exact Or.inr rfl)(c:G.is i=false:=by rfl)(hn:me≠.P:=by decide)(ok:kH js=true:=by rfl)(i8:X.env.scope=iZ:=by rfl)(CQ:X.N=NX:=by rfl)(hS:oV iZ NX scope N js=true:=by decide +kernel)(hw:Yy (.ListComp elt [⟨tg,iter,nQ,0⟩] scope lP) (some (.Name x lM)) pos.line X.env=pure true:=by rfl)(hf:X.fn x=true∨X.env.scope.names.lookup x=some .local:=by first|exact .inl rfl|exact .inr rfl|assumption)(hs:∀x,Wh iter X.env x=pure x:=by intro _;rfl):DS X G m (.Assign [.Name x lM] (.ListComp elt [⟨tg,iter,nQ,0⟩] scope lP) pos) (bu i (pE G gi js sg gt ge)):=⟨(uk iZ NX N js hN hx hl hc hi.un (fun Y=>⟨(qw Y).1.un,(qw Y).2.1.un,(qw Y).2.2.un⟩) i8 CQ hS hw hf hs).to fun _ _ _=>ph (b1:=true) c (by decide) fun _ _ _=>uz (b1:=b1) (b2:=b2) (b3:=b3) ok hn⟩
end
end L2
namespace L2
noncomputable def cG (n:Nat)(us:List U):Ev:=us.map some++VT (n - us.length) none
noncomputable def fZ (m:Md)(n:Nat)(s:Ev→SR):List U→R U:=fun us=>match s (cG n us) with
 | .rt u _=>.ok u
 | .nx _=>if m=.S then .ok .non else .stk
 | .exc c u=>.exc c u
 |_=>.stk
noncomputable def iD (n:Nat)(s:Ev→SR):List U→R (U×U):=fun us=>match s (cG n us) with
 | .rt u ρ=>match ρ[0]? with
  |some (some w)=>.ok (u,w)
  |_=>.stk
 | .nx ρ=>match ρ[0]? with
  |some (some w)=>.ok (.non,w)
  |_=>.stk
 | .exc c u=>.exc c u
 |_=>.stk
theorem kM (h:(cG n us)[i]? = some (some u)):us[i]? = some u:=by
 unfold cG at h
 by_cases c:i<(us.map some).length
 ·rw[VU c,U8] at h
  cases e:us[i]? with
  |none=>rw[e] at h;cases h
  |some w=>rw[e] at h;simp at h;rw[h]
 ·rw[VG (by lia),List.getElem?_replicate] at h
  split at h
  ·cases h
  ·cases h
theorem jz (h:vs[i]? = some v):(X2 N vs)[i]? = some (some v):=by
 unfold X2
 have c:i<(vs.map some).length:=by rw[Ux];exact (UJ.mp h).1
 rw[VU c,U8,h]
 rfl
theorem xv (h:us.length=vs.length):(cG N.length us).length=(X2 N vs).length:=by
 unfold cG X2
 rw[UH,UH,Ux,Ux,YA,YA,h]
section
variable {base:Xi}
theorem sP (G:Gm)(m:Md)(s:Ev→SR)(C8:G.io=false)(om:∀i,i<ps.length→G.is i=false)(gH:∀(f:UY) (bD:Uz) (A:VE) (outer:List Env) (s0:UQ) (H:Hp) (E:XK),fv k (A.deeper (Y8 x (ah st) s0.heap.objs.size f bD)) →
   zT (nV uj P w K mg base N x (ah st) f bD A outer s0 H E).nox G m (az st) s) :
  (∀vs H Q E,ud K ps.length (fZ m N.length s) m vs H Q E→vs.length=ps.length)∧∀(f:UY) (bD:Uz) (A:VE) (outer:List Env) (s0:UQ) (H:Hp) (vs:List V) (Q:VK) (E:XK),fv k (A.deeper (Y8 x (ah st) s0.heap.objs.size f bD))→ud K ps.length (fZ m N.length s) m vs H Q E →
   ∃t,sv (nV uj P w K mg base N x (ah st) f bD A outer s0 H E).nox (az st) t∧t {nx:=fun _ H'=>Q .non H',rt:=Q} (X2 N vs) H:=by
 have hl:∀(us:List U) (A:UY→Prop) (H:Hp) (Q:VK),J7 K m A H (wg ps.length (fZ m N.length s) us) Q→us.length=ps.length:=fun us A H Q h=>by
  unfold wg at h
  split at h
  ·assumption
  ·exact h.elim
 refine⟨fun vs H Q E ⟨us,A,r,_,h⟩=>by rw[←r.length];exact hl us A H Q h,fun f bD A outer s0 H vs Q E hr ⟨us,A0,r,mu,h⟩=>⟨_,(gH f bD A outer s0 H E hr).un,?_⟩⟩
 have l:=hl us A0 H Q h
 unfold wg at h
 rw[if_pos l] at h
 refine⟨⟨A0,H,0⟩,A0,cG N.length us,?_,?_⟩
 ·exact {
   slot:=fun i u hu=>by
    have hu:=kM hu
    obtain⟨v,h1,h2⟩:=r.get hu
    refine⟨v,jz h1,?_⟩
    rw[if_neg (by rw[om i (by rw[←l];exact (UJ.mp hu).1)];exact UG)]
    exact h2
   dis:=fun i j u w a ci cj ne hi hj si sj=>by
    rw[om i (by rw[←l];exact (UJ.mp (kM hi)).1)] at ci;cases ci
   mu:=mu
   sup:=fun a h=>h
   out:=fun a h=>.inl h
   bas:=fun a o h=>h
   io0:=fun h=>by rw[C8] at h;cases h
   len:=xv r.length}
 ·unfold fZ at h
  cases e:s (cG N.length us) with
  |nx ρ' =>
   rw[e] at h
   dsimp only at h
   intro A' σ' H' q
   split at h
   ·rename_i hm
    subst hm
    exact h _ H' q.bas (show Rp K H' A0 .non .non from pd)
   ·exact h.elim
  |rt u ρ' =>
   rw[e] at h
   intro A' σ' H' v q vm
   refine h v H' q.bas ?_
   cases m with
   |S=>exact vm
   |P=>exact vm.elim
   |O =>
    obtain⟨a,e1,e2,e3,e4⟩:=vm
    exact⟨a,e1,e2,e4⟩
  |bk=>rw[e] at h;exact h.elim
  |ct=>rw[e] at h;exact h.elim
  |exc=>rw[e] at h;exact h.elim
  |stk=>rw[e] at h;exact h.elim
theorem Df.fnD (G:Gm)(m:Md)(s:Ev→SR)(d:Df K mg x st)(S:bq N ps (ah st))(hb:∀(kV eR pm:Uz) (an:Option UY) (bD ct:Uz) (us:List Uz),us.length=ps.length→Wm (US x x (aD st) (az st) (ah st) .none kV eR pm an bD ct) ⟨us,[]⟩=pure (ps.zip us))(C8:G.io=false)(om:∀i,i<ps.length→G.is i=false)(gH:∀(f:UY) (bD:Uz) (A:VE) (outer:List Env) (s0:UQ) (H:Hp) (E:XK),fv k (A.deeper (Y8 x (ah st) s0.heap.objs.size f bD)) →
   zT (nV uj P w K mg base N x (ah st) f bD A outer s0 H E).nox G m (az st) s):Fn P w K mg base x (k+1) ps (ud K ps.length (fZ m N.length s) m) :=
 d.fn S hb (sP G m s C8 om gH).1 (sP G m s C8 om gH).2
theorem C2.okD (G:Gm)(m:Md)(s:Ev→SR)(F:C2 K x x st f fd)(S:bq N ps (ah st))(C8:G.io=false)(om:∀i,i<ps.length→G.is i=false)(gH:∀(f:UY) (bD:Uz) (A:VE) (outer:List Env) (s0:UQ) (H:Hp) (E:XK),fv k (A.deeper (Y8 x (ah st) s0.heap.objs.size f bD)) →
   zT (nV uj P w K mg base N x (ah st) f bD A outer s0 H E).nox G m (az st) s):jL P w K mg base uj (k+1) f fd ps (ud K ps.length (fZ m N.length s) m) :=
 F.ok S (sP G m s C8 om gH).1 ((sP G m s C8 om gH).2 f)
noncomputable def uA (K:UB):Sp:=fun vs H Q _=>∃(a:UY) (ns:List Int),vs=[.ref a]∧DQ K H a (ns.map V.int)∧ns.length≤63∧∀H',Q (.bl true) H'
theorem HB (hO:DL H)(h:fq K H a xs):DQ K H a xs:=by
 rcases h with (h|h)|h
 ·rcases hO a with z|⟨o,ys,z⟩
  ·rw[h] at z;cases z
  ·rw[h] at z;cases z
 ·exact .inl h
 ·exact .inr h
theorem uB {H:Hp}{A:UY→Prop}:∀(ns:List Int),aG K H A (ns.map .int) (ns.map V.int)
 | []=>aG.nil
 |n::ns=>aG.cons ez (uB ns)
theorem HC {f:List U→R U}{fa:UY}(F:jL P w K mg base uj k fa fd ["script"] (ud K 1 f .S))(h:∀ns:List Int,ns.length≤63→f [.scr (ns.map .int)]=.ok (.bl true)):jL P w K mg base uj k fa fd ["script"] (uA K):=by
 refine F.imp fun vs H Q E ⟨a,ns,e,sc,l,q⟩ => ?_
 subst e
 have hl:(ns.map U.int).length≤UA:=by rw[Ux];have:UA=16777216:=rfl;lia
 refine⟨[.scr (ns.map .int)],fun _=>False,aG.cons ?_ aG.nil,fun _ h=>h.elim,?_⟩
 ·unfold Rp
  exact⟨a,_,rfl,sc,hl,uB ns⟩
 ·have e:wg 1 f [.scr (ns.map .int)]=.ok (.bl true):=(if_pos rfl).trans (h ns l)
  rw[e]
  intro v H' sm vm
  have vm:Rp K H' (fun _=>False) (.bl true) v:=vm
  unfold Rp at vm
  subst vm
  exact q H'
theorem Df.fnI (G:Gm)(s:Ev→SR)(d:Df K mg x st)(S:bq N ps (ah st))(hb:∀(kV eR pm:Uz) (an:Option UY) (bD ct:Uz) (us:List Uz),us.length=ps.length→Wm (US x x (aD st) (az st) (ah st) .none kV eR pm an bD ct) ⟨us,[]⟩=pure (ps.zip us))(C8:G.io=true)(h0:G.is 0=true)(om:∀i,i<ps.length→i≠0→G.is i=false)(gH:∀(f:UY) (bD:Uz) (A:VE) (outer:List Env) (s0:UQ) (H:Hp) (E:XK),fv k (A.deeper (Y8 x (ah st) s0.heap.objs.size f bD)) →
   zT (nV uj P w K mg base N x (ah st) f bD A outer s0 H E).nox G .S (az st) s):Fn P w K mg base x (k+1) ps (lS K ps.length (iD N.length s)):=by
 refine d.fn S hb ?_ ?_
 ·rintro vs H Q E ⟨u0,us,a0,vs',A,rfl,_,_,r,_,h⟩
  unfold wg at h
  split at h
  ·rename_i e
   split at e
   ·rename_i l
    rw[UI,←r.length,←l];rfl
   ·cases e
  ·exact h.elim
 ·rintro f bD A outer s0 H vs Q E hr ⟨u0,us,a0,vs',A0,rfl,ha,t0,r,mu,h⟩
  refine⟨_,(gH f bD A outer s0 H E hr).un,?_⟩
  have l:(u0::us).length=ps.length:=by
   unfold wg at h
   by_cases c:(u0::us).length=ps.length
   ·exact c
   ·rw[if_neg c] at h;exact h.elim
  unfold wg at h
  rw[if_pos l] at h
  let Z:Pkg:=⟨A0,fun b=>if b=a0 then none else H b,a0⟩
  have zb:∀b o,b≠a0→H b=some o→Z.B b=some o:=fun b o nb z=>by
   show (if b=a0 then none else H b)=some o
   rw[if_neg nb];exact z
  have rel:dv K G Z A0 (cG N.length (u0::us)) (X2 N (.ref a0::vs')) H:={
   slot:=fun i u hu=>by
    have hu:=kM hu
    cases i with
    |zero =>
     simp at hu;subst hu
     refine⟨.ref a0,jz (by simp),?_⟩
     rw[if_pos h0]
     exact⟨a0,rfl,ha,by show (if a0=a0 then none else H a0)=none;rw[if_pos rfl],.inr ⟨C8,rfl⟩,t0⟩
    |succ i =>
     have hl:=(UJ.mp hu).1
     rw[VR] at hu
     obtain⟨v,h1,h2⟩:=r.get hu
     refine⟨v,jz (by rw[VR];exact h1),?_⟩
     rw[if_neg (by rw[om (i+1) (by rw[←l];exact hl) (by lia)];exact UG)]
     exact h2
   dis:=fun i j u w a ci cj ne hi hj si sj=>by
    have hi:=(UJ.mp (kM hi)).1
    have hj:=(UJ.mp (kM hj)).1
    by_cases e:i=0
    ·rw[om j (by rw[←l];exact hj) (by lia)] at cj;cases cj
    ·rw[om i (by rw[←l];exact hi) e] at ci;cases ci
   mu:=mu
   sup:=fun a h=>h
   out:=fun a h=>.inl h
   bas:=fun a o h=>by
    by_cases c:a=a0
    ·have h:(if a=a0 then none else H a)=some o:=h
     rw[if_pos c] at h;cases h
    ·have h:(if a=a0 then none else H a)=some o:=h
     rw[if_neg c] at h;exact h
   io0:=fun _=>⟨jz (vs:=.ref a0::vs') (i:=0) (v:=.ref a0) rfl,h0⟩
   len:=xv (by rw[UI,UI,r.length])}
  have fin:∀(A':UY→Prop) (ρ':Ev) (σ':St) (H':Hp) (w:U),dv K G Z A' ρ' σ' H'→ρ'[0]? = some (some w)→(∀b o,b≠a0→H b=some o→H' b=some o)∧jN K H' A0 w a0:=fun A' ρ' σ' H' w q hw=>by
   obtain⟨a,e1,e2,e3,e4,e5⟩:=q.own h0 hw
   rw[(q.io0 C8).1] at e1
   cases e1
   exact⟨fun b o nb z=>q.bas b o (zb b o nb z),e5.mono q.sup⟩
  refine⟨Z,A0,_,rel,?_⟩
  unfold iD at h
  cases e:s (cG N.length (u0::us)) with
  |nx ρ' =>
   rw[e] at h
   dsimp only at h
   intro A' σ' H' q
   split at h
   ·rename_i hm
    split at hm
    ·rename_i w hw
     cases hm
     obtain⟨z1,z2⟩:=fin A' ρ' σ' H' _ q hw
     exact h _ H' z1 z2 pd
    ·cases hm
   ·exact h.elim
  |rt u ρ' =>
   rw[e] at h
   dsimp only at h
   intro A' σ' H' v q vm
   split at h
   ·rename_i hm
    split at hm
    ·rename_i w hw
     cases hm
     obtain⟨z1,z2⟩:=fin A' ρ' σ' H' _ q hw
     exact h _ H' z1 z2 vm
    ·cases hm
   ·exact h.elim
  |bk=>rw[e] at h;exact h.elim
  |ct=>rw[e] at h;exact h.elim
  |exc=>rw[e] at h;exact h.elim
  |stk=>rw[e] at h;exact h.elim
end
section
variable {G:Gm}{e e2:WI}{p1:Pos}{y:Str}{b1 b2:Bool}{m m1 m2:Md}{g1 g2:Ev→R (U×Ev)}
noncomputable def xw (i:Nat)(gv gk:Ev→R (U×Ev)):Ev→SR:=fun ρ=>SR.of (gv ρ) fun x=>if live x.2 i=true then SR.of (gk x.2) fun y=>match y.1 with
 | .int k=>match y.2[i]? with
  |some (some (.lst us))=>match zP us.length k with
   |some j=>.nx (y.2.set i (some (.lst (us.set j x.1))))
   |none=>.stk
  |_=>.stk
 |_=>.stk
 else .stk
theorem xx (he:DE X G e b1 m1 g1)(hk:DE X G e2 b2 m2 g2)(hn:m1≠.P:=by decide)(hN:X.N[i]? = some y:=by rfl)(hv:Di X.env.scope y:=by first|exact Or.inl rfl|exact Or.inr (Or.inl rfl)|exact Or.inr (Or.inr rfl))(c:G.is i=true:=by rfl)(hd:(y==("__debug__":Str))=false:=by decide)(qv:(y==("__classdict__":Str))=false:=by decide)(ha:∀v,assign (.Subscript (.Name y p1) e2 p2) X.env v=(do
   let ov ←holding [v] (Yg (.Name y p1) X.env)
   let iv ←holding [v,ov] (Yg e2 X.env)
   standAt p2
   holding [v,ov,iv] (setItem ov iv v)
   release [v,ov,iv] []):=by intro _;rfl)(hs:swapsWithSole [.Subscript (.Name y p1) e2 p2] e pos.line X.env=pure false:=by rfl)(hw:swappedStores [.Subscript (.Name y p1) e2 p2] e X.env=pure none:=by rfl)(h1:(Xm [.Subscript (.Name y p1) e2 p2] X.env).map (·.2)=[assign (.Subscript (.Name y p1) e2 p2) X.env]:=by rfl):DS X G m (.Assign [.Subscript (.Name y p1) e2 p2] e pos) (xw i g1 g2):=⟨(G4 he.un (G3 (j0 hN hv hd qv) hk.un An ha) hs hw h1).to fun D σ H h00=>by
 obtain⟨Z,A,ρ,q,f⟩:=h00
 obtain⟨⟨u,ρ1⟩,e1,f⟩:=f.of
 refine⟨Z,A,ρ,q,?_⟩
 rw[e1]
 intro v H1 q1 x1 s1 vm
 dsimp only at f
 split at f
 ·rename_i hl
  obtain⟨u00,hu0⟩:=sJ hl
  obtain⟨a0,h0,_⟩:=q1.own c hu0
  obtain⟨⟨k,ρ2⟩,e2,f⟩:=f.of
  refine⟨.ref a0,h0,Z,A,ρ1,q1,?_⟩
  rw[e2]
  intro v2 H2 q2 x2 s2 vL
  dsimp only at f
  cases k with
  |int kk =>
   dsimp only at f
   split at f
   ·rename_i us hu
    split at f
    ·rename_i j hj
     obtain⟨a0',k1,k2,_,_,k5⟩:=q2.own c hu
     rw[h0] at k1;cases k1
     obtain⟨xs,t1,t2,t3⟩:=k5
     refine⟨a0,xs,kk,j,rfl,vL.pk.int,t1,by rw[←t3.length];exact hj,?_⟩
     have em:∀b o,b≠a0→H2 b=some o→eB H2 a0 (.lst (xs.set j v)) b=some o:=fun b o nb z=>by rw[bh nb];exact z
     have ex:ff A H2 (eB H2 a0 (.lst (xs.set j v))):=fun b o nb z=>em b o (fun y=>nb (y▸k2)) z
     refine f A σ _ (q2.put c hu h0 em ⟨xs.set j v,cC,by rw[Wo];exact t2,?_⟩)
     exact (t3.re q2.mu ex fun b z=>.inl z).set j (((vm.rp hn).re q1.mu x2 fun b z=>.inl z).re q2.mu ex fun b z=>.inl z)
    ·exact f.elim
   ·exact f.elim
  |_=>exact f.elim
 ·exact f.elim⟩
noncomputable def MX (i:Nat)(p:U→U→R U)(g:Ev→R (U×Ev)):Ev→SR:=fun ρ=>match ρ[i]? with
 |some (some u)=>SR.of (g ρ) fun y=>SR.of (p u y.1) fun z=>.nx (y.2.set i (some z))
 |_=>.stk
end
end L2
namespace L2
noncomputable def AO:R2:=fun x y H Q=>∃l b xs zs,x=.ref l∧y=.ref b∧H l=some (.lst xs)∧H b=some (.lst zs)∧xs.length+zs.length≤UA∧∀p,H p=none→Q (.ref p) (eB H p (.lst (xs++zs)))
theorem D5:jK X (Xq .Add) AO:=by
 intro pins s σ H x y v u Q I rx ry h
 obtain⟨l,b,xs,zs,rfl,rfl,hH,hB,hz,q⟩:=h
 cases rx
 cases ry
 obtain⟨z,ar,n,r,hl,e⟩:=I.lstM hH
 obtain⟨z2,its2,n2,r2,IW,e2⟩:=I.lstM hB
 refine PySem.P.add_list e e2 ?_ (by rw[UC,UC];lia)
 have ea:ar.toArray++its2.toArray=(ar++its2).toArray:=by simp
 rw[ea]
 exact⟨.ref _,_,I.lnew (t':=s.toks) (r.append r2) (by rw[UH];lia),rfl,q _ I.fresh⟩
noncomputable def b9:U→U→R U:=fun u w=>match u,w with
 | .int i,.int j=>.ok (.int (i+j))
 | .tup a,.tup b=>if a.length+b.length≤UA then .ok (.tup (a++b)) else .stk
 | .lst a,.lst b=>if a.length+b.length≤UA then .ok (.lst (a++b)) else .stk
 |_,_=>.stk
noncomputable def HD:U→U→R U:=fun u w=>match u,w with
 | .lst a,.lst b=>if a.length+b.length≤UA then .ok (.lst (a++b)) else .stk
 |_,_=>.stk
noncomputable def Ff:R2:=fun x y H Q=>(yU fun i j=>.int (i+j)) x y H Q∨AA x y H Q∨AO x y H Q
theorem bf:jK X (Xq .Add) Ff:=G9.or (AB.or D5)
theorem D6:gx K AO .O HD:=fun A H x y u w z Q hx hy mu e q=>by
 unfold HD at e
 split at e
 ·split at e
  ·rename_i hl
   cases e
   unfold Pk at hx hy
   obtain⟨a,xs,rfl,h1,l1,r1⟩:=hx
   obtain⟨b,ys,rfl,h2,l2,r2⟩:=hy
   exact⟨a,b,xs,ys,rfl,rfl,h1,h2,by rw[←r1.length,←r2.length];exact hl,fun p hp=>q _ _ (cZ hp _) ⟨p,rfl,hp,cE mu (r1.append r2) hp (by rw[UH];exact hl)⟩⟩
  ·cases e
 ·cases e
theorem bg:gx K Ff .S b9:=fun A H x y u w z Q hx hy mu e q=>by
 unfold b9 at e
 split at e
 ·cases e;exact .inl ⟨_,_,hx.int,hy.int,q _ H (aM.refl _) (show Rp K H A _ _ from ez)⟩
 ·split at e
  ·rename_i hl
   cases e
   unfold Pk at hx hy
   obtain⟨a,xs,rfl,h1,l1,r1⟩:=hx
   obtain⟨b,ys,rfl,h2,l2,r2⟩:=hy
   refine .inr (.inl ⟨a,b,xs,ys,rfl,rfl,h1,h2,by rw[←r1.length,←r2.length];exact hl,fun r H' sm hr=>q _ H' sm (show Rp K H' A _ _ from ?_)⟩)
   unfold Rp
   exact⟨r,_,rfl,hr,by rw[UH];exact hl,(r1.append r2).same sm⟩
  ·cases e
 ·refine .inr (.inr (D6 A H x y _ _ z Q hx hy mu (show HD (.lst _) (.lst _)=_ from e) fun v H' sm vm=>q v H' sm ?_))
  obtain⟨a,rfl,na,t⟩:=vm
  exact t.rp (fun b h=>.inl h) fun h=>by have:=mu a h;rw[na] at this;exact this
 ·cases e
noncomputable def pI (c:Int→Int→Bool)(f:Int→Int→Int):U→U→R U:=fun u w=>match u,w with
 | .int i,.int j=>if c i j=true then .ok (.int (f i j)) else .stk
 |_,_=>.stk
theorem xy {C:Int→Int→Prop}{c:Int→Int→Bool}{f:Int→Int→Int}(h:∀i j,c i j=true→C i j):gx K (rI C fun i j=>.int (f i j)) .S (pI c f):=fun A H x y u w z Q hx hy mu e q=>by
 unfold pI at e
 split at e
 ·rename_i i j
  split at e
  ·rename_i hc
   cases e
   exact⟨i,j,hx.int,hy.int,h i j hc,q _ H (aM.refl _) (show Rp K H A _ _ from ez)⟩
  ·cases e
 ·cases e
noncomputable def mf:U→U→R U:=fun u w=>match u,w with
 | .int i,.int j=>.ok (.int (i - j))
 |_,_=>.stk
theorem iM:gx K (yU fun i j=>.int (i - j)) .S mf:=fun A H x y u w z Q hx hy mu e q=>by
 unfold mf at e
 split at e
 ·cases e;exact⟨_,_,hx.int,hy.int,q _ H (aM.refl _) (show Rp K H A _ _ from ez)⟩
 ·cases e
noncomputable def kN (i j:Int):Bool:=(decide (-(2 ^ 64)<i)&&decide (i<2 ^ 64))||(decide (-(2 ^ 64)<j)&&decide (j<2 ^ 64))
noncomputable def jR:U→U→R U:=pI kN (·*·)
theorem gW:gx K (rI Dt fun i j=>.int (i*j)) .S jR:=xy fun i j h=>by
 unfold kN at h
 simp only[Bool.or_eq_true,Vu,decide_eq_true_eq] at h
 exact h
noncomputable def wo (_ j:Int):Bool:=decide (0<j)&&decide (j<18446744073709551616)
noncomputable def uC:U→U→R U:=pI wo (· / ·)
theorem pG:gx K (rI Aw fun i j=>.int (i / j)) .S uC:=xy fun i j h=>by
 unfold wo at h
 simp only[Vu,decide_eq_true_eq] at h
 exact h
noncomputable def uD:U→U→R U:=pI (fun _ j=>decide (0<j)) (· % ·)
theorem jA:gx K (rI (fun _ j=>0<j) fun i j=>.int (i % j)) .S uD:=xy fun i j h=>of_decide_eq_true h
noncomputable def D7 (i j:Int):Bool:=decide (0≤j)&&decide (j≤1000000)&&decide (i.natAbs<2 ^ 64)
noncomputable def D8:U→U→R U:=pI D7 fun i j=>i ^ j.toNat
theorem xA:gx K (rI JH fun i j=>.int (i ^ j.toNat)) .S D8:=xy fun i j h=>by
 unfold D7 at h
 simp only[Vu,decide_eq_true_eq] at h
 exact⟨h.1.1,h.1.2,h.2⟩
noncomputable def MY:U→R U:=fun u=>match u with
 | .int i=>.ok (.int (-i))
 |_=>.stk
noncomputable def pC (f:Int→Int→Bool):U→U→R U:=fun u w=>match u,w with
 | .int i,.int j=>.ok (.bl (f i j))
 |_,_=>.stk
theorem AQ {f:Int→Int→Bool}:gx K (yU fun i j=>.bl (f i j)) .S (pC f):=fun A H x y u w z Q hx hy mu e q=>by
 unfold pC at e
 split at e
 ·cases e;exact⟨_,_,hx.int,hy.int,q _ H (aM.refl _) (show Rp K H A _ _ from jd)⟩
 ·cases e
noncomputable def D9:U→U→R U:=pC fun i j=>decide (i<j)
noncomputable def Rk:U→U→R U:=pC fun i j=>decide (i≤j)
noncomputable def LN:U→U→R U:=pC fun i j=>decide (j<i)
noncomputable def MZ:U→U→R U:=pC fun i j=>decide (j≤i)
mutual
noncomputable def gO:U→Option D
 | .non=>some .non
 | .bl b=>some (.bl b)
 | .int i=>some (.int i)
 | .str x=>some (.str x)
 | .tup us=>(fx us).map .tup
 | .lst us=>(fx us).map .lst
 | .dct _ _=>none
 | .scr _=>none
noncomputable def fx:List U→Option (List D)
 | []=>some []
 |u::us=>(gO u).bind fun d=>(fx us).map fun ds=>d::ds
end
mutual
theorem wq {H:Hp}{A:UY→Prop}:∀{u:U} {v:V} {d:D},Rp K H A u v→gO u=some d→aN K H d v
 | .non,v,d,h,e=>by unfold gO at e;cases e;unfold Rp at h;unfold aN;exact h
 | .bl b,v,d,h,e=>by unfold gO at e;cases e;unfold Rp at h;unfold aN;exact h
 | .int b,v,d,h,e=>by unfold gO at e;cases e;unfold Rp at h;unfold aN;exact h
 | .str b,v,d,h,e=>by unfold gO at e;cases e;unfold Rp at h;unfold aN;exact h
 | .tup us,v,d,h,e=>by
  unfold gO at e
  cases e2:fx us with
  |none=>rw[e2] at e;cases e
  |some ds =>
   rw[e2] at e;cases e
   unfold Rp at h;unfold aN
   obtain⟨a,xs,r,q,l,z⟩:=h
   exact⟨a,xs,r,gT.of q,jB z e2⟩
 | .lst us,v,d,h,e=>by
  unfold gO at e
  cases e2:fx us with
  |none=>rw[e2] at e;cases e
  |some ds =>
   rw[e2] at e;cases e
   unfold Rp at h;unfold aN
   obtain⟨a,xs,r,_,q,l,z⟩:=h
   exact⟨a,xs,r,fq.of q,jB z e2⟩
 | .dct _ _,v,d,h,e=>by unfold gO at e;cases e
 | .scr _,v,d,h,e=>by unfold gO at e;cases e
theorem jB {H:Hp}{A:UY→Prop}:∀{us:List U} {vs:List V} {ds:List D},aG K H A us vs→fx us=some ds→ft K H ds vs
 | [],vs,ds,h,e=>by unfold fx at e;cases e;unfold aG at h;unfold ft;exact h
 |u::us,vs,ds,h,e=>by
  unfold fx at e
  cases e1:gO u with
  |none=>rw[e1] at e;cases e
  |some d =>
   cases e2:fx us with
   |none=>rw[e1,e2] at e;cases e
   |some ds' =>
    rw[e1,e2] at e;cases e
    unfold aG at h;unfold ft
    obtain⟨x,r,q,p,z⟩:=h
    exact⟨x,r,q,wq p e1,jB z e2⟩
end
theorem sQ {d:D}(h:Pk K H A u v)(e:gO u=some d):aN K H d v:=by
 cases u with
 |lst us =>
  unfold gO at e
  cases e2:fx us with
  |none=>rw[e2] at e;cases e
  |some ds =>
   rw[e2] at e;cases e
   unfold Pk at h;unfold aN
   obtain⟨a,xs,r,q,l,z⟩:=h
   exact⟨a,xs,r,fq.of q,jB z e2⟩
 |dct=>unfold gO at e;cases e
 |scr=>unfold gO at e;cases e
 |tup us=>exact wq (A:=A) (by unfold Pk at h;unfold Rp;exact h) e
 |_=>exact wq (A:=A) (by unfold Pk at h;unfold Rp;exact h) e
noncomputable def i5 (u w:U):R Bool:=match gO u,gO w with
 |some d,some d'=>if cm d≤30 then .ok (fE d d') else .stk
 |_,_=>.stk
noncomputable def zU (f:Bool→Bool):U→U→R U:=fun u w=>(i5 u w).bind fun b=>.ok (.bl (f b))
theorem j3 {f:Bool→Bool}:gx K (Hl K f) .S (zU f):=fun A H x y u w z Q hx hy mu e q=>by
 unfold zU i5 at e
 obtain⟨b,e1,e2⟩:=R.bind_ok e
 split at e1
 ·rename_i d d' h1 h2
  split at e1
  ·rename_i hd
   cases e1
   cases e2
   exact⟨d,d',sQ hx h1,sQ hy h2,hd,q _ H (aM.refl _) (show Rp K H A _ _ from jd)⟩
  ·cases e1
 ·cases e1
noncomputable def Fg:U→Bool
 | .non=>true
 |_=>false
noncomputable def M3 (f:Bool→Bool):U→U→R U:=fun u w=>match w with
 | .non=>.ok (.bl (f (Fg u)))
 |_=>.stk
noncomputable def M4 (f:Bool→Bool):U→U→R U:=fun u w=>match u,w with
 | .bl a,.bl b=>.ok (.bl (f (decide (a=b))))
 |_,_=>.stk
theorem wt {i:Int}{z:U}(r:aG K H A us xs)(e:jb us i=some z):∃v,jb xs i=some v∧Rp K H A z v:=by
 unfold jb at e ⊢
 rw[←r.length]
 cases h:zP us.length i with
 |none=>rw[h] at e;cases e
 |some j =>
  rw[h] at e
  obtain⟨v,h1,h2⟩:=r.get (show us[j]? = some z from e)
  exact⟨v,h1,h2⟩
noncomputable def fF:U→U→R U:=fun u w=>match u,w with
 | .lst us,.int i=>match jb us i with
  |some z=>.ok z
  |none=>.stk
 | .tup us,.int i=>match jb us i with
  |some z=>.ok z
  |none=>.stk
 | .scr us,.int i=>match jb us i with
  |some z=>.ok z
  |none=>.stk
 | .str x,.int i=>match jb x.cps.toList i with
  |some c=>if x.length≤UA then .ok (.str ⟨#[c]⟩) else .stk
  |none=>.stk
 |_,_=>.stk
theorem aR:gx K (P8 K) .S fF:=fun A H x y u w z Q hx hy mu e q=>by
 unfold fF at e
 split at e
 ·split at e
  ·rename_i z' hz
   cases e
   unfold Pk at hx
   obtain⟨a,xs,rfl,h1,l1,r1⟩:=hx
   obtain⟨v,h2,h3⟩:=wt r1 hz
   exact .inl ⟨a,xs,_,v,rfl,hy.int,fq.of h1,h2,q _ H (aM.refl _) h3⟩
  ·cases e
 ·split at e
  ·rename_i z' hz
   cases e
   unfold Pk at hx
   obtain⟨a,xs,rfl,h1,l1,r1⟩:=hx
   obtain⟨v,h2,h3⟩:=wt r1 hz
   exact .inr (.inl ⟨a,xs,_,v,rfl,hy.int,gT.of h1,h2,q _ H (aM.refl _) h3⟩)
  ·cases e
 ·split at e
  ·rename_i z' hz
   cases e
   unfold Pk at hx
   obtain⟨a,xs,rfl,h1,l1,r1⟩:=hx
   obtain⟨v,h2,h3⟩:=wt r1 hz
   exact .inl ⟨a,xs,_,v,rfl,hy.int,h1.sq,h2,q _ H (aM.refl _) h3⟩
  ·cases e
 ·split at e
  ·rename_i z' hz
   split at e
   ·rename_i hl
    cases e
    exact .inr (.inr ⟨_,_,z',hx.str,hy.int,hl,hz,q _ H (aM.refl _) (show Rp K H A _ _ from Hr)⟩)
   ·cases e
  ·cases e
 ·cases e
noncomputable def ic {α:Type}(xs:List α)(lo hi:Option Int):List α:=(xs.drop (HT.sIx xs.length 0 lo)).take (HT.sIx xs.length xs.length hi - HT.sIx xs.length 0 lo)
theorem jg {α:Type}(xs:List α)(lo hi:Option Int):(ic xs lo hi).length≤xs.length:=by
 unfold ic
 rw[U7,Vl]
 lia
theorem sR (r:aG K H A us xs)(lo hi:Option Int):aG K H A (ic us lo hi) (oT xs lo hi):=by
 unfold ic oT
 rw[←r.length]
 exact (r.drop _).take _
theorem cH:Al X (fun x lo hi H Q=>DJ X.K x lo hi H Q∨Az X.K x lo hi H Q):=DK.or DP
noncomputable def i6:U→Option Int→Option Int→R U:=fun u lo hi=>match u with
 | .lst us=>.ok (.lst (ic us lo hi))
 | .scr us=>.ok (.lst (ic us lo hi))
 | .tup us=>.ok (.tup (ic us lo hi))
 |_=>.stk
noncomputable def J_:U→Option Int→Option Int→R U:=fun u lo hi=>match u with
 | .lst us=>.ok (.lst (ic us lo hi))
 | .scr us=>.ok (.lst (ic us lo hi))
 |_=>.stk
theorem xB:AJ K (DJ K) .O J_:=fun A H x u lo hi z Q hx mu e q=>by
 unfold J_ at e
 split at e
 ·cases e
  unfold Pk at hx
  obtain⟨a,xs,rfl,h1,l1,r1⟩:=hx
  exact⟨a,xs,rfl,fq.of h1,fun p hp=>q _ _ (cZ hp _) ⟨p,rfl,hp,cE mu (sR r1 lo hi) hp (VC (jg _ _ _) l1)⟩⟩
 ·cases e
  unfold Pk at hx
  obtain⟨a,xs,rfl,h1,l1,r1⟩:=hx
  exact⟨a,xs,rfl,h1.sq,fun p hp=>q _ _ (cZ hp _) ⟨p,rfl,hp,cE mu (sR r1 lo hi) hp (VC (jg _ _ _) l1)⟩⟩
 ·cases e
theorem Fh (mu:∀a,A a→Mu (H a))(vm:zQ K .O A H H' u v):Rp K H' A u v:=by
 obtain⟨a,rfl,na,t⟩:=vm
 exact t.rp (fun b h=>.inl h) fun h=>by have:=mu a h;rw[na] at this;exact this
theorem eH:AJ K (fun x lo hi H Q=>DJ K x lo hi H Q∨Az K x lo hi H Q) .S i6:=fun A H x u lo hi z Q hx mu e q=>by
 unfold i6 at e
 split at e
 ·cases e;exact .inl (xB A H x _ lo hi _ Q hx mu rfl fun v H' sm vm=>q v H' sm (Fh mu vm))
 ·cases e;exact .inl (xB A H x _ lo hi _ Q hx mu rfl fun v H' sm vm=>q v H' sm (Fh mu vm))
 ·cases e
  unfold Pk at hx
  obtain⟨a,xs,rfl,h1,l1,r1⟩:=hx
  refine .inr ⟨a,xs,rfl,h1,fun r H' sm hr=>q _ H' sm (show Rp K H' A _ _ from ?_)⟩
  unfold Rp
  exact⟨r,_,rfl,hr,VC (jg _ _ _) l1,(sR r1 lo hi).same sm⟩
 ·cases e
end L2
namespace L2
section
theorem we.one (h:we K H A [u] vs):∃v,vs=[v]∧Pk K H A u v:=by
 unfold we at h
 obtain⟨x,r,rfl,p,q⟩:=h
 unfold we at q
 subst q
 exact⟨x,rfl,p⟩
theorem we.two {w:U}(h:we K H A [u,w] vs):∃v v',vs=[v,v']∧Pk K H A u v∧Pk K H A w v':=by
 unfold we at h
 obtain⟨x,r,rfl,p,q⟩:=h
 obtain⟨v,rfl,q'⟩:=we.one q
 exact⟨x,v,rfl,p,q'⟩
noncomputable def iE:List U→R U:=fun us=>match us with
 | [.lst xs]=>.ok (.int xs.length)
 | [.tup xs]=>.ok (.int xs.length)
 | [.scr xs]=>.ok (.int xs.length)
 | [.str x]=>if x.length≤UA then .ok (.int x.length) else .stk
 |_=>.stk
theorem eD:md K (fun xs H Q=>∃x n,xs=[x]∧JK K x H n∧Q (.int n) H) .S iE:=fun A H vs us z Q h mu e q=>by
 unfold iE at e
 split at e
 ·rename_i xs
  cases e
  obtain⟨v,rfl,p⟩:=h.one
  unfold Pk at p
  obtain⟨a,ys,rfl,h1,l1,r1⟩:=p
  exact⟨_,xs.length,rfl,.inl ⟨ys,fq.of h1,r1.length⟩,q _ H (aM.refl _) (show Rp K H A _ _ from ez)⟩
 ·rename_i xs
  cases e
  obtain⟨v,rfl,p⟩:=h.one
  unfold Pk at p
  obtain⟨a,ys,rfl,h1,l1,r1⟩:=p
  exact⟨_,xs.length,rfl,.inr ⟨ys,gT.of h1,r1.length⟩,q _ H (aM.refl _) (show Rp K H A _ _ from ez)⟩
 ·rename_i xs
  cases e
  obtain⟨v,rfl,p⟩:=h.one
  unfold Pk at p
  obtain⟨a,ys,rfl,h1,l1,r1⟩:=p
  exact⟨_,xs.length,rfl,.inl ⟨ys,h1.sq,r1.length⟩,q _ H (aM.refl _) (show Rp K H A _ _ from ez)⟩
 ·rename_i x
  split at e
  ·rename_i hl
   cases e
   obtain⟨v,rfl,p⟩:=h.one
   have:=p.str
   subst this
   exact⟨_,x.length,rfl,⟨hl,rfl⟩,q _ H (aM.refl _) (show Rp K H A _ _ from ez)⟩
  ·cases e
 ·cases e
noncomputable def Fi:List U→R U:=fun us=>match us with
 | [.lst xs]=>.ok (.lst xs)
 | [.tup xs]=>.ok (.lst xs)
 |_=>.stk
noncomputable def df:List U→R U:=fun us=>match us with
 | [.lst xs]=>.ok (.tup xs)
 | [.tup xs]=>.ok (.tup xs)
 |_=>.stk
theorem cz:md K (fun xs H Q=>∃p ys,xs=[.ref p]∧((fq K H p ys∧∀l,H l=none→Q (.ref l) (eB H l (.tup ys)))∨(gT K H p ys∧Q (.ref p) H))) .S df:=fun A H vs us z Q h mu e q=>by
 unfold df at e
 split at e
 ·rename_i xs
  cases e
  obtain⟨v,rfl,p⟩:=h.one
  unfold Pk at p
  obtain⟨a,ys,rfl,h1,l1,r1⟩:=p
  exact⟨a,ys,rfl,.inl ⟨fq.of h1,fun l hl=>q _ _ (cZ hl _) (ma r1 hl l1)⟩⟩
 ·rename_i xs
  cases e
  obtain⟨v,rfl,p⟩:=h.one
  have p':=p
  unfold Pk at p
  obtain⟨a,ys,rfl,h1,l1,r1⟩:=p
  refine⟨a,ys,rfl,.inr ⟨gT.of h1,q _ H (aM.refl _) (show Rp K H A _ _ from ?_)⟩⟩
  unfold Rp;unfold Pk at p';exact p'
 ·cases e
noncomputable def Rl:List U→R U:=fun us=>match us with
 | [.int i]=>.ok (.int (if i<0 then -i else i))
 |_=>.stk
noncomputable def uE:List U→R U:=fun us=>match us with
 | [.int i,.int j]=>.ok (.int (if j>i then j else i))
 |_=>.stk
theorem AR:md K (fun xs H Q=>∃i j,xs=[.int i,.int j]∧Q (.int (if j>i then j else i)) H) .S uE:=fun A H vs us z Q h mu e q=>by
 unfold uE at e
 split at e
 ·cases e
  obtain⟨v,w,rfl,p,p'⟩:=h.two
  exact⟨_,_,by rw[p.int,p'.int],q _ H (aM.refl _) (show Rp K H A _ _ from ez)⟩
 ·cases e
noncomputable def rm:List U→R U:=fun us=>match us with
 | [.int i,.int j]=>.ok (.int (if j<i then j else i))
 |_=>.stk
theorem uF:md K (fun xs H Q=>∃i j,xs=[.int i,.int j]∧Q (.int (if j<i then j else i)) H) .S rm:=fun A H vs us z Q h mu e q=>by
 unfold rm at e
 split at e
 ·cases e
  obtain⟨v,w,rfl,p,p'⟩:=h.two
  exact⟨_,_,by rw[p.int,p'.int],q _ H (aM.refl _) (show Rp K H A _ _ from ez)⟩
 ·cases e
noncomputable def AS:List U→R U:=fun us=>match us with
 | [.int i]=>.ok (.int i)
 | [.bl k]=>.ok (.int (if k then 1 else 0))
 |_=>.stk
theorem xC:md K (fun xs H Q=>(∃i,xs=[.int i]∧Q (.int i) H)∨∃k,xs=[.bl k]∧Q (.int (if k then 1 else 0)) H) .S AS:=fun A H vs us z Q h mu e q=>by
 unfold AS at e
 split at e
 ·cases e
  obtain⟨v,rfl,p⟩:=h.one
  exact .inl ⟨_,by rw[p.int],q _ H (aM.refl _) (show Rp K H A _ _ from ez)⟩
 ·cases e
  obtain⟨v,rfl,p⟩:=h.one
  exact .inr ⟨_,by rw[p.bl],q _ H (aM.refl _) (show Rp K H A _ _ from ez)⟩
 ·cases e
noncomputable def iF:List U→Option (List Int)
 | []=>some []
 | .int i::us=>(iF us).map (i::·)
 |_::_=>none
noncomputable def mj:List U→Option (List Bool)
 | []=>some []
 | .bl i::us=>(mj us).map (i::·)
 |_::_=>none
theorem kO:∀{us:List U} {ns:List Int},iF us=some ns→us=ns.map .int
 | [],ns,h=>by unfold iF at h;cases h;rfl
 |u::us,ns,h=>by
  cases u<;>unfold iF at h<;>try cases h
  rename_i i
  cases e:iF us with
  |none=>rw[e] at h;cases h
  |some ms=>rw[e] at h;cases h;rw[kO e];rfl
theorem uG:∀{us:List U} {ns:List Bool},mj us=some ns→us=ns.map .bl
 | [],ns,h=>by unfold mj at h;cases h;rfl
 |u::us,ns,h=>by
  cases u<;>unfold mj at h<;>try cases h
  rename_i i
  cases e:mj us with
  |none=>rw[e] at h;cases h
  |some ms=>rw[e] at h;cases h;rw[uG e];rfl
theorem aG.toI {H:Hp}{A:UY→Prop}:∀{ns:List Int} {vs:List V},aG K H A (ns.map .int) vs→vs=ns.map V.int
 | [],vs,h=>by rw[WW] at h;unfold aG at h;exact h
 |n::ns,vs,h=>by
  rw[UT] at h
  unfold aG at h
  obtain⟨x,r,rfl,p,q⟩:=h
  unfold Rp at p
  rw[p,aG.toI q];rfl
theorem aG.toB {H:Hp}{A:UY→Prop}:∀{ns:List Bool} {vs:List V},aG K H A (ns.map .bl) vs→vs=ns.map V.bl
 | [],vs,h=>by rw[WW] at h;unfold aG at h;exact h
 |n::ns,vs,h=>by
  rw[UT] at h
  unfold aG at h
  obtain⟨x,r,rfl,p,q⟩:=h
  unfold Rp at p
  rw[p,aG.toB q];rfl
theorem pH {H:Hp}{A:UY→Prop}:∀(ns:List Int),aG K H A (ns.map .int) (ns.map V.int)
 | []=>aG.nil
 |n::ns=>aG.cons ez (pH ns)
noncomputable def HF:List U→R U:=fun us=>match us with
 | [.lst xs]=>match mj xs with
  |some bs=>.ok (.bl (bs.all id))
  |none=>.stk
 |_=>.stk
theorem D_:md K (fun xs H Q=>∃(p:UY) (bs:List Bool),xs=[.ref p]∧fq K H p (bs.map V.bl)∧Q (.bl (bs.all id)) H) .S HF:=fun A H vs us z Q h mu e q=>by
 unfold HF at e
 split at e
 ·rename_i xs
  split at e
  ·rename_i bs hb
   cases e
   obtain⟨v,rfl,p⟩:=h.one
   unfold Pk at p
   obtain⟨a,ys,rfl,h1,l1,r1⟩:=p
   rw[uG hb] at r1
   rw[r1.toB] at h1
   exact⟨a,bs,rfl,fq.of h1,q _ H (aM.refl _) (show Rp K H A _ _ from jd)⟩
  ·cases e
 ·cases e
noncomputable def M5 (ks:List U):String:=match ks with
 | .tup _::_=>"script"
 |_=>"dict"
noncomputable def zj:U→String
 | .non=>"NoneType"
 | .bl _=>"bool"
 | .int _=>"int"
 | .str _=>"str"
 | .tup _=>"tuple"
 | .lst _=>"list"
 | .dct ks _=>M5 ks
 | .scr _=>"script"
theorem Fj (h:Pk K H A u v)(hs:zj u≠"script"):qD K H v (zj u):=by
 cases u<;>unfold Pk at h
 case scr=>exact absurd rfl hs
 case non=>subst h;exact .non
 case bl=>subst h;exact .bl _
 case int=>subst h;exact .int _
 case str=>subst h;exact .str _
 case tup=>obtain⟨a,xs,rfl,h1,_⟩:=h;exact .tup h1
 case lst =>
  obtain⟨a,xs,rfl,h1,_⟩:=h
  exact .lst h1
 case dct =>
  obtain⟨a,xs,rfl,h1,_⟩:=h
  rcases h1 with⟨k,h1,e,_⟩|⟨k,n,h1,e,_⟩
  ·have:M5 (k.map fun p=>kU p.1)="dict":=by
    cases k with
    |nil=>rfl
    |cons p k =>
     obtain⟨p1,p2⟩:=p
     cases p1<;>rfl
   show qD K H _ (M5 _)
   rw[e,this]
   exact .dK h1
  ·refine absurd e fun e => ?_
   cases k with
   |nil=>exact n rfl
   |cons p k=>rw[e] at hs;exact hs rfl
variable {G:Gm}{e:WI}{p1:Pos}{b1:Bool}{m1:Md}{g1:Ev→R (U×Ev)}
noncomputable def mT (T:String)(g:Ev→R (U×Ev)):Ev→R (U×Ev):=fun ρ=>(g ρ).bind fun x=>if zj x.1="script" then .stk else .ok (.bl (fc (zj x.1) T),x.2)
theorem jC {T:String}(hT:T∈["bool","int","str","list","tuple","dict"])(he:DE X G e b1 m1 g1)(zi:X.mg "isinstance"=none)(zt:X.mg x=none)(bt:Vs x=some (.type T))(hg:Gl X "isinstance":=by rfl)(ht:Gl X x:=by rfl)(hn:x≠"__name__":=by decide)(hd:(x==("__debug__":Str))=false:=by decide)(hs:UX [e,.Name x p2] X.env=(false,Yg e X.env)::UX [.Name x p2] X.env:=by rfl)(bE:UX [.Name x p2] X.env=(false,Yg (.Name x p2) X.env)::UX [] X.env:=by rfl)(kv:(XF pos (UX [.Name x p2] X.env)).any (·.1)=false:=by rfl) :
  DE X G (.Call (.Name "isinstance" p1) [e,.Name x p2] [] pos) b1 .S (mT T g1):=⟨(kz (uq (m:=T) hT) hg zi jP (fg he.un (fg (sC (v:=.ty T) ht zt bt rfl hn hd) j2 bE) hs) (by decide) (by decide) hs kv).to fun σ H Q h=>by
 obtain⟨Z,A,ρ,q,f⟩:=h
 obtain⟨⟨u,ρ1⟩,e1,f⟩:=f.bind
 refine⟨Z,A,ρ,q,?_⟩
 rw[e1]
 intro v H1 q1 x1 s1 vm
 dsimp only at f
 split at f
 ·exact f.elim
 ·rename_i hn
  exact⟨v,_,rfl,Fj vm.pk hn,f _ H1 q1 x1 s1 (uc.ofS jd)⟩⟩
noncomputable def uH (i j:Int):Bool:=decide (-1000000≤i)&&decide (i≤1000000)&&decide (-1000000≤j)&&decide (j≤1000000)
noncomputable def AU (g:Ev→R (List U×Ev)):Ev→R (U×Ev):=fun ρ=>(g ρ).bind fun x=>match x.1 with
 | [.int j]=>if uH 0 j=true then .ok (.lst (aE 0 (j - 0).toNat),x.2) else .stk
 |_=>.stk
noncomputable def AV (g:Ev→R (List U×Ev)):Ev→R (U×Ev):=fun ρ=>(g ρ).bind fun x=>match x.1 with
 | [.int j]=>if uH 0 j=true then .ok (.tup (aE 0 (j - 0).toNat),x.2) else .stk
 |_=>.stk
theorem rn (lo:Int)(n:Nat):aG K H A (aE lo n) ((Vc n).map fun i=>V.int (lo+(i:Nat))):=by
 unfold aE
 have e1:(Vc n).map (fun i=>U.int (lo+(i:Nat)))=((Vc n).map fun i=>lo+(i:Nat)).map U.int:=by rw[VL];rfl
 have e2:(Vc n).map (fun i=>V.int (lo+(i:Nat)))=((Vc n).map fun i=>lo+(i:Nat)).map V.int:=by rw[VL];rfl
 rw[e1,e2]
 exact pH _
theorem aY (lo:Int)(n:Nat):(aE lo n).length=n:=by unfold aE;rw[Ux,Vx]
variable {ga:Ev→R (List U×Ev)}{a:WI}{p3 p4:Pos}
theorem Ea (hc:X.calm=true)(ha:DA X G [a] b1 false ga)(zl:X.mg "list"=none)(zr:X.mg "range"=none)(hg:Gl X "list":=by rfl)(Le:Gl X "range":=by rfl)
  (hs:UX [.Call (.Name "range" p3) [a] [] p4] X.env=(false,Yg (.Call (.Name "range" p3) [a] [] p4) X.env)::UX [] X.env:=by rfl) (bE:UX [a] X.env=(false,Yg a X.env)::UX [] X.env:=by rfl)
  (kv:(XF pos (UX [] X.env)).any (·.1)=false:=by rfl) (CT:(XF p4 (UX [] X.env)).any (·.1)=false:=by rfl):DE X G (.Call (.Name "list" p1) [.Call (.Name "range" p3) [a] [] p4] [] pos) b1 .O (AU ga):=⟨(gu (qE hc) hg zl ou (fg (gu mS Le zr ur ha.un (by decide) (by decide) bE CT) j2 hs) (by decide) (by decide) hs kv).to fun σ H Q h=>by
 obtain⟨Z,A,ρ,q,f⟩:=h
 obtain⟨⟨us,ρ1⟩,e1,f⟩:=f.bind
 refine⟨Z,A,ρ,q,?_⟩
 rw[e1]
 intro vs H1 q1 x1 s1 vm
 dsimp only at f
 split at f
 ·rename_i j
  split at f
  ·rename_i hj
   have r:=vm.rps
   unfold aG at r
   obtain⟨v,vr,rfl,r1,r2⟩:=r
   unfold aG at r2
   subst r2
   unfold Rp at r1
   subst r1
   unfold uH at hj
   simp only[Vu,decide_eq_true_eq] at hj
   refine⟨j,rfl,fun p hp=>⟨p,0,j,rfl,cC,by lia,by lia,fun l hl => ?_⟩⟩
   have sp:=cZ hp (.rng 0 j)
   have sl:=cZ hl (.lst ((Vc (j - 0).toNat).map fun i=>V.int (0+(i:Nat))))
   exact f _ _ ((q1.same sp).same sl) (x1.trans (ff.same (sp.trans sl))) (lZ s1 (sp.trans sl)) (zQ.e (q1.same sp) sl ⟨l,rfl,hl,cE (q1.same sp).mu (rn 0 _) hl (by rw[aY];have:UA=16777216:=rfl;lia)⟩)
  ·exact f.elim
 ·exact f.elim⟩
theorem Eb (hc:X.calm=true)(ha:DA X G [a] b1 false ga)(zl:X.mg "tuple"=none)(zr:X.mg "range"=none)(hg:Gl X "tuple":=by rfl)(Le:Gl X "range":=by rfl)
  (hs:UX [.Call (.Name "range" p3) [a] [] p4] X.env=(false,Yg (.Call (.Name "range" p3) [a] [] p4) X.env)::UX [] X.env:=by rfl) (bE:UX [a] X.env=(false,Yg a X.env)::UX [] X.env:=by rfl)
  (kv:(XF pos (UX [] X.env)).any (·.1)=false:=by rfl) (CT:(XF p4 (UX [] X.env)).any (·.1)=false:=by rfl):DE X G (.Call (.Name "tuple" p1) [.Call (.Name "range" p3) [a] [] p4] [] pos) b1 .S (AV ga):=⟨(gu (o_ hc) hg zl bZ (fg (gu mS Le zr ur ha.un (by decide) (by decide) bE CT) j2 hs) (by decide) (by decide) hs kv).to fun σ H Q h=>by
 obtain⟨Z,A,ρ,q,f⟩:=h
 obtain⟨⟨us,ρ1⟩,e1,f⟩:=f.bind
 refine⟨Z,A,ρ,q,?_⟩
 rw[e1]
 intro vs H1 q1 x1 s1 vm
 dsimp only at f
 split at f
 ·rename_i j
  split at f
  ·rename_i hj
   have r:=vm.rps
   unfold aG at r
   obtain⟨v,vr,rfl,r1,r2⟩:=r
   unfold aG at r2
   subst r2
   unfold Rp at r1
   subst r1
   unfold uH at hj
   simp only[Vu,decide_eq_true_eq] at hj
   refine⟨j,rfl,fun p hp=>⟨p,0,j,rfl,cC,by lia,by lia,fun l hl => ?_⟩⟩
   have sp:=cZ hp (.rng 0 j)
   have sl:=cZ hl (.tup ((Vc (j - 0).toNat).map fun i=>V.int (0+(i:Nat))))
   exact f _ _ ((q1.same sp).same sl) (x1.trans (ff.same (sp.trans sl))) (lZ s1 (sp.trans sl)) (uc.ofS (ma (rn 0 _) hl (by rw[aY];have:UA=16777216:=rfl;lia)))
  ·exact f.elim
 ·exact f.elim⟩
noncomputable def kP:U→List U→R (U×U):=fun u us=>match u,us with
 | .lst xs,[y]=>if xs.length<UA then .ok (.non,.lst (xs++[y])) else .stk
 |_,_=>.stk
theorem mm {a:UY}(o:HO):∀b u,b≠a→H b=some u→eB H a o b=some u:=fun b u nb z=>by rw[bh nb];exact z
theorem oy {a:UY}(mu:∀a,A a→Mu (H a))(ha:A a)(r:aG K H A us xs)(l:us.length≤UA):jN K (eB H a (.lst xs)) A (.lst us) a :=
 ⟨xs,cC,l,r.re mu (fun b o nb z=>mm _ b o (fun y=>nb (y▸ha)) z) fun b z=>.inl z⟩
theorem wu:AH K "list" xn kP:=fun A H a u vs us z w Q t ha r mu e q=>by
 unfold kP at e
 split at e
 ·rename_i xs y
  split at e
  ·rename_i hl
   cases e
   obtain⟨ys,h1,l1,r1⟩:=t
   unfold aG at r
   obtain⟨v,vr,rfl,p,r2⟩:=r
   unfold aG at r2
   subst r2
   exact⟨a,ys,v,rfl,rfl,h1,by rw[←r1.length];exact hl,q _ _ (mm _) (oy mu ha (r1.append (aG.cons p aG.nil)) (by rw[UH];exact hl)) pd⟩
  ·cases e
 ·cases e
noncomputable def uI:V→List V→Hp→VK→Prop:=fun x vs H Q=>∃l b xs zs,x=.ref l∧vs=[.ref b]∧H l=some (.lst xs)∧H b=some (.lst zs)∧xs.length+zs.length≤UA∧Q .non (eB H l (.lst (xs++zs)))
theorem wx:Fd X "list.extend" uI:=by
 intro pins s σ H x vs v us Q I rx rv h
 obtain⟨l,b,xs,zs,rfl,rfl,hH,hB,hz,q⟩:=h
 cases rx
 obtain⟨u,rfl,ru⟩:=rv.one
 cases ru
 obtain⟨z,ar,n,r,hl,e⟩:=I.lstM hH
 obtain⟨z2,its2,n2,r2,IW,e2⟩:=I.lstM hB
 have hsz:ar.toArray.size+its2.toArray.size≤UA:=by rw[UC,UC];lia
 have CS:¬(!ar.toArray.isEmpty&&Xf (ar.toArray.size+its2.toArray.size))=true:=by
  rw[oU hsz,Yt]
  exact UG
 refine Zn F.slot_list_extend ⟨_,e,rfl⟩ F.entry_list_extend (F.args_list_extend_2 _ _)
  (PySem.AutoSeq1.list_extend_list_list_0 l ar.toArray n b its2.toArray n2 CS (by rw[UC];lia) (by lia)) ⟨e,e2,?_⟩
 refine⟨.non,_,I.lset (its':=ar++its2) hH e (by simp) (r.append r2) ?_,rfl,q⟩
 rw[UH]
 lia
noncomputable def Fl:V→List V→Hp→VK→Prop:=fun x vs H Q=>uI x vs H Q∨uu x vs H Q
theorem xD:Fd X "list.extend" Fl:=wx.or wc
noncomputable def gj:U→List U→R (U×U):=fun u us=>match u,us with
 | .lst xs,[.lst ys]=>if xs.length+ys.length≤UA then .ok (.non,.lst (xs++ys)) else .stk
 | .lst xs,[.tup ys]=>if xs.length+ys.length≤UA then .ok (.non,.lst (xs++ys)) else .stk
 |_,_=>.stk
theorem pJ:AH K "list" Fl gj:=fun A H a u vs us z w Q t ha r mu e q=>by
 unfold gj at e
 split at e
 ·rename_i xs ys
  split at e
  ·rename_i hl
   cases e
   obtain⟨zs,h1,l1,r1⟩:=t
   unfold aG at r
   obtain⟨v,vr,rfl,p,r2⟩:=r
   unfold aG at r2
   subst r2
   unfold Rp at p
   obtain⟨b,ws,rfl,nb,h2,l2,r3⟩:=p
   exact .inl ⟨a,b,zs,ws,rfl,rfl,h1,h2,by rw[←r1.length,←r3.length];exact hl,q _ _ (mm _) (oy mu ha (r1.append r3) (by rw[UH];exact hl)) pd⟩
  ·cases e
 ·rename_i xs ys
  split at e
  ·rename_i hl
   cases e
   obtain⟨zs,h1,l1,r1⟩:=t
   unfold aG at r
   obtain⟨v,vr,rfl,p,r2⟩:=r
   unfold aG at r2
   subst r2
   unfold Rp at p
   obtain⟨b,ws,rfl,h2,l2,r3⟩:=p
   exact .inr ⟨a,b,zs,ws,rfl,rfl,h1,h2,by rw[←r1.length,←r3.length];exact hl,q _ _ (mm _) (oy mu ha (r1.append r3) (by rw[UH];exact hl)) pd⟩
  ·cases e
 ·cases e
noncomputable def mn:U→List U→R (U×U):=fun u us=>match u,us with
 | .lst xs,[.int i]=>if -9223372036854775808≤i∧i<9223372036854775808 then (match Zm i xs.length with
  |some k=>match xs[k]? with
   |some y=>.ok (y,.lst (xs.eraseIdx k))
   |none=>.stk
  |none=>.stk) else .stk
 |_,_=>.stk
theorem aG.erase {H:Hp}{A:UY→Prop}:∀{us:List U} {vs:List V} (n:Nat),aG K H A us vs→aG K H A (us.eraseIdx n) (vs.eraseIdx n)
 | [],vs,n,h=>by unfold aG at h;subst h;exact aG.nil
 |u::us,vs,0,h=>by
  unfold aG at h
  obtain⟨x,r,rfl,p,q⟩:=h
  exact q
 |u::us,vs,n+1,h=>by
  unfold aG at h
  obtain⟨x,r,rfl,p,q⟩:=h
  exact aG.cons p (aG.erase n q)
theorem zk:AH K "list" Ao mn:=fun A H a u vs us z w Q t ha r mu e q=>by
 unfold mn at e
 split at e
 ·rename_i xs i
  split at e
  ·rename_i hi
   split at e
   ·rename_i k hk
    split at e
    ·rename_i y hy
     cases e
     obtain⟨zs,h1,l1,r1⟩:=t
     unfold aG at r
     obtain⟨v,vr,rfl,p,r2⟩:=r
     unfold aG at r2
     subst r2
     unfold Rp at p
     subst p
     obtain⟨v,h2,h3⟩:=r1.get hy
     exact⟨a,zs,i,k,v,rfl,rfl,h1,by have:=hi.1;lia,by have:=hi.2;lia,by rw[←r1.length];exact hk,h2,q _ _ (mm _) (oy mu ha (r1.erase k) (VC (List.length_eraseIdx_le _ _) l1)) (h3.re mu (fun b o nb z=>mm _ b o (fun y=>nb (y▸ha)) z) fun b z=>.inl z)⟩
    ·cases e
   ·cases e
  ·cases e
 ·cases e
end
end L2
namespace L2
section
variable {G:Gm}{m:Md}
theorem j4:gx K (yU fun i j=>.bl (decide (i<j))) .S D9:=AQ
theorem AW:gx K (yU fun i j=>.bl (decide (j<i))) .S LN:=AQ
theorem HG:gx K (yU fun i j=>.bl (decide (j≤i))) .S MZ:=AQ
theorem gX {QB:List Stmt}:zT X G m QB (fun _=>.stk):=⟨fun pins s σ H D I h=>by
 obtain⟨Z,A,ρ,q,f⟩:=h
 exact f.elim⟩
noncomputable def Rm:Ev→R (U×Ev):=fun ρ=>.ok (.dct [] [],ρ)
end
end L2
namespace Hc.Sx
open PySem.SetTable
noncomputable def gf:Nat→Nat
 |0=>0
 |n+1=>5*gf n+1
theorem xE (n:Nat):5 ^ n=4*gf n+1:=by
 induction n with
 |zero=>rfl
 |succ n ih=>rw[WG,ih];show _=4*(5*gf n+1)+1;lia
theorem Ec (m n:Nat):gf (m+n)=5 ^ n*gf m+gf n:=by
 induction n with
 |zero=>simp[gf]
 |succ n ih =>
  show 5*gf (m+n)+1=5 ^ (n+1)*gf m+(5*gf n+1)
  rw[ih,WG,WH (5 ^ n) 5,Nat.mul_add,Wq]
  lia
theorem Ed (n:Nat):gf n % 2=n % 2:=by
 induction n with
 |zero=>rfl
 |succ n ih=>unfold gf;lia
theorem Ee (d:Nat):gf (d+d)=gf d*(2*(2*gf d+1)):=by
 rw[Ec,xE]
 have:gf d*(2*(2*gf d+1))=4*(gf d*gf d)+2*gf d:=by
  rw[←Wq,Nat.mul_add,WH (gf d) 2,Nat.mul_one]
  have:2*gf d*(2*gf d)=4*(gf d*gf d):=by
   rw[Wq,Yn (gf d) 2,←Wq]
  rw[this]
 rw[this,Nat.add_mul,Wq]
 lia
theorem Qa (k q:Nat):Nat.Coprime (2 ^ k) (2*q+1):=by
 refine Nat.Coprime.pow_left k ?_
 unfold Nat.Coprime
 rw[Nat.gcd_rec,show (2*q+1) % 2=1 by lia]
 rfl
theorem xF:∀(k d:Nat),2 ^ k ∣ gf d→2 ^ k ∣ d
 |0,d,_=>⟨d,by simp⟩
 |k+1,d,h=>by
  have e:d % 2=0:=by
   rw[←Ed]
   obtain⟨c,hc⟩:=h
   rw[hc,WG,Wq,Yn]
   lia
  obtain⟨d',rfl⟩:∃d',d=d'+d':=⟨d / 2,by lia⟩
  rw[Ee,WG,WH (2 ^ k) 2,Yn (gf d') 2] at h
  have h1:2 ^ k ∣ gf d'*(2*gf d'+1):=Nat.dvd_of_mul_dvd_mul_left (by decide) h
  have h2:2 ^ k ∣ gf d':=Ye (Qa k _) h1
  obtain⟨c,hc⟩:=xF k d' h2
  exact⟨c,by rw[WG,Wq,Yn,←hc];lia⟩
noncomputable def qF (M x:Nat):Nat→Nat
 |0=>x
 |n+1=>(qF M x n*5+1) % M
theorem xG (M x:Nat):∀n,qF M x n % M=(5 ^ n*x+gf n) % M
 |0=>by simp[qF,gf]
 |n+1=>by
  unfold qF gf
  rw[Nat.mod_mod,WG,WH (5 ^ n) 5,Wq]
  have:=xG M x n
  rw[Nat.add_mod,Nat.mul_mod,this,←Nat.mul_mod,←Nat.add_mod]
  congr 1
  rw[WH _ 5,Nat.mul_add]
  lia
theorem sS (M x m:Nat):∀n,qF M x (m+n)=qF M (qF M x m) n
 |0=>rfl
 |n+1=>by
  show (qF M x (m+n)*5+1) % M=_
  rw[sS M x m n];rfl
theorem AX {M x:Nat}(h:x<M):∀n,qF M x n<M
 |0=>h
 |n+1=>XD _ (by lia)
theorem AY {x:Nat}(hx:x<2 ^ k)(h:qF (2 ^ k) x d=x):2 ^ k ∣ d:=by
 have e:=xG (2 ^ k) x d
 rw[h,xE,Nat.add_mul,Nat.one_mul] at e
 have h2:2 ^ k ∣ gf d*(2*(2*x)+1):=by
  have:gf d*(2*(2*x)+1)=4*gf d*x+gf d:=by
   rw[Nat.mul_add,Nat.mul_one,←Wq,←Wq,Wq (gf d) 2 2,WH (gf d)]
  rw[this]
  have e2:(x+(4*gf d*x+gf d)) % 2 ^ k=x % 2 ^ k:=by rw[e];congr 1;lia
  have e3:((4*gf d*x+gf d)) % 2 ^ k=0:=by
   have:=(Nat.mod_eq_mod_iff (x:=x+(4*gf d*x+gf d)) (y:=x) (z:=2 ^ k)).mp e2
   obtain⟨a,b,vN⟩:=this
   have:4*gf d*x+gf d+2 ^ k*a=2 ^ k*b:=by rw[WH _ a,WH _ b];lia
   have h3:2 ^ k ∣ 4*gf d*x+gf d:=(Nat.dvd_add_right (Nat.dvd_mul_right (2 ^ k) a)).mp (by rw[Nat.add_comm,this];exact Nat.dvd_mul_right _ _)
   exact Nat.mod_eq_zero_of_dvd h3
  exact Nat.dvd_of_mod_eq_zero e3
 exact xF k d (Ye (Qa k _) h2)
theorem Ef {x a b:Nat}(hx:x<2 ^ k)(ha:a<2 ^ k)(hb:b<2 ^ k)(h:qF (2 ^ k) x a=qF (2 ^ k) x b):a=b:=by
 have key:∀a b,a≤b→b<2 ^ k→qF (2 ^ k) x a=qF (2 ^ k) x b→a=b:=fun a b vN hb h=>by
  obtain⟨d,rfl⟩:∃d,b=a+d:=⟨b - a,by lia⟩
  rw[sS] at h
  have:=AY (AX hx a) h.symm
  have:d=0:=Nat.eq_zero_of_dvd_of_lt this (by lia)
  lia
 rcases Nat.le_total a b with z|z
 ·exact key a b z hb h
 ·exact (key b a z ha h.symm).symm
theorem Eg {x y:Nat}(hx:x<2 ^ k)(hy:y<2 ^ k):∃n,n<2 ^ k∧qF (2 ^ k) x n=y:=by
 refine XN fun hn => ?_
 have nd:((Vc (2 ^ k)).map (qF (2 ^ k) x)).Nodup:=by
  unfold List.Nodup
  rw[WJ]
  refine Xg (fun {a b} ha hb vN e => ?_) YE
  exact vN (Ef hx (Vz.mp ha) (Vz.mp hb) e)
 have:=Xj (l₁:=y::(Vc (2 ^ k)).map (qF (2 ^ k) x)) (l₂:=Vc (2 ^ k))
  (WL.mpr ⟨fun h=>by
   obtain⟨n,h1,h2⟩:=Vg.mp h
   exact hn ⟨n,Vz.mp h1,h2⟩,nd⟩)
  (fun z hz=>by
   rcases UU.mp hz with e|hz
   ·rw[e];exact Vz.mpr hy
   ·obtain⟨n,_,rfl⟩:=Vg.mp hz
    exact Vz.mpr (AX hx n))
 rw[UI,Ux,Vx] at this
 lia
noncomputable def fh (mask:Nat):Nat→Nat×Nat→Nat×Nat
 |0,p=>p
 |n+1,p=>fh mask n (leap mask p.1 p.2)
theorem rq (mask m n:Nat)(p:Nat×Nat):fh mask (m+n) p=fh mask n (fh mask m p):=by
 induction m generalizing p with
 |zero=>rw[WZ];rfl
 |succ m ih=>rw[Nat.succ_add];exact ih _
theorem rz (mask:Nat):∀(n i q:Nat),(fh mask n (i,q)).2=q / 32 ^ n
 |0,i,q=>by simp[fh]
 |n+1,i,q=>by
  show (fh mask n (leap mask i q)).2=_
  unfold leap
  rw[rz,Nat.div_div_eq_div_mul,WG,WH 32]
theorem uJ (mask:Nat):∀(n i q:Nat),i≤mask→(fh mask n (i,q)).1≤mask
 |0,i,q,h=>h
 |n+1,i,q,h=>uJ mask n _ _ (WK (XD _ (Xv _)))
theorem pK (mask:Nat):∀(n i:Nat),fh mask n (i,0)=(qF (mask+1) i n,0)
 |0,i=>rfl
 |n+1,i=>by
  rw[Nat.add_comm n 1,rq]
  show fh mask n (leap mask i 0)=_
  rw[show leap mask i 0=(qF (mask+1) i 1,0) by unfold leap qF qF;simp,pK,sS]
theorem rA (hm:mask+1=2 ^ k){q y:Nat}(hi:i≤mask)(hq:q<2 ^ 64)(hy:y≤mask):∃n,n<mask+14∧(fh mask n (i,q)).1=y:=by
 have z:(fh mask 13 (i,q)).2=0:=by
  rw[rz]
  exact Nat.div_eq_of_lt (Nat.lt_trans hq (by decide))
 have e:fh mask 13 (i,q)=((fh mask 13 (i,q)).1,0):=by rw[←z]
 obtain⟨n,h1,h2⟩:=Eg (k:=k) (x:=(fh mask 13 (i,q)).1) (y:=y) (by rw[←hm];exact Nat.lt_succ_of_le (uJ mask 13 i q hi)) (by lia)
 refine⟨13+n,by lia,?_⟩
 rw[rq,e,pK,hm]
 exact h2
end Hc.Sx
namespace Hc.Sx
open PySem.SetTable
noncomputable def Ka (xs:Array Nat):Prop:=∀i j (hi:i<xs.size) (hj:j<xs.size),i<j→xs[i]<xs[j]
theorem pL {xs:Array Nat}{j:Nat}(hr:Ka xs):∀(fuel lo hi:Nat),lo≤hi→hi≤xs.size→hi - lo≤fuel→(∀i (h:i<xs.size),i<lo→xs[i]<j)→(∀i (h:i<xs.size),hi≤i→j≤xs[i]) →
  (∀i (h:i<xs.size),i<below.go xs j fuel lo hi→xs[i]<j)∧(∀i (h:i<xs.size),below.go xs j fuel lo hi≤i→j≤xs[i])∧below.go xs j fuel lo hi≤xs.size
 |0,lo,hi,h1,h2,h3,a,b=>by
  have:lo=hi:=by lia
  subst this
  exact⟨a,b,h2⟩
 |fuel+1,lo,hi,h1,h2,h3,a,b=>by
  unfold below.go
  by_cases c:lo<hi
  ·rw[if_pos c]
   dsimp only
   have hm:(lo+hi) / 2<xs.size:=by lia
   have hd:xs.getD ((lo+hi) / 2) j=xs[(lo+hi) / 2]:=by simp[Yo,hm]
   rw[hd]
   by_cases c2:xs[(lo+hi) / 2]<j
   ·rw[if_pos c2]
    refine pL hr fuel _ hi (by lia) h2 (by lia) (fun i h zO => ?_) b
    rcases W0 i ((lo+hi) / 2) with z|z
    ·exact Nat.lt_trans (hr _ _ h hm z) c2
    ·have:i=(lo+hi) / 2:=by lia
     subst this;exact c2
   ·rw[if_neg c2]
    refine pL hr fuel lo _ (by lia) (by lia) (by lia) a (fun i h zO => ?_)
    rcases W0 ((lo+hi) / 2) i with z|z
    ·have:=hr _ _ hm h z;lia
    ·have:i=(lo+hi) / 2:=by lia
     subst this;lia
  ·rw[if_neg c]
   have:lo=hi:=by lia
   subst this
   exact⟨a,b,h2⟩
theorem kQ {xs:Array Nat}(hr:Ka xs):(∀i (h:i<xs.size),i<below xs j→xs[i]<j)∧(∀i (h:i<xs.size),below xs j≤i→j≤xs[i])∧below xs j≤xs.size :=
 pL hr _ _ _ (Wy _) (UK _) (by lia) (fun i _ h=>by lia) (fun i h h'=>by lia)
theorem AZ {xs:Array Nat}(hr:Ka xs)(h:xs[i]? = some j):below xs j=i:=by
 obtain⟨hi,e⟩:=VH.mp h
 obtain⟨a,b,c⟩:=kQ (j:=j) hr
 rcases Yp (below xs j) i with z|z|z
 ·have h1:=b (below xs j) (by lia) (UK _)
  have h2:=hr _ _ (by lia) hi z
  lia
 ·exact z
 ·have:=a i hi z;lia
variable {V:Type}
structure xH (t:XQ)(es:Array (Int×V))(C:Nat→Option (Int×V)):Prop where
 ris:Ka t.place
 sz:t.place.size=es.size
 dum:t.dummies=#[]
 pow:∃k,t.mask+1=2 ^ k
 room:es.size≤t.mask
 top:∀(i j:Nat),t.place[i]? = some j→j≤t.mask
 con:∀(j:Nat) (e:Int×V),C j=some e↔∃i:Nat,t.place[i]? = some j∧es[i]? = some e
section
variable {es:Array (Int×V)}{C:Nat→Option (Int×V)}
theorem uK {xs:Array Nat}(h:xs=#[])(j:Nat):has xs j=false:=by subst h;rfl
theorem xH.live (T:xH t es C){e:Int×V}(h:C j=some e):∃i,t.slot j=.live i∧es[i]? = some e∧t.place[i]? = some j:=by
 obtain⟨i,h1,h2⟩:=(T.con j e).mp h
 refine⟨i,?_,h2,h1⟩
 unfold SetTable.slot
 dsimp only
 rw[AZ T.ris h1,h1]
 simp
theorem xH.empty (T:xH t es C)(h:C j=none):t.slot j=.empty:=by
 unfold SetTable.slot
 dsimp only
 have n:(t.place[below t.place j]? == some j)=false:=by
  rw[XC]
  intro c
  have c:t.place[below t.place j]? = some j:=by simpa using c
  have hi:=(VH.mp c).1
  have GF:below t.place j<es.size:=by rw[←T.sz];exact hi
  have:es[below t.place j]? = some es[below t.place j]:=Vh GF
  rw[(T.con j _).mpr ⟨_,c,this⟩] at h
  cases h
 rw[n,uK T.dum]
 rfl
theorem xH.free (T:xH t es C):∃y,y≤t.mask∧C y=none:=by
 refine XN fun hn => ?_
 have hs:=T.sz
 have hr:=T.room
 have:=Xj (l₁:=Vc (t.mask+1)) (l₂:=t.place.toList) YE (fun y hy=>by
  have hy:=Vz.mp hy
  cases e:C y with
  |none=>exact absurd ⟨y,by lia,e⟩ hn
  |some v =>
   obtain⟨i,h1,_⟩:=(T.con y v).mp e
   have:=Array.mem_of_getElem? h1
   simpa using this)
 rw[Vx,UE] at this
 lia
end
noncomputable def adv (mask:Nat)(p:Probe):Probe :=
 if p.more>0 then {p with j:=p.j+1,more:=p.more - 1} else
 {p with j:=(leap mask p.i p.perturb).1,more:=runEnd mask (leap mask p.i p.perturb).1 - (leap mask p.i p.perturb).1,i:=(leap mask p.i p.perturb).1,perturb:=(leap mask p.i p.perturb).2}
theorem A2 (t:XQ)(p:Probe):t.advance p=adv t.mask p:=by unfold SetTable.advance adv;rfl
noncomputable def advs (mask:Nat):Nat→Probe→Probe
 |0,p=>p
 |n+1,p=>advs mask n (adv mask p)
theorem gz (mask m n:Nat)(p:Probe):advs mask (m+n) p=advs mask n (advs mask m p):=by
 induction m generalizing p with
 |zero=>rw[WZ];rfl
 |succ m ih=>rw[Nat.succ_add];exact ih _
theorem rB (mask n:Nat)(p:Probe):advs mask (n+1) p=adv mask (advs mask n p):=by rw[gz];rfl
structure jh (mask:Nat)(p:Probe):Prop where
 i:p.i≤mask
 q:p.perturb<2 ^ 64
 m:p.more≤9
 d:p.dummy=none
theorem mq (mask i:Nat):runEnd mask i - i≤9:=by unfold runEnd;split<;>lia
theorem jh.adv {p:Probe}(h:jh mask p):jh mask (adv mask p):=by
 unfold Hc.Sx.adv
 split
 ·exact⟨h.i,h.q,by have:=h.m;dsimp only;lia,h.d⟩
 ·refine⟨WK (XD _ (Xv _)),?_,mq _ _,h.d⟩
  exact X7 (Nat.div_le_self _ _) h.q
theorem jh.advs {mask:Nat}:∀(n:Nat) {p:Probe},jh mask p→jh mask (advs mask n p)
 |0,_,h=>h
 |n+1,_,h=>jh.advs n h.adv
theorem xI (h:Int):bits h<2 ^ 64:=by
 unfold bits
 have:h % (2 ^ 64:Int)<2 ^ 64:=W2 _ (by decide)
 have h0:0≤h % (2 ^ 64:Int):=Xw _ (by decide)
 lia
theorem jh.start (t:XQ)(h:Int):jh t.mask (t.probeStart h) :=
 ⟨WK (XD _ (Xv _)),xI h,mq _ _,rfl⟩
theorem pM {mask:Nat}:∀(n:Nat) {p:Probe},p.more=n→(advs mask (n+1) p).j=(leap mask p.i p.perturb).1∧(advs mask (n+1) p).i=(leap mask p.i p.perturb).1∧(advs mask (n+1) p).perturb=(leap mask p.i p.perturb).2∧(advs mask (n+1) p).more≤9
 |0,p,e=>by
  show (adv mask p).j=_∧(adv mask p).i=_∧(adv mask p).perturb=_∧(adv mask p).more≤9
  unfold adv
  rw[if_neg (by lia)]
  exact⟨rfl,rfl,rfl,mq _ _⟩
 |n+1,p,e=>by
  have:=pM (mask:=mask) n (p:=adv mask p) (by unfold adv;rw[if_pos (by lia)];show p.more - 1=n;lia)
  have e1:(adv mask p).i=p.i∧(adv mask p).perturb=p.perturb:=by unfold adv;rw[if_pos (by lia)];exact⟨rfl,rfl⟩
  rw[e1.1,e1.2] at this
  exact this
theorem mU {mask:Nat}:∀(n:Nat) {p:Probe},jh mask p→∃m,m≤10*(n+1)∧(advs mask m p).j=(fh mask (n+1) (p.i,p.perturb)).1
 |0,p,h=>by
  obtain⟨a,_⟩:=pM (mask:=mask) p.more (p:=p) rfl
  exact⟨p.more+1,by have:=h.m;lia,a⟩
 |n+1,p,h=>by
  obtain⟨a,b,c,d⟩:=pM (mask:=mask) p.more (p:=p) rfl
  obtain⟨m,h1,h2⟩:=mU n (jh.advs (p.more+1) h)
  refine⟨p.more+1+m,by have:=h.m;lia,?_⟩
  rw[gz,h2,b,c]
  rfl
theorem rC (hm:mask+1=2 ^ k){p:Probe}(h:jh mask p){y:Nat}(hy:y≤mask):∃m,m<10*turns mask∧(advs mask m p).j=y:=by
 obtain⟨n,h1,h2⟩:=rA hm (i:=(leap mask p.i p.perturb).1) (q:=(leap mask p.i p.perturb).2) (y:=y) (WK (XD _ (Xv _))) (X7 (Nat.div_le_self _ _) h.q) hy
 obtain⟨m,h3,h4⟩:=mU n h
 refine⟨m,by unfold turns;lia,?_⟩
 rw[h4]
 exact h2
section
variable {es:Array (Int×V)}{C:Nat→Option (Int×V)}{hashAt:Nat→Int}
theorem xJ (T:xH t es C)(hh:∀i e,es[i]? = some e→hashAt i=e.1)(h:Int):∀(m fuel:Nat) (p:Probe),jh t.mask p→m<fuel→C (advs t.mask m p).j=none →
    ∃m',m'≤m∧(∀a,a<m'→∃e,C (advs t.mask a p).j=some e∧e.1≠h) ∧
      ((C (advs t.mask m' p).j=none∧probe.go t hashAt h fuel p=some (.empty (advs t.mask m' p).j none)) ∨
       ∃e i,C (advs t.mask m' p).j=some e∧e.1=h∧es[i]? = some e∧t.place[i]? = some (advs t.mask m' p).j∧probe.go t hashAt h fuel p=some (.candidate (advs t.mask m' p).j i (advs t.mask (m'+1) p)))
  |m,0,p,_,hf,_=>by lia
  |m,fuel+1,p,hp,hf,he=>by
    unfold probe.go
    cases c:C p.j with
    |none =>
      refine⟨0,Wy _,fun a ha=>by lia,.inl ⟨c,?_⟩⟩
      rw[T.empty c]
      dsimp only
      rw[hp.d];rfl
    |some e =>
      obtain⟨i,h1,h2,h3⟩:=T.live c
      rw[h1]
      dsimp only
      rw[hh i e h2]
      by_cases q:e.1=h
      · refine⟨0,Wy _,fun a ha=>by lia,.inr ⟨e,i,c,q,h2,h3,?_⟩⟩
        rw[if_pos (by rw[q];simp),A2];rfl
      · rw[if_neg (by simpa using q),A2]
        cases m with
        |zero=>rw[show advs t.mask 0 p=p from rfl,c] at he;cases he
        |succ m =>
          obtain⟨m',g1,g2,g3⟩:=xJ T hh h m fuel (adv t.mask p) hp.adv (by lia) he
          refine⟨m'+1,by lia,fun a ha => ?_,g3⟩
          cases a with
          |zero=>exact⟨e,c,q⟩
          |succ a=>exact g2 a (by lia)
theorem wy (T:xH t es C)(hh:∀i e,es[i]? = some e→hashAt i=e.1)(h:Int){p:Probe}(hp:jh t.mask p) :
    ∃m',(∀a,a<m'→∃e,C (advs t.mask a p).j=some e∧e.1≠h) ∧
      ((C (advs t.mask m' p).j=none∧t.probe hashAt h p=some (.empty (advs t.mask m' p).j none)) ∨
       ∃e i,C (advs t.mask m' p).j=some e∧e.1=h∧es[i]? = some e∧t.place[i]? = some (advs t.mask m' p).j∧t.probe hashAt h p=some (.candidate (advs t.mask m' p).j i (advs t.mask (m'+1) p))):=by
  obtain⟨y,hy,hc⟩:=T.free
  obtain⟨k,hk⟩:=T.pow
  obtain⟨m,h1,h2⟩:=rC hk hp hy
  obtain⟨m',_,g2,g3⟩:=xJ T hh h m _ p hp h1 (by rw[h2];exact hc)
  exact⟨m',g2,g3⟩
end
end Hc.Sx
namespace Hc.Sx
open PySem.SetTable
theorem ie {α:Type}(xs:Array α)(p:Nat)(x:α):(insertAt xs p x).toList=xs.toList.take p++x::xs.toList.drop p:=by
 unfold insertAt
 simp[Xc,List.extract_eq_drop_take]
 exact V7 (by simp)
theorem bW {α:Type}{xs:Array α}{p:Nat}{x:α}(h:p≤xs.size)(i:Nat):(insertAt xs p x)[i]? = if i<p then xs[i]? else if i=p then some x else xs[i - 1]? := by
 rw[←U_,ie]
 have lt:(xs.toList.take p).length=p:=by rw[U7,UE];lia
 by_cases c:i<p
 ·rw[if_pos c,VU (by lia),Zl c,U_]
 ·rw[if_neg c,VG (by lia),lt]
  by_cases c2:i=p
  ·rw[if_pos c2,c2,Y9];rfl
  ·rw[if_neg c2,show i - p=(i - p - 1)+1 by lia,VR,X_,U_]
   congr 1
   lia
theorem fG {α:Type}{xs:Array α}{p:Nat}{x:α}(h:p≤xs.size):(insertAt xs p x).size=xs.size+1:=by
 rw[←UE,ie,UH,UI,U7,Vl,UE]
 lia
variable {V:Type}
noncomputable def HH (C:Nat→Option (Int×V))(j:Nat)(e:Int×V):Nat→Option (Int×V):=fun y=>if y=j then some e else C y
noncomputable def Fm (mask:Nat)(st:Int→Probe)(C:Nat→Option (Int×V)):Prop:=∀(j:Nat) (e:Int×V),C j=some e→∃n,(advs mask n (st e.1)).j=j∧∀m,m<n→∃e',C (advs mask m (st e.1)).j=some e'
section
variable {es:Array (Int×V)}{C:Nat→Option (Int×V)}
theorem xH.put (T:xH t es C){e:Int×V}(hj:j≤t.mask)(hc:C j=none)(hr:es.size+1≤t.mask) :
  xH (t.put j).1 (insertAt es (t.put j).2 e) (HH C j e)∧(t.put j).1.mask=t.mask∧(t.put j).1.plain=t.plain∧(t.put j).1.led=t.led∧(t.put j).1.moves=t.moves∧(t.put j).1.finger=t.finger:=by
 obtain⟨a,b,c⟩:=kQ (j:=j) T.ris
 have nz:∀i,t.place[i]? ≠ some j:=fun i h=>by
  have hi:=(VH.mp h).1
  have GF:i<es.size:=by rw[←T.sz];exact hi
  rw[(T.con j es[i]).mpr ⟨i,h,Vh GF⟩] at hc;cases hc
 have ep:(t.put j).1={t with place:=insertAt t.place (below t.place j) j}:=by
  unfold SetTable.put
  dsimp only
  rw[uK T.dum];rfl
 have e2:(t.put j).2=below t.place j:=rfl
 have c2:below t.place j≤es.size:=by rw[←T.sz];exact c
 rw[ep,e2]
 refine⟨⟨?_,?_,T.dum,T.pow,?_,?_,?_⟩,rfl,rfl,rfl,rfl,rfl⟩
 ·intro i i' hi zO lt
  have g:=fun x=>bW (x:=j) c x
  dsimp only at hi zO ⊢
  have e1:=g i;have xc:=g i'
  rw[Vh hi] at e1
  rw[Vh zO] at xc
  rw[fG c] at hi zO
  have at_:∀x (hx:x<t.place.size),t.place[x]? = some t.place[x]:=fun x hx=>Vh hx
  have RO:∀x (hx:x<t.place.size),t.place[x]≠j:=fun x hx z=>nz x (by rw[at_ x hx,z])
  by_cases q:i<below t.place j
  ·rw[if_pos q,at_ i (by lia)] at e1
   have e1:=U0 e1
   rw[e1]
   by_cases q':i'<below t.place j
   ·rw[if_pos q',at_ i' (by lia)] at xc
    rw[U0 xc]
    exact T.ris _ _ _ _ lt
   ·rw[if_neg q'] at xc
    by_cases r':i'=below t.place j
    ·rw[if_pos r'] at xc
     rw[U0 xc]
     exact a i (by lia) q
    ·rw[if_neg r',at_ (i' - 1) (by lia)] at xc
     rw[U0 xc]
     have h1:=a i (by lia) q
     have h2:=b (i' - 1) (by lia) (by lia)
     lia
  ·rw[if_neg q] at e1
   rw[if_neg (by lia),if_neg (by lia),at_ (i' - 1) (by lia)] at xc
   rw[U0 xc]
   by_cases r:i=below t.place j
   ·rw[if_pos r] at e1
    rw[U0 e1]
    have h2:=b (i' - 1) (by lia) (by lia)
    have h3:=RO (i' - 1) (by lia)
    lia
   ·rw[if_neg r,at_ (i - 1) (by lia)] at e1
    rw[U0 e1]
    exact T.ris _ _ _ _ (by lia)
 ·show (insertAt t.place _ j).size=_
  rw[fG c,fG c2,T.sz]
 ·rw[fG c2];exact hr
 ·intro i y h
  have h:(insertAt t.place (below t.place j) j)[i]? = some y:=h
  rw[bW c] at h
  split at h
  ·exact T.top i y h
  ·split at h
   ·cases h;exact hj
   ·exact T.top _ y h
 ·intro y v
  show HH C j e y=some v↔∃i,(insertAt t.place (below t.place j) j)[i]? = some y∧(insertAt es (below t.place j) e)[i]? = some v
  unfold HH
  constructor
  ·intro h
   split at h
   ·rename_i q
    cases h
    subst q
    refine⟨below t.place y,?_,?_⟩
    ·rw[bW c,if_neg (Wj _),if_pos rfl]
    ·rw[bW c2,if_neg (Wj _),if_pos rfl]
   ·obtain⟨i,h1,h2⟩:=(T.con y v).mp h
    by_cases q:i<below t.place j
    ·exact⟨i,by rw[bW c,if_pos q];exact h1,by rw[bW c2,if_pos q];exact h2⟩
    ·exact⟨i+1,by rw[bW c,if_neg (by lia),if_neg (by lia)];exact h1,by rw[bW c2,if_neg (by lia),if_neg (by lia)];exact h2⟩
  ·rintro⟨i,h1,h2⟩
   rw[bW c] at h1
   rw[bW c2] at h2
   by_cases q:i<below t.place j
   ·rw[if_pos q] at h1 h2
    rw[if_neg (fun z=>nz i (by rw[h1,z]))]
    exact (T.con y v).mpr ⟨i,h1,h2⟩
   ·rw[if_neg q] at h1 h2
    by_cases r:i=below t.place j
    ·rw[if_pos r] at h1 h2
     rw[if_pos (U0 h1).symm];exact h2
    ·rw[if_neg r] at h1 h2
     rw[if_neg (fun z=>nz (i - 1) (by rw[h1,z]))]
     exact (T.con y v).mpr ⟨_,h1,h2⟩
theorem Fm.up {st:Int→Probe}(P:Fm mask st C){e:Int×V}(hb:∀m,m<n→∃e',C (advs mask m (st e.1)).j=some e')(hc:C (advs mask n (st e.1)).j=none):Fm mask st (HH C (advs mask n (st e.1)).j e):=by
 have CU:∀y,(∃e',C y=some e')→∃e',HH C (advs mask n (st e.1)).j e y=some e':=fun y h00=>by
  obtain⟨e',h⟩:=h00
  unfold HH
  split
  ·exact⟨_,rfl⟩
  ·exact⟨e',h⟩
 intro j v h
 unfold HH at h
 split at h
 ·rename_i q
  cases h
  exact⟨n,q.symm,fun m hm=>CU _ (hb m hm)⟩
 ·obtain⟨n',h1,h2⟩:=P j v h
  exact⟨n',h1,fun m hm=>CU _ (h2 m hm)⟩
theorem Fm.met {st:Int→Probe}(P:Fm mask st C){h:Int}(hc:C (advs mask n (st h)).j=none){e:Int×V}(he:C j=some e)(hh:e.1=h):∃m,m<n∧(advs mask m (st h)).j=j:=by
 obtain⟨m,h1,h2⟩:=P j e he
 rw[hh] at h1 h2
 rcases Yp m n with z|z|z
 ·exact⟨m,z,h1⟩
 ·subst z;rw[h1,he] at hc;cases hc
 ·obtain⟨e',q⟩:=h2 n z;rw[q] at hc;cases hc
end
noncomputable def X2 (mask:Nat)(h:Int):Probe:={j:=bits h % (mask+1),more:=runEnd mask (bits h % (mask+1)) - bits h % (mask+1),i:=bits h % (mask+1),perturb:=bits h,dummy:=none}
theorem mw {mask:Nat}:∀(k:Nat) {p:Probe},k≤p.more→(advs mask k p).j=p.j+k∧(advs mask k p).more=p.more - k∧(advs mask k p).i=p.i∧(advs mask k p).perturb=p.perturb∧(advs mask k p).dummy=p.dummy
 |0,p,_=>⟨rfl,rfl,rfl,rfl,rfl⟩
 |k+1,p,h=>by
  obtain⟨a,b,c,d,e⟩:=mw (mask:=mask) k (p:=adv mask p) (by unfold adv;rw[if_pos (by lia)];dsimp only;lia)
  have e1:(adv mask p).j=p.j+1∧(adv mask p).more=p.more - 1∧(adv mask p).i=p.i∧(adv mask p).perturb=p.perturb∧(adv mask p).dummy=p.dummy:=by unfold adv;rw[if_pos (by lia)];exact⟨rfl,rfl,rfl,rfl,rfl⟩
  refine⟨?_,?_,c.trans e1.2.2.1,d.trans e1.2.2.2.1,e.trans e1.2.2.2.2⟩
  ·show (advs mask k (adv mask p)).j=_;rw[a,e1.1];lia
  ·show (advs mask k (adv mask p)).more=_;rw[b,e1.2.1];lia
theorem rD {mask:Nat}{owner:Array (Option Nat)}(hs:owner.size=mask+1):∀(n fuel:Nat) (p:Probe),p.j=p.i→p.more=runEnd mask p.i - p.i→p.i≤mask→n<fuel→owner[(fh mask n (p.i,p.perturb)).1]? = some none →
  ∃m,layClean.free mask owner fuel p.i p.perturb=some (advs mask m p).j∧owner[(advs mask m p).j]? = some none∧∀a,a<m→∃i,owner[(advs mask a p).j]? = some (some i)
 |n,0,p,_,_,_,hf,_=>by lia
 |n,fuel+1,p,hj,hm,hi,hf,hn=>by
  have re:runEnd mask p.i≤mask∧p.i≤runEnd mask p.i:=by unfold runEnd;split<;>lia
  have at_:∀a,a≤p.more→∃o,owner[p.i+a]? = some o:=fun a ha=>⟨owner[p.i+a]'(by lia),Vh (by lia)⟩
  have gd:∀a o,owner[p.i+a]? = some o→owner.getD (p.i+a) (some 0)=o:=fun a o h=>by
   obtain⟨h1,h2⟩:=VH.mp h
   simp[Yo,h1,h2]
  unfold layClean.free
  cases hq:(Vc (runEnd mask p.i+1 - p.i)).find? (fun k=>(owner.getD (p.i+k) (some 0)).isNone) with
  |some k =>
   obtain⟨h1,as,bs,h2,h3⟩:=List.find?_eq_some_iff_append.mp hq
   have hk:k<runEnd mask p.i+1 - p.i:=Vz.mp (by rw[h2];simp)
   have GG:k≤p.more:=by lia
   obtain⟨o,ho⟩:=at_ k GG
   rw[gd k o ho] at h1
   have on:o=none:=by cases o with
    |none=>rfl
    |some x=>cases h1
   subst on
   refine⟨k,?_,?_,fun a ha => ?_⟩
   ·dsimp only
    rw[(mw k GG).1,hj]
   ·rw[(mw k GG).1,hj];exact ho
   ·rw[(mw a (by lia)).1,hj]
    obtain⟨o,ho⟩:=at_ a (by lia)
    have am:a∈as:=by
     have la:as.length=k:=by
      have e:(Vc (runEnd mask p.i+1 - p.i))[as.length]? = some k:=by rw[h2,VG (UK _),Y9];rfl
      have lt:as.length<runEnd mask p.i+1 - p.i:=by
       have:=(UJ.mp e).1
       simpa using this
      rw[Xk lt] at e
      exact U0 e
     have e:(Vc (runEnd mask p.i+1 - p.i))[a]? = some a:=Xk (by lia)
     rw[h2,VU (by lia)] at e
     exact Vt e
    have:=h3 a am
    rw[gd a o ho] at this
    cases o with
    |none=>simp at this
    |some x=>exact⟨x,ho⟩
  |none =>
   have all:=List.find?_eq_none.mp hq
   have QC:∀a,a≤p.more→∃i,owner[p.i+a]? = some (some i):=fun a ha=>by
    obtain⟨o,ho⟩:=at_ a ha
    have:=all a (Vz.mpr (by lia))
    rw[gd a o ho] at this
    cases o with
    |none=>simp at this
    |some x=>exact⟨x,ho⟩
   cases n with
   |zero =>
    obtain⟨i,h⟩:=QC 0 (Wy _)
    rw[show fh mask 0 (p.i,p.perturb)=(p.i,p.perturb) from rfl,←Y_ p.i,h] at hn
    cases hn
   |succ n =>
    obtain⟨a1,a2,a3,a4,a5⟩:=mw (mask:=mask) p.more (p:=p) (UK _)
    have e1:advs mask (p.more+1) p={advs mask p.more p with j:=(leap mask p.i p.perturb).1,more:=runEnd mask (leap mask p.i p.perturb).1 - (leap mask p.i p.perturb).1,i:=(leap mask p.i p.perturb).1,perturb:=(leap mask p.i p.perturb).2}:=by
     rw[rB]
     unfold adv
     rw[if_neg (by lia),a3,a4]
    obtain⟨m,g1,g2,g3⟩:=rD hs n fuel (advs mask (p.more+1) p) (by rw[e1]) (by rw[e1]) (by rw[e1];exact WK (XD _ (Xv _))) (by lia) (by rw[e1];exact hn)
    refine⟨p.more+1+m,?_,by rw[gz];exact g2,fun a ha => ?_⟩
    ·rw[gz]
     rw[e1] at g1 ⊢
     exact g1
    ·rcases W0 a (p.more+1) with z|z
     ·rw[(mw a (by lia)).1,hj];exact QC a (by lia)
     ·have:=g3 (a - (p.more+1)) (by lia)
      rw[←gz,show p.more+1+(a - (p.more+1))=a by lia] at this
      exact this
end Hc.Sx
namespace Hc.Sx
open PySem.SetTable
structure Fo (mask:Nat)(owner:Array (Option Nat))(k:Nat)(Hf:Nat→Int):Prop where
 sz:owner.size=mask+1
 ix:∀(j i:Nat),owner[j]? = some (some i)→i<k
 ex:∀i:Nat,i<k→∃j:Nat,owner[j]? = some (some i)
 un:∀(j j' i:Nat),owner[j]? = some (some i)→owner[j']? = some (some i)→j=j'
 pt:∀(j i:Nat),owner[j]? = some (some i)→∃n,(advs mask n (X2 mask (Hf i))).j=j∧∀m,m<n→∃i':Nat,owner[(advs mask m (X2 mask (Hf i))).j]? = some (some i')
section
variable {owner:Array (Option Nat)}{Hf:Nat→Int}
theorem Fo.free (O:Fo mask owner k Hf)(hk:k≤mask):∃y,y≤mask∧owner[y]? = some none:=by
 refine XN fun hn => ?_
 have NL:∀y,y<mask+1→∃i,owner[y]? = some (some i):=fun y hy=>by
  have h1:y<owner.size:=by rw[O.sz];exact hy
  cases e:owner[y] with
  |none=>exact absurd ⟨y,by lia,by rw[Vh h1,e]⟩ hn
  |some i=>exact⟨i,by rw[Vh h1,e]⟩
 have g:∀y,∃i,y<mask+1→owner[y]? = some (some i):=fun y=>by
  by_cases h:y<mask+1
  ·obtain⟨i,e⟩:=NL y h;exact⟨i,fun _=>e⟩
  ·exact⟨0,fun z=>absurd z h⟩
 let f:=fun y=>Classical.choose (g y)
 have hf:∀y,y<mask+1→owner[y]? = some (some (f y)):=fun y=>Classical.choose_spec (g y)
 have:=Xj (l₁:=(Vc (mask+1)).map f) (l₂:=Vc k) (by
  unfold List.Nodup
  rw[WJ]
  refine Xg (fun {a b} ha hb vN e => ?_) YE
  have h1:=hf a (Vz.mp ha)
  have h2:=hf b (Vz.mp hb)
  rw[e] at h1
  exact vN (O.un _ _ _ h1 h2)) (fun x hx=>by
  obtain⟨y,hy,rfl⟩:=Vg.mp hx
  exact Vz.mpr (O.ix y _ (hf y (Vz.mp hy))))
 rw[Ux,Vx,Vx] at this
 lia
theorem Fo.step (O:Fo mask owner k Hf)(hp:∃p,mask+1=2 ^ p)(hk:k≤mask):∃j,layClean.free mask owner (turns mask) (bits (Hf k) % (mask+1)) (bits (Hf k))=some j∧Fo mask (owner.setIfInBounds j (some k)) (k+1) Hf:=by
 obtain⟨y,hy,ho⟩:=O.free hk
 obtain⟨p,hp⟩:=hp
 have hi:bits (Hf k) % (mask+1)≤mask:=WK (XD _ (Xv _))
 obtain⟨n,h1,h2⟩:=rA hp (i:=bits (Hf k) % (mask+1)) (q:=bits (Hf k)) hi (xI _) hy
 obtain⟨m,g1,g2,g3⟩:=rD O.sz n (turns mask) (X2 mask (Hf k)) rfl rfl hi (by unfold turns;lia) (by
  show owner[(fh mask n (bits (Hf k) % (mask+1),bits (Hf k))).1]? = _
  rw[h2];exact ho)
 refine⟨_,g1,?_⟩
 have hj:(advs mask m (X2 mask (Hf k))).j<owner.size:=(VH.mp g2).1
 generalize ej:(advs mask m (X2 mask (Hf k))).j=j at *
 have gt:∀x,(owner.setIfInBounds j (some k))[x]? = if x=j then some (some k) else owner[x]? := fun x=>by
  rw[Array.getElem?_setIfInBounds]
  by_cases c:j=x
  ·rw[if_pos c,if_pos c.symm,if_pos hj]
  ·rw[if_neg c,if_neg (fun z=>c z.symm)]
 have CU:∀x:Nat,(∃i':Nat,owner[x]? = some (some i'))→∃i':Nat,(owner.setIfInBounds j (some k))[x]? = some (some i'):=fun x h00=>by
  obtain⟨i',h⟩:=h00
  rw[gt]
  split
  ·exact⟨k,rfl⟩
  ·exact⟨i',h⟩
 refine⟨by rw[Array.size_setIfInBounds];exact O.sz,fun x i h => ?_,fun i hi => ?_,fun x x' i h h' => ?_,fun x i h => ?_⟩
 ·rw[gt] at h
  split at h
  ·cases h;lia
  ·have:=O.ix x i h;lia
 ·by_cases c:i=k
  ·exact⟨j,by rw[gt,if_pos rfl,c]⟩
  ·obtain⟨x,h⟩:=O.ex i (by lia)
   refine⟨x,?_⟩
   rw[gt,if_neg (fun z=>by rw[z,g2] at h;cases h)]
   exact h
 ·rw[gt] at h h'
  by_cases c:x=j
  ·by_cases c':x'=j
   ·rw[c,c']
   ·rw[if_pos c] at h;rw[if_neg c'] at h'
    cases h
    have:=O.ix _ _ h';lia
  ·by_cases c':x'=j
   ·rw[if_neg c] at h;rw[if_pos c'] at h'
    cases h'
    have:=O.ix _ _ h;lia
   ·rw[if_neg c] at h;rw[if_neg c'] at h'
    exact O.un _ _ _ h h'
 ·rw[gt] at h
  split at h
  ·rename_i c
   cases h
   exact⟨m,by rw[ej,c],fun a ha=>CU _ (g3 a ha)⟩
  ·obtain⟨n,h1,h2⟩:=O.pt x i h
   exact⟨n,h1,fun a ha=>CU _ (h2 a ha)⟩
end
noncomputable def Eh (mask:Nat)(bY:Option (Array (Option Nat)×Nat))(h:Int):Option (Array (Option Nat)×Nat):=do
  let (owner,k) ←bY
  let j ←layClean.free mask owner (turns mask) (bits h % (mask+1)) (bits h)
  pure (owner.setIfInBounds j (some k),k+1)
theorem xK {mask:Nat}{Hf:Nat→Int}(hp:∃p,mask+1=2 ^ p):∀(hs:List Int) (k:Nat) (owner:Array (Option Nat)),Fo mask owner k Hf→(∀i,i<hs.length→hs[i]? = some (Hf (k+i)))→k+hs.length≤mask →
  ∃owner',hs.foldl (Eh mask) (some (owner,k))=some (owner',k+hs.length)∧Fo mask owner' (k+hs.length) Hf
 | [],k,owner,O,_,_=>⟨owner,rfl,O⟩
 |h::hs,k,owner,O,he,hl=>by
  have e0:h=Hf k:=by have:=he 0 (by simp);simpa using this
  rw[UI] at hl
  obtain⟨j,g1,g2⟩:=O.step hp (by lia)
  obtain⟨owner',f1,f2⟩:=xK hp hs (k+1) _ g2 (fun i hi=>by
   have:=he (i+1) (by rw[UI];lia)
   rw[VR] at this
   rw[this];congr 2;lia) (by lia)
  refine⟨owner',?_,?_⟩
  ·rw[List.foldl_cons,show Eh mask (some (owner,k)) h=some (owner.setIfInBounds j (some k),k+1) by unfold Eh;rw[e0];simp[g1],f1,UI]
   congr 2;lia
  ·rw[UI,show k+(hs.length+1)=k+1+hs.length by lia];exact f2
theorem Ei (mask:Nat)(Hf:Nat→Int):Fo mask (Array.replicate (mask+1) none) 0 Hf:=by
 have no:∀(j i:Nat),(Array.replicate (mask+1) (none:Option Nat))[j]? ≠ some (some i):=fun j i h=>by
  rw[Array.getElem?_replicate] at h
  split at h<;>cases h
 exact⟨by simp,fun j i h=>absurd h (no j i),fun i h=>absurd h (Nat.not_lt_zero _),fun j _ i h=>absurd h (no j i),fun j i h=>absurd h (no j i)⟩
theorem ig {α β:Type}{f:α→Option β}:∀{l:List α},(∀x∈l,∃y,f x=some y)→∀n:Nat,(l.filterMap f)[n]? = (l[n]?).bind f
 | [],_,n=>by simp
 |x::l,h,n=>by
  obtain⟨y,hy⟩:=h x UL
  rw[Zq hy]
  cases n with
  |zero=>simp[hy]
  |succ n=>simpa using ig (fun z hz=>h z (UM _ hz)) n
theorem jS {α β:Type}{f:α→Option β}:∀{l:List α},(∀x∈l,∃y,f x=some y)→(l.filterMap f).length=l.length
 | [],_=>rfl
 |x::l,h=>by
  obtain⟨y,hy⟩:=h x UL
  rw[Zq hy,UI,UI,jS fun z hz=>h z (UM _ hz)]
variable {V:Type}
theorem kR {finger moves:Nat}{led plain:Bool}{es:Array (Int×V)}(hp:∃p,mask+1=2 ^ p)(hl:es.size≤mask):∃(t:XQ) (order:Array Nat) (C:Nat→Option (Int×V)),laid mask finger moves led plain (es.map (·.1))=some (t,order) ∧
  xH t (order.filterMap (es[·]?)) C∧Fm mask (X2 mask) C∧(order.filterMap (es[·]?)).size=es.size∧t.mask=mask∧t.finger=finger∧t.moves=moves∧t.led=led∧t.plain=plain ∧
  (order.filterMap (es[·]?)).toList.Perm es.toList:=by
 obtain⟨owner,f1,O⟩:=xK (Hf:=fun i=>(es[i]?.map (·.1)).getD 0) hp (es.map (·.1)).toList 0 _ (Ei mask _) (fun i hi=>by
  have GF:i<es.size:=by simpa using hi
  simp[GF]) (by simpa using hl)
 rw[WZ,UE,Array.size_map] at f1 O
 have lc:layClean mask (es.map (·.1))=some owner:=by
  unfold layClean
  rw[←Array.foldl_toList]
  show ((es.map (·.1)).toList.foldl (Eh mask) (some (Array.replicate (mask+1) none,0))).map (·.1)=some owner
  rw[f1];rfl
 let live:=(Vc (mask+1)).filterMap fun j=>(owner.getD j none).map (j,·)
 have gd:∀j i,owner.getD j none=some i↔owner[j]? = some (some i):=fun j i=>by
  by_cases h:j<owner.size
  ·simp[Yo,h]
  ·simp[Yo,h]
 have ml:∀j i,(j,i)∈live↔owner[j]? = some (some i):=fun j i=>by
  show (j,i)∈List.filterMap _ _↔_
  rw[Y6]
  constructor
  ·rintro⟨a,_,h⟩
   cases e:owner.getD a none with
   |none=>rw[e] at h;cases h
   |some x=>rw[e] at h;cases h;exact (gd _ _).mp e
  ·intro h
   refine⟨j,Vz.mpr ?_,by rw[(gd j i).mpr h];rfl⟩
   have:=(VH.mp h).1
   rw[O.sz] at this;exact this
 have pw:live.Pairwise (fun a b=>a.1<b.1∧a.2≠b.2):=by
  show List.Pairwise _ (List.filterMap _ _)
  rw[List.pairwise_filterMap]
  refine List.pairwise_lt_range.imp fun {a b} vN x hx y hy => ?_
  cases e:owner.getD a none with
  |none=>rw[e] at hx;cases hx
  |some i=>cases e':owner.getD b none with
   |none=>rw[e'] at hy;cases hy
   |some i' =>
    rw[e] at hx;rw[e'] at hy
    cases hx;cases hy
    refine⟨vN,fun z => ?_⟩
    dsimp only at z
    subst z
    have:=O.un _ _ _ ((gd _ _).mp e) ((gd _ _).mp e')
    lia
 have QD:(live.map (·.2)).Perm (Vc es.size):=by
  have nd:(live.map (·.2)).Nodup:=by
   unfold List.Nodup
   rw[WJ]
   exact pw.imp fun h=>h.2
  exact (List.perm_ext_iff_of_nodup nd YE).mpr fun i=>by
   rw[Vg,Vz]
   constructor
   ·rintro⟨⟨j,i'⟩,h,rfl⟩;exact O.ix j i' ((ml j i').mp h)
   ·intro h
    obtain⟨j,e⟩:=O.ex i h
    exact⟨(j,i),(ml j i).mpr e,rfl⟩
 have len:live.length=es.size:=by
  have:=QD.length_eq
  rwa [Ux,Vx] at this
 have RP:∀x∈live,∃y,es[x.2]? = some y:=fun x hx=>by
  have:=O.ix x.1 x.2 ((ml x.1 x.2).mp hx)
  exact⟨es[x.2],Vh this⟩
 have Lf:∀x∈live.map (·.2),∃y,es[x]? = some y:=fun x hx=>by
  obtain⟨z,hz,rfl⟩:=Vg.mp hx
  exact RP z hz
 have NM:((live.map (·.2)).toArray.filterMap (es[·]?)).toList=(live.map (·.2)).filterMap (es[·]?):=by simp
 have QE:∀n:Nat,((live.map (·.2)).toArray.filterMap (es[·]?))[n]? = (live[n]?).bind fun x=>es[x.2]? := fun n=>by
  rw[←U_,NM,ig Lf,U8]
  cases live[n]? <;> rfl
 have NN:∀n:Nat,(live.map (·.1)).toArray[n]? = (live[n]?).map (·.1):=fun n=>by
  rw[←U_]
  simp
 let C:Nat→Option (Int×V):=fun j=>(owner.getD j none).bind (es[·]?)
 have hC:∀j e,C j=some e↔∃i,owner[j]? = some (some i)∧es[i]? = some e:=fun j e=>by
  show (owner.getD j none).bind _=some e↔_
  cases q:owner.getD j none with
  |none =>
   refine⟨fun h=>(by cases h),fun⟨i,h,_⟩ => ?_⟩
   rw[(gd j i).mpr h] at q;cases q
  |some i =>
   constructor
   ·intro h;exact⟨i,(gd j i).mp q,h⟩
   ·rintro⟨i',h,h2⟩
    rw[(gd j i').mpr h] at q
    cases q;exact h2
 have C9:((live.map (·.2)).toArray.filterMap (es[·]?)).size=es.size:=by
  rw[←UE,NM,jS Lf,Ux,len]
 refine⟨{mask,place:=(live.map (·.1)).toArray,dummies:=#[],finger,led,moves,plain},(live.map (·.2)).toArray,C,?_,⟨?_,?_,rfl,hp,?_,?_,?_⟩,?_,C9,rfl,rfl,rfl,rfl,rfl,?_⟩
 ·unfold laid
  rw[lc]
  rfl
 ·intro i j hi hj lt
  have g:=pw
  rw[W_] at g
  have zO:i<live.length:=by simpa using hi
  have RQ:j<live.length:=by simpa using hj
  have:=(g i j zO RQ lt).1
  simpa using this
 ·show ((live.map (·.1)).toArray).size=_
  rw[C9]
  simp[len]
 ·rw[C9];exact hl
 ·intro i j h
  have h:(live.map (·.1)).toArray[i]? = some j:=h
  rw[NN] at h
  cases e:live[i]? with
  |none=>rw[e] at h;cases h
  |some x =>
   rw[e] at h
   cases h
   have:=(VH.mp ((ml x.1 x.2).mp (Vt e))).1
   rw[O.sz] at this
   exact WK this
 ·intro j e
  show C j=some e↔∃i:Nat,(live.map (·.1)).toArray[i]? = some j∧_
  rw[hC]
  constructor
  ·rintro⟨i,h1,h2⟩
   obtain⟨n,hn⟩:=List.mem_iff_getElem?.mp ((ml j i).mpr h1)
   exact⟨n,by rw[NN,hn];rfl,by rw[QE,hn];exact h2⟩
  ·rintro⟨n,h1,h2⟩
   rw[NN] at h1
   rw[QE] at h2
   cases q:live[n]? with
   |none=>rw[q] at h1;cases h1
   |some x =>
    rw[q] at h1 h2
    cases h1
    exact⟨x.2,(ml x.1 x.2).mp (Vt q),h2⟩
 ·intro j e h
  obtain⟨i,h1,h2⟩:=(hC j e).mp h
  obtain⟨n,g1,g2⟩:=O.pt j i h1
  have hf:(es[i]?.map (·.1)).getD 0=e.1:=by rw[h2];rfl
  rw[hf] at g1 g2
  refine⟨n,g1,fun m hm => ?_⟩
  obtain⟨i',h3⟩:=g2 m hm
  have:=O.ix _ _ h3
  exact⟨es[i'],(hC _ _).mpr ⟨i',h3,Vh this⟩⟩
 ·rw[NM]
  refine (QD.filterMap _).trans ?_
  have e:(Vc es.size).filterMap (es[·]?)=es.toList:=by
   refine Zr fun n => ?_
   rw[ig (fun x hx=>⟨es[x]'(Vz.mp hx),Vh (Vz.mp hx)⟩)]
   by_cases h:n<es.size
   ·rw[Xk h];simp
   ·rw[V_.mpr (by simpa using h),V_.mpr (by simpa using h)];rfl
  rw[e]
end Hc.Sx
namespace Hc.Sx
open PySem.SetTable
theorem uL:∀(fuel size n:Nat),(∃p,size=2 ^ p)→8≤size→(size≤8∨size≤2*n)→n<size*2 ^ fuel→(∃p,sizeAbove.go n fuel size=2 ^ p)∧n<sizeAbove.go n fuel size∧8≤sizeAbove.go n fuel size∧(sizeAbove.go n fuel size≤8∨sizeAbove.go n fuel size≤2*n)
 |0,size,n,hp,h8,hb,hn=>by
  unfold sizeAbove.go
  exact⟨hp,by simpa using hn,h8,hb⟩
 |fuel+1,size,n,⟨p,hp⟩,h8,hb,hn=>by
  unfold sizeAbove.go
  by_cases c:size≤n
  ·rw[if_pos c]
   exact uL fuel (size*2) n ⟨p+1,by rw[hp,WG]⟩ (by lia) (.inr (by lia)) (by rw[WG,WH (2 ^ fuel) 2,←Wq] at hn;exact hn)
  ·rw[if_neg c]
   exact⟨⟨p,hp⟩,by lia,h8,hb⟩
theorem A4 (h:n<2 ^ 60):(∃p,sizeAbove n=2 ^ p)∧n<sizeAbove n∧8≤sizeAbove n∧(sizeAbove n≤8∨sizeAbove n≤2*n) :=
 uL 64 8 n ⟨3,rfl⟩ (UK _) (.inl (UK _)) (Nat.lt_trans h (by decide))
structure mV {prog:XI}{w:Xx}{K:Type}[DecidableEq K](knd:Yv prog w K):Prop where
 cls:∀{A:VE} {E:Uz→UQ→Prop} {s:UQ} {k:K} {a:UY} {Q:Bool→UQ→Prop},knd.is s.heap k a→Q false s→U4 (Vf prog w) A (ofAClassStatement 8 (.ref a)) Q E s
 byv:∀{A:VE} {E:Uz→UQ→Prop} {s:UQ} {k:K} {a:UY} {Q:Bool→UQ→Prop},knd.is s.heap k a→Q true s→U4 (Vf prog w) A (hashByValue 8 (.ref a)) Q E s
 kept:∀{h h':Xi} {k:K} {a d:UY} {o:Obj} {es:Array (Int×Uz)} {ep:Nat} {t:XQ},knd.is h k a→h.get? d=some o→o.data=.set es ep t→Xs d h h'→knd.is h' k a
section
variable {K:Type}[DecidableEq K]{knd:Yv prog w K}
noncomputable def LO (knd:Yv prog w K)(x:K×UY):Int×Uz:=(knd.hash x.1,.ref x.2)
structure HS (knd:Yv prog w K)(h:Xi)(xs:List (K×UY))(es:Array (Int×Uz))(t:XQ)(C:Nat→Option (Int×Uz)):Prop where
 tab:xH t es C
 pth:Fm t.mask (X2 t.mask) C
 pl:t.plain=true
 lo:7≤t.mask
 hi:t.mask≤8191
 few:es.size*5<t.mask*3
 per:es.toList.Perm (xs.map (LO knd))
 keys:∀x∈xs,knd.is h x.1 x.2
 nd:(xs.map (·.1)).Nodup
noncomputable def j5 (knd:Yv prog w K)(byText:Bool)(h:Xi)(a:UY)(xs:List (K×UY)):Prop :=
 ∃o es ep t C,h.get? a=some o∧o.ExactSet∧o.data=.set es ep t∧HS knd h xs es t C∧(byText=true∨t.led=true)
variable {A:VE}
theorem HS.fits {xs:List (K×UY)}(S:HS knd h xs es t C):t.fits es.size=true:=by
 unfold SetTable.fits SetTable.fill
 rw[S.tab.sz,S.tab.dum]
 simp
 exact S.tab.room
theorem HS.stays {xs:List (K×UY)}(S:HS knd h xs es t C):t.gaveWay=false:=by
 unfold SetTable.gaveWay
 obtain⟨p,hp⟩:=S.tab.pow
 have:=S.lo
 cases p with
 |zero=>simp at hp;lia
 |succ p=>rw[WG] at hp;simp;lia
theorem HS.entry {xs:List (K×UY)}(S:HS knd h xs es t C){e:Int×Uz}(he:e∈es.toList):∃k b,(k,b)∈xs∧e=(knd.hash k,.ref b)∧knd.is h k b:=by
 obtain⟨⟨k,b⟩,hx,rfl⟩:=Vg.mp (S.per.mem_iff.mp he)
 exact⟨k,b,hx,rfl,S.keys _ hx⟩
theorem HS.at {xs:List (K×UY)}(S:HS knd h xs es t C){e:Int×Uz}(hc:C j=some e):∃k b,(k,b)∈xs∧e=(knd.hash k,.ref b)∧knd.is h k b:=by
 obtain⟨i,_,h2⟩:=(S.tab.con j e).mp hc
 exact S.entry (by have:=Array.mem_of_getElem? h2;simpa using this)
theorem HS.has {xs:List (K×UY)}(S:HS knd h xs es t C){k:K}(hx:(k,b)∈xs):∃j,C j=some (knd.hash k,.ref b):=by
 have:LO knd (k,b)∈es.toList:=S.per.mem_iff.mpr (Vg.mpr ⟨_,hx,rfl⟩)
 obtain⟨i,hi⟩:=List.mem_iff_getElem?.mp this
 rw[U_] at hi
 have h2:i<t.place.size:=by rw[S.tab.sz];exact (VH.mp hi).1
 exact⟨t.place[i],(S.tab.con _ _).mpr ⟨i,Vh h2,hi⟩⟩
theorem zm (sk:mV knd){k:K}(hk:knd.is s.heap k b){Q:Bool→UQ→Prop}(l:List Uz)(hl:∀y∈l,∃k' b',y=.ref b'∧knd.is s.heap k' b')(h:Q false s):U4 (Vf prog w) A (searchCouldBeSeen (.ref b) l) Q E s:=by
 unfold searchCouldBeSeen
 refine Uw ?_
 refine wpAny_forIn_list _ (fun rest r s'=>r.1=none∧s'=s∧∀y∈rest,∃k' b',y=.ref b'∧knd.is s.heap k' b') _ ?_ ?_ _ _ ⟨rfl,rfl,hl⟩
 ·rintro y rest r s' ⟨hr,rfl,hy⟩
  obtain⟨k',b',rfl,GG⟩:=hy y UL
  have next:∀z∈rest,∃k' b',z=Value.ref b'∧knd.is s'.heap k' b':=fun z hz=>hy z (UM _ hz)
  dsimp only
  split
  ·exact UD ⟨rfl,rfl,next⟩
  ·refine Uw (knd.quiet hk ?_)
   simp only[Ya,Vi,if_false]
   refine Uw (knd.quiet GG ?_)
   simp only[Ya,Vi,if_false]
   refine Uw (sk.cls hk ?_)
   simp only[Vi,if_false]
   refine Uw (sk.cls GG ?_)
   simp only[Vi,if_false]
   exact UD ⟨rfl,rfl,next⟩
 ·rintro⟨r1,r2⟩ s' ⟨hr,rfl,_⟩
  simp only at hr
  subst hr
  exact UD h
end
end Hc.Sx
namespace Hc.Sx
open PySem.SetTable
section
variable {K:Type}[DecidableEq K]{knd:Yv prog w K}{A:VE}
variable {o:Obj}{xs:List (K×UY)}{k:K}
noncomputable abbrev xM (t:XQ)(h:Int)(n:Nat):Nat:=(advs t.mask n (X2 t.mask h)).j
theorem mW (sk:mV knd)(hr:knd.room A)(hk:knd.is s.heap k b)(ho:s.heap.get? a=some o)(hd:o.data=.set es ep t)(S:HS knd s.heap xs es t C){Q:SetFound→UQ→Prop}{N:Nat}(hN:C (xM t (knd.hash k) N)=none)
  (t6:k∈xs.map (·.1)→Q (.there none) s)
  (qx:k∉xs.map (·.1)→∀n,(∀m,m<n→∃e,C (xM t (knd.hash k) m)=some e)→C (xM t (knd.hash k) n)=none→Q (.free (xM t (knd.hash k) n) false) s) :
  ∀(fuel n:Nat) (stand:Option Probe),stand.getD (t.probeStart (knd.hash k))=advs t.mask n (X2 t.mask (knd.hash k))→N<n+fuel→(∀m,m<n→∃k' b',C (xM t (knd.hash k) m)=some (knd.hash k',.ref b')∧(k',b')∈xs∧k'≠k) →
   U4 (Vf prog w) A (setSearchFrom a (.ref b) (knd.hash k) true fuel stand) Q E s
 |0,n,stand,hs,hf,hb=>by
  obtain⟨k',b',e,_⟩:=hb N (by lia)
  rw[e] at hN;cases hN
 |fuel+1,n,stand,hs,hf,hb=>by
  unfold setSearchFrom
  refine Uw (VY ho hd S.fits ?_)
  dsimp only
  rw[S.stays]
  simp only[Vi,if_false]
  obtain⟨m',g1,g2⟩:=wy S.tab (hashAt:=fun i=>(es[i]?.map (·.1)).getD 0) (fun i e h=>by show (es[i]?.map (·.1)).getD 0=e.1;rw[h];rfl) (knd.hash k) (jh.advs n (jh.start t (knd.hash k)))
  have pa:∀x,(advs t.mask x (advs t.mask n (t.probeStart (knd.hash k)))).j=xM t (knd.hash k) (n+x):=fun x=>by rw[←gz];rfl
  have L7:∀m,m<n+m'→∃k' b',C (xM t (knd.hash k) m)=some (knd.hash k',.ref b')∧(k',b')∈xs∧k'≠k:=fun m hm=>by
   rcases W0 m n with z|z
   ·exact hb m z
   ·obtain⟨e,h1,h2⟩:=g1 (m - n) (by lia)
    rw[pa,show n+(m - n)=m by lia] at h1
    obtain⟨k',b',hx,rfl,_⟩:=S.at h1
    exact⟨k',b',h1,hx,fun z=>h2 (by rw[z])⟩
  have pe:t.probe (fun i=>(es[i]?.map (·.1)).getD 0) (knd.hash k) (stand.getD (t.probeStart (knd.hash k)))=t.probe (fun i=>(es[i]?.map (·.1)).getD 0) (knd.hash k) (advs t.mask n (t.probeStart (knd.hash k))):=by rw[hs];rfl
  rcases g2 with⟨c1,c2⟩|⟨e,i,c1,c2,c3,c4,c5⟩
  ·
   have NO:=pe.trans c2
   rw[pa] at c1 NO
   have nx:k∉xs.map (·.1):=fun hm=>by
    obtain⟨⟨k0,b0⟩,hx,rfl⟩:=Vg.mp hm
    obtain⟨j,hj⟩:=S.has hx
    obtain⟨m,hm,hmj⟩:=S.pth.met c1 hj rfl
    obtain⟨k',b',h1,h2,h3⟩:=L7 m hm
    have h1:C j=some (knd.hash k',.ref b'):=by rw[←hmj];exact h1
    rw[hj] at h1
    have eb:b0=b':=by
     have:=(Prod.mk.inj (U0 h1)).2
     injection this
    subst eb
    exact h3 (knd.inj (S.keys _ h2) (S.keys _ hx))
   have fin:=qx nx (n+m') (fun m hm=>let ⟨k',b',h1,_⟩:=L7 m hm;⟨_,h1⟩) c1
   split
   ·rename_i met hq
    have e:=(hq.symm.trans NO)
    cases e
    exact UD fin
   ·rename_i hq
    exact absurd NO (by intro z;exact hq _ z)
  ·
   have IY:=pe.trans c5
   rw[pa] at c1 c4 IY
   rw[←gz] at IY
   obtain⟨k',b',hx,rfl,GG⟩:=S.at c1
   have lN:n+m'<N:=by
    rcases Yp N (n+m') with z|z|z
    ·obtain⟨_,_,e,_⟩:=L7 N z;rw[e] at hN;cases hN
    ·rw[z,c1] at hN;cases hN
    ·exact z
   have body:∀R:Sem SetFound,R=(do
     let some (_,y):=es[i]? | XW "internal:set-entry"
     let equal ←holding [y] (eqBool y (.ref b))
     let (CV,_,t') ←setState a
     if true&&equal then return .there none
     let some same:=t'.sameMemory t.moves t.mask|XW "set.changed-during-lookup:is-the-new-block-at-the-old-address"
     let yN ←match (if same then t'.slot (xM t (knd.hash k) (n+m')) else .empty) with
      | .live i'=>match CV[i']? with
       |some (_,y')=>do pure (if ←isSame y' y then some i' else none)
       |none=>pure none
      |_=>pure none
     match yN with
     |none=>rule "set.search.anew";setSearchFrom a (.ref b) (knd.hash k) true fuel none
     |some i'=>if equal then return .there (some i') else setSearchFrom a (.ref b) (knd.hash k) true fuel (some (advs t.mask (n+(m'+1)) (t.probeStart (knd.hash k)))))→U4 (Vf prog w) A R Q E s:=fun R hR=>by
    subst hR
    rw[c3]
    dsimp only
    refine Uw (Wl (knd.eqBool hr GG hk ?_))
    refine Uw (VY ho hd S.fits ?_)
    dsimp only
    by_cases q:k'=k
    ·rw[decide_eq_true q]
     simp only[Bool.and_self,if_true]
     subst q
     exact UD (t6 (Vg.mpr ⟨_,hx,rfl⟩))
    ·rw[decide_eq_false q]
     simp only[Yt,Vi,if_false]
     have sm:t.sameMemory t.moves t.mask=some true:=by unfold SetTable.sameMemory;simp
     rw[sm]
     dsimp only
     obtain⟨i2,l1,l2,l3⟩:=S.tab.live c1
     rw[l1]
     simp only[if_true]
     rw[l2]
     dsimp only
     refine Uw (wpAny_isSame_ref_self ?_)
     simp only[if_true]
     refine Uw (UD ?_)
     dsimp only
     refine mW sk hr hk ho hd S hN t6 qx fuel (n+(m'+1)) _ rfl (by lia) fun m hm => ?_
     rcases W0 m (n+m') with z|z
     ·exact L7 m z
     ·have:m=n+m':=by lia
      subst this
      exact⟨k',b',c1,hx,q⟩
   split
   ·rename_i met hq
    have e:=(hq.symm.trans IY)
    cases e
    dsimp only
    split
    ·refine Uw (zm sk hk _ (fun y hy => ?_) ?_)
     ·obtain⟨e,he,rfl⟩:=Vg.mp hy
      have he:e∈es.toList:=by
       have:e∈(es.filter fun x=>x.1==knd.hash k):=by simpa using he
       have:=(Array.mem_filter.mp this).1
       simpa using this
      obtain⟨k2,b2,_,rfl,h2⟩:=S.entry he
      exact⟨k2,b2,rfl,h2⟩
     ·simp only[Vi,if_false]
      exact body _ rfl
    ·exact body _ rfl
   ·rename_i hq
    exact absurd IY (by intro z;exact hq _ z)
theorem zo (sk:mV knd)(hr:knd.room A)(hk:knd.is s.heap k b)(ho:s.heap.get? a=some o)(hd:o.data=.set es ep t)(S:HS knd s.heap xs es t C){Q:SetFound→UQ→Prop}
  (t6:k∈xs.map (·.1)→Q (.there none) s)
  (qx:k∉xs.map (·.1)→∀n,(∀m,m<n→∃e,C (xM t (knd.hash k) m)=some e)→C (xM t (knd.hash k) n)=none→Q (.free (xM t (knd.hash k) n) false) s) :
  U4 (Vf prog w) A (setSearch a (.ref b) (knd.hash k) true) Q E s:=by
 obtain⟨y,hy,hc⟩:=S.tab.free
 obtain⟨p,hp⟩:=S.tab.pow
 obtain⟨N,h1,h2⟩:=rC hp (jh.start t (knd.hash k)) hy
 unfold setSearch
 refine mW sk hr hk ho hd S (N:=N) (by show C (advs t.mask N (t.probeStart (knd.hash k))).j=none;rw[h2];exact hc) t6 qx 100000 0 none rfl ?_ fun m hm=>by lia
 have:=S.hi
 unfold turns at h1
 lia
end
end Hc.Sx
namespace Hc.Sx
open PySem.SetTable
theorem jT {α:Type}(xs:Array α)(p:Nat)(x:α):(insertAt xs p x).toList.Perm (xs.toList++[x]):=by
 rw[ie]
 have h:(x::xs.toList.drop p).Perm (xs.toList.drop p++[x]):=(List.perm_append_singleton x _).symm
 refine (VN _ h).trans ?_
 rw[←UZ,Vr]
section
variable {K:Type}[DecidableEq K]{knd:Yv prog w K}{A:VE}
variable {o:Obj}{xs:List (K×UY)}{k:K}{byText:Bool}
noncomputable def jU (xs:List (K×UY))(k:K)(b:UY):List (K×UY):=if k∈xs.map (·.1) then xs else xs++[(k,b)]
theorem A5 (ho:h.get? a=some o)(hd:o.data=.set es ep t)(CV:Array (Int×Uz))(t':XQ) :
  (h.update a (Zs CV t')).get? a=some {o with data:=.set CV (ep+1) t'}:=by
 have:=WX (Zs CV t') ho (by rw[putSet_of CV t' hd];rfl)
 rw[putSet_of CV t' hd] at this;exact this
theorem A6 {h:Xi}(sk:mV knd)(ho:s.heap.get? a=some o)(C7:o.ExactSet)(hd:o.data=.set es ep t)(tab:xH t es C)(pl:t.plain=true)(per:es.toList.Perm (xs.map (LO knd)))(keys:∀x∈xs,knd.is s.heap x.1 x.2)(nd:(xs.map (·.1)).Nodup)(led:byText=true∨t.led=true)(hn:es.size=n)(Um:1≤n)(QF:n≤1024){Q:Unit→UQ→Prop}(q:∀h',Xs a s.heap h'→j5 knd byText h' a xs→Q () {s with heap:=h'}) :
  U4 (Vf prog w) A (setRelay a (grown n)) Q E s:=by
 have hw:grown n=n*4:=by unfold grown;rw[if_neg (by lia)]
 have ab:=A4 (n:=grown n) (by rw[hw];exact X7 (show n*4≤4096 by lia) (by decide))
 have sz:UA=16777216:=rfl
 generalize eS:sizeAbove (grown n)=sA at ab
 obtain⟨⟨p,hp⟩,a1,a2,a3⟩:=ab
 have m1:sA - 1+1=2 ^ p:=by lia
 have RS:t.fits es.size=true:=by
  unfold SetTable.fits SetTable.fill
  rw[tab.sz,tab.dum]
  simp
  exact tab.room
 obtain⟨t',order,C',h1,T',P',hsz,e1,e2,e3,e4,e5,hall⟩:=kR (mask:=sA - 1) (finger:=t.finger) (moves:=t.movedTo (sA - 1)) (led:=t.led) (plain:=t.plain) (es:=es) ⟨p,m1⟩ (by rw[hw] at a1;lia)
 unfold setRelay
 refine Uw (VY ho hd RS ?_)
 dsimp only
 rw[eS,if_neg (by rw[hw] at a3;lia)]
 have hr:t.relaid (es.map (·.1)) (grown n)=some (t',order):=by unfold SetTable.relaid;rw[eS];exact h1
 have C9:(order.filterMap (es[·]?)).size≤UA:=by rw[hsz,hn];lia
 have Jp:¬(((order.filterMap (es[·]?)).size != es.size)=true):=by rw[hsz];simp
 refine Uw (YS (a:=(order.filterMap (es[·]?),t')) (by rw[hr];exact if_neg Jp) ?_)
 refine wpAny_storeSet_of ho hd ?_ C9
 have IZ:=Wv s.heap a (Zs (order.filterMap (es[·]?)) t')
 refine q _ IZ ⟨_,_,_,t',C',A5 ho hd _ _,C7,rfl,⟨T',by rw[e1];exact P',by rw[e5];exact pl,by rw[e1];lia,by rw[e1];rw[hw] at a3;lia,by rw[hsz,e1,hn];rw[hw] at a1;lia,?_,fun x hx=>sk.kept (keys x hx) ho hd IZ,nd⟩,led.imp id fun z=>by rw[e4];exact z⟩
 exact hall.trans per
end
end Hc.Sx
namespace Hc.Sx
open PySem.SetTable
section
variable {K:Type}[DecidableEq K]{knd:Yv prog w K}{A:VE}
variable {xs:List (K×UY)}{k:K}{byText:Bool}
theorem wz (b:UY)(es:Array (Int×Uz)):byScan (.ref b) es=false:=by unfold byScan Value.scannable;simp
theorem HJ (sk:mV knd)(hr:knd.room A)(hk:knd.is s.heap k b)(hS:j5 knd byText s.heap a xs)(hl:xs.length+1≤1024){Q:Bool→UQ→Prop}
  (q:∀h' r,Xs a s.heap h'→j5 knd byText h' a (jU xs k b)→Q r {s with heap:=h'}):U4 (Vf prog w) A (setAddHashed a (.ref b) (knd.hash k)) Q E s:=by
 obtain⟨o,es,ep,t,C,ho,C7,hd,S,led⟩:=hS
 have Uo:es.size=xs.length:=by have:=S.per.length_eq;simpa using this
 unfold setAddHashed setAddHashedIn
 refine Wl (Uw (VY ho hd S.fits ?_))
 dsimp only
 rw[wz]
 simp only[Vi,if_false]
 refine Uw (zo sk hr hk ho hd S (fun qw => ?_) fun Lg n hb hc => ?_)
 ·dsimp only
  refine UD ?_
  have e:s={s with heap:=s.heap}:=by cases s;rfl
  rw[e]
  exact q s.heap false (Heap.SameBut.refl a s.heap) (by unfold jU;rw[if_pos qw];exact⟨o,es,ep,t,C,ho,C7,hd,S,led⟩)
 ·dsimp only
  refine Uw (VY ho hd S.fits ?_)
  dsimp only
  have few:=S.few
  have lo:=S.lo
  have jm:xM t (knd.hash k) n≤t.mask:=by
   obtain⟨p,hp⟩:=S.tab.pow
   have:∀n,(advs t.mask n (X2 t.mask (knd.hash k))).j+(advs t.mask n (X2 t.mask (knd.hash k))).more≤t.mask:=by
    intro n
    induction n with
    |zero =>
     show bits (knd.hash k) % (t.mask+1)+(runEnd t.mask (bits (knd.hash k) % (t.mask+1)) - bits (knd.hash k) % (t.mask+1))≤t.mask
     have:bits (knd.hash k) % (t.mask+1)<t.mask+1:=XD _ (Xv _)
     unfold runEnd;split<;>lia
    |succ n ih =>
     rw[rB]
     unfold adv
     split
     ·dsimp only;lia
     ·dsimp only
      have:(leap t.mask (advs t.mask n (X2 t.mask (knd.hash k))).i (advs t.mask n (X2 t.mask (knd.hash k))).perturb).1<t.mask+1:=XD _ (Xv _)
      unfold runEnd;split<;>lia
   have:=this n
   show (advs t.mask n (X2 t.mask (knd.hash k))).j≤t.mask
   lia
  obtain⟨T1,p1,p2,p3,p4,p5⟩:=S.tab.put (e:=(knd.hash k,Value.ref b)) jm hc (by lia)
  have P1:=Fm.up S.pth (e:=(knd.hash k,Value.ref b)) hb hc
  generalize et:(t.put (xM t (knd.hash k) n)).1=t1 at *
  generalize ei:(t.put (xM t (knd.hash k) n)).2=ip at *
  have C9:(insertAt es ip (knd.hash k,Value.ref b)).size=es.size+1:=by
   have:=(jT es ip (knd.hash k,Value.ref b)).length_eq
   simpa using this
  rw[if_pos (by rw[p2];exact S.pl)]
  refine Uw (sk.byv hk ?_)
  simp only[if_true]
  have sl:UA=16777216:=rfl
  refine Uw (wpAny_storeSet_of ho hd ?_ (by rw[C9];lia))
  have IZ:=Wv s.heap a (Zs (insertAt es ip (knd.hash k,Value.ref b)) t1)
  have Lh:=A5 ho hd (insertAt es ip (knd.hash k,Value.ref b)) t1
  have QG:jU xs k b=xs++[(k,b)]:=by unfold jU;rw[if_neg Lg]
  have Li:(insertAt es ip (knd.hash k,Value.ref b)).toList.Perm ((xs++[(k,b)]).map (LO knd)):=by
   rw[Va]
   exact (jT _ _ _).trans (VZ _ S.per)
  have GH:∀x∈xs++[(k,b)],knd.is (s.heap.update a (Zs (insertAt es ip (knd.hash k,Value.ref b)) t1)) x.1 x.2:=fun x hx=>by
   rcases U2.mp hx with z|z
   ·exact sk.kept (S.keys x z) ho hd IZ
   ·rw[U6.mp z];exact sk.kept hk ho hd IZ
  have QH:((xs++[(k,b)]).map (·.1)).Nodup:=by
   rw[Va,Zt]
   exact⟨S.nd,by simp,fun x hx y hy e=>by
    simp at hy
    subst e hy
    exact Lg hx⟩
  have Lj:byText=true∨t1.led=true:=led.imp id fun z=>by rw[p3];exact z
  have Lk:t1.fill=es.size+1:=by
   unfold SetTable.fill
   rw[T1.sz,T1.dum,C9];rfl
  cases tf:t1.tooFull with
  |false =>
   simp only[Yw,Yt,Vi,if_false]
   refine UD (q _ true IZ ?_)
   rw[QG]
   refine⟨_,_,_,t1,_,Lh,C7,rfl,⟨T1,by rw[p1];exact P1,by rw[p2];exact S.pl,by rw[p1];exact lo,by rw[p1];exact S.hi,?_,Li,GH,QH⟩,Lj⟩
   unfold SetTable.tooFull at tf
   rw[Lk] at tf
   rw[C9]
   simpa using tf
  |true =>
   simp only[Yw,Bool.and_self,if_true]
   refine Uw (A6 (h:=s.heap) (s:={s with heap:=s.heap.update a (Zs (insertAt es ip (knd.hash k,Value.ref b)) t1)}) sk Lh C7 rfl T1 (by rw[p2];exact S.pl) Li GH QH Lj C9 (by lia) (by lia) fun h' NP H' => ?_)
   refine UD (q h' true (IZ.trans NP) ?_)
   rw[QG];exact H'
theorem A7 {led:Bool}(hl:byText=true∨led=true)(hg:h.get? a=some {cls:=.type "set",dict:=none,data:=.set #[] 0 (.fresh 0 0 led)}):j5 knd byText h a []:=by
 refine⟨_,#[],0,.fresh 0 0 led,fun _=>none,hg,⟨rfl,rfl,rfl⟩,rfl,⟨⟨fun i j hi=>absurd hi (Nat.not_lt_zero _),rfl,rfl,⟨3,rfl⟩,Wy _,fun i j h => ?_,fun j e=>⟨fun h=>(by cases h),fun⟨i,h,_⟩ => ?_⟩⟩,fun j e h=>(by cases h),rfl,UK _,(show (7:Nat)≤8191 by decide),(show 0*5<7*3 by decide),Wa _,fun x hx=>(by cases hx),List.nodup_nil⟩,hl⟩
 ·have h:(#[]:Array Nat)[i]? = some j:=h
  simp at h
 ·have h:(#[]:Array Nat)[i]? = some j:=h
  simp at h
end
end Hc.Sx
namespace Hc.Sx
open PySem.SetTable
section
variable {K:Type}[DecidableEq K]{knd:Yv prog w K}{A:VE}
variable {xs:List (K×UY)}{k:K}{byText:Bool}
theorem j5.keep (H:j5 knd byText h a xs)(e:∀o,h.get? a=some o→h'.get? a=some o)(hk:∀x∈xs,knd.is h' x.1 x.2):j5 knd byText h' a xs:=by
 obtain⟨o,es,ep,t,C,ho,C7,hd,S,led⟩:=H
 exact⟨o,es,ep,t,C,e o ho,C7,hd,⟨S.tab,S.pth,S.pl,S.lo,S.hi,S.few,S.per,hk,S.nd⟩,led⟩
theorem j5.setAt (H:j5 knd byText h a xs):∃o es ep t,h.get? a=some o∧o.data=.set es ep t:=by
 obtain⟨o,es,ep,t,C,ho,C7,hd,S,led⟩:=H
 exact⟨o,es,ep,t,ho,hd⟩
noncomputable def eh (val:Nat→K×UY):Nat→List (K×UY)
 |0=>[]
 |i+1=>jU (eh val i) (val i).1 (val i).2
theorem uM (val:Nat→K×UY){i:Nat}:∀{n:Nat},i≤n→(eh val i).length≤(eh val n).length
 |0,h=>by rw[Nat.le_zero.mp h];exact UK _
 |n+1,h=>by
  by_cases e:i=n+1
  ·rw[e];exact UK _
  ·refine VC (uM val (n:=n) (by lia)) ?_
   show (eh val n).length≤(jU _ _ _).length
   unfold jU;split
   ·exact UK _
   ·rw[UH];lia
theorem jD (val:Nat→K×UY):∀(i:Nat) (x:K×UY),x∈eh val i→∃j,j<i∧x=val j
 |0,x,h=>by cases h
 |i+1,x,h=>by
  unfold eh jU at h
  split at h
  ·obtain⟨j,h1,h2⟩:=jD val i x h
   exact⟨j,by lia,h2⟩
  ·rcases U2.mp h with z|z
   ·obtain⟨j,h1,h2⟩:=jD val i x z
    exact⟨j,by lia,h2⟩
   ·exact⟨i,by lia,U6.mp z⟩
variable {R:Result→UQ→Prop}{I:UY}{wr:List UY}{G:Array GenState→Array GenState→Prop}{P:Nat→Uz→Prop}{St:Nat→UQ→Prop}
theorem zp (sk:mV knd)(hr:knd.room A.in1)(W:WalksS prog w A.in1 I fp wr G n P St)(S:UY)(QI:S∉fp)(val:Nat→K×UY)(NQ:∀i v,P i v→v=.ref (val i).2)(hn:(eh val n).length+1≤1024)
  (mv:∀i (s s':UQ),i≤n→St i s→Moved wr G s s'→(∀j,j<n→knd.is s.heap (val j).1 (val j).2)→∀j,j<n→knd.is s'.heap (val j).1 (val j).2) :
  ∀(d i:Nat) (s:UQ),n - i=d→i≤n→St i s→(∀j,j<n→knd.is s.heap (val j).1 (val j).2)→j5 knd byText s.heap S (eh val i) →
   (∀s',Moved (S::wr) G s s'→(∀j,j<n→knd.is s'.heap (val j).1 (val j).2)→j5 knd byText s'.heap S (eh val n)→R (.ok (.ret .none)) s') →
   codeAny (Vf prog w) A (.builtin "set.update.loop" ⟨[.ref S,.ref I],[]⟩) R s:=by
 have nS:S∉wr:=fun h=>QI (W.sub _ h)
 have up:∀b∈wr,b∈S::wr:=fun b hb=>UM _ hb
 have yN:∀i (s s':UQ),i≤n→St i s→Moved wr G s s'→(∀j,j<n→knd.is s.heap (val j).1 (val j).2)→j5 knd byText s.heap S (eh val i)→j5 knd byText s'.heap S (eh val i):=fun i s s' hi st m hk H =>
  H.keep (fun o e=>m.heap S o nS e) fun x hx=>by
   obtain⟨j,h1,rfl⟩:=jD val i x hx
   exact mv i s s' hi st m hk j (by lia)
 intro d
 induction d with
 |zero =>
  intro i s hd hi st hk H q
  obtain rfl:i=n:=by lia
  refine WN F.entry_set_update_loop ?_
  rw[Ws Yb _]
  show U4 _ A.in1 (pyNext (Value.ref I) >>= _) _ _ s
  refine Uw (W.done s _ _ st fun s' m => ?_)
  exact UD (q s' (m.mono up) (mv i s s' hi st m hk) (yN i s s' hi st m hk H))
 |succ d ih =>
  intro i s hd hi st hk H q
  have lt:i<n:=by lia
  refine WN F.entry_set_update_loop ?_
  rw[Ws Yb _]
  show U4 _ A.in1 (pyNext (Value.ref I) >>= _) _ _ s
  refine Uw (W.item i s _ _ lt st fun v s1 hP xb m => ?_)
  obtain rfl:=NQ i v hP
  have H1:=yN i s s1 hi st m hk H
  have zW:=mv i s s1 hi st m hk
  show U4 _ A.in1 (holding [Value.ref (val i).2] (setAdd S (Value.ref (val i).2)) >>= _) _ _ s1
  refine Uw (Wl ?_)
  unfold setAdd
  refine Wl (Uw (knd.pyHash hr (zW i lt) ?_))
  refine HJ (s:={s1 with toks:=s1.toks+knd.draws (val i).1}) sk hr (zW i lt) H1 (by have:=uM val hi;lia) fun h' r sb H2 => ?_
  obtain⟨oS,eS,epS,tS,gS,dS⟩:=H1.setAt
  have QJ:∀j,j<n→knd.is h' (val j).1 (val j).2:=fun j hj=>sk.kept (zW j hj) gS dS sb
  refine UD ⟨plainId_quiet Yb _,ih (i+1) _ (by lia) lt (W.frame _ s1 _ _ xb (We _ _) fun b hb o e => ?_) QJ H2 fun s2 m2 RT H3 => ?_⟩
  ·rw[sb.2 b (fun z:b=S=>QI (by rw[←z];exact hb))];exact e
  ·refine q s2 (Moved.trans W.gtrans ((m.mono up).then_heap (We _ _) fun b o hb e => ?_) m2) RT H3
   rw[sb.2 b (fun z:b=S=>hb (by rw[z];exact UL))];exact e
end
end Hc.Sx
namespace Hc.Sx
open PySem.SetTable
noncomputable abbrev vS (w:Xx):Bool:=w.params.followText "set-order"
noncomputable abbrev nZ (w:Xx):Obj:={cls:=.type "set",dict:=none,data:=.set #[] 0 (.fresh 0 0 (!vS w))}
section
variable {A:VE}
theorem A8 (x:Uz)(q:Q (.ref s.heap.objs.size) {s with heap:=s.heap.push (nZ w)}):codeAny (Vf prog w) A (.call (.builtin "set.__new__") ⟨[.type "set",x],[]⟩) (wants Q E) s:=by
 refine codeAny_of_tree ?_
 show U4 _ A.in1 (do checkBuiltinCall "set.__new__" ⟨[Value.type "set",x],[]⟩;again (.builtin "set.__new__" ⟨[Value.type "set",x],[]⟩)) _ _ s
 refine Uw (YS (PySem.F.newCall_set_1 x) (UD ⟨plainId_quiet PySem.F.plain_set_new _,WN PySem.F.entry_set_new ?_⟩))
 rw[Ws PySem.F.plain_set_new _]
 unfold Builtin.«set.__new__» Builtin.Frozenset.newClass
 have sb:=sub_set_self
 obtain⟨hp,g,d,tk,os⟩:=s
 dsimp only
 wp_walk
 refine WA (UD ?_)
 dsimp only
 simp only[newObj]
 exact Uw (wpAny_alloc (UD (UD q)))
theorem A9 {t:UY}(R:UQ→Prop)(fill:U4 (Vf prog w) A.in1.in1 (Builtin.«set.__init__» ⟨[.ref s.heap.objs.size,.ref t],[]⟩) (fun fin s'=>∃r,fin=.done (.ret r)∧r=.none∧R s') E {s with heap:=s.heap.push (nZ w)})(q:∀s',R s'→Q (.ref s.heap.objs.size) s'):U4 (Vf prog w) A (call (.type "set") [.ref t]) Q E s:=by
 obtain⟨c0,tl0,mro0⟩:=PySem.F.called_set.mro
 have Up:=PySem.F.called_set.made;have Uq:=PySem.F.called_set.sub
 have Ur:=PySem.F.called_set.notType;have Us:=PySem.F.called_set.canCreate
 have Ut:=PySem.F.typeCall_set_1 (Value.ref t)
 refine wpAny_call (codeAny_of_tree ?_)
 show U4 _ _ (callAny (Value.type "set") _) _ _ _
 refine UD ⟨Code.quiet_builtin _ (by decide +kernel),WN PySem.F.entry_type_call ?_⟩
 rw[Around.under_plain (weight_type_call_type "set" [Value.ref t] []) rfl]
 repeat (any_goals first|assumption|wp_step)
 refine Yz (A8 (Value.ref t) (E:=E) (Q:=fun x s1=>x=.ref s.heap.objs.size∧s1={s with heap:=s.heap.push (nZ w)}) ⟨rfl,rfl⟩) fun r s1 hr => ?_
 cases r with
 |error e=>exact hr
 |ok fl =>
  cases fl with
  |ret ob =>
   obtain⟨rfl,rfl⟩:=hr
   have gS:(s.heap.push (nZ w)).get? s.heap.objs.size=some (nZ w):=UN _ rfl
   have tS:Shared.TypeIs {s with heap:=s.heap.push (nZ w)} (.ref s.heap.objs.size) "set":=⟨_,gS,rfl⟩
   have il:=PySem.F.called_set.init.lookup
   have ib:=PySem.F.called_set.init.bind (Value.ref s.heap.objs.size)
   repeat (any_goals first|assumption|wp_step)
   refine Yz (codeAny_call_builtin (R:=wants (fun r s2=>r=.none∧R s2) E) PySem.F.called_set.init.plain PySem.F.entry_set_init (check_set_init_1 tS ?_)) fun r2 s2 d8 => ?_
   ·exact V3 fill (fun fin s' ⟨r,e,h1,h2⟩=>by subst e;exact⟨h1,h2⟩) (fun e s' h=>h)
   ·cases r2 with
    |error e=>exact d8
    |ok f2 =>
     cases f2 with
     |ret r =>
      obtain⟨rfl,h2⟩:=d8
      repeat (any_goals first|assumption|wp_step)
      exact q _ h2
     |_=>exact d8.elim
  |_=>exact hr.elim
variable {K:Type}[DecidableEq K]{knd:Yv prog w K}
theorem uN {l:UY}{ar:Array Uz}(sk:mV knd)(mono:∀{h h':Xi} {k:K} {a:UY},knd.is h k a→(∀b ar,h.IsTuple b ar→h'.IsTuple b ar)→knd.is h' k a)(hr:knd.room A.in1.in1.in1)(hh:A.handled=none)(hl:s.heap.IsList l ar)(val:Nat→K×UY)(hv:∀(i:Nat) (v:Uz),ar[i]? = some v→v=.ref (val i).2)(hk:∀j,j<ar.size→knd.is s.heap (val j).1 (val j).2)(hb:(eh val ar.size).length+1≤1024)(q:∀(h':Xi) (tk:Nat),j5 knd (vS w) h' s.heap.objs.size (eh val ar.size)→(∀b o,s.heap.get? b=some o→h'.get? b=some o)→Q (.ref s.heap.objs.size) {s with heap:=h',toks:=tk}) :
  U4 (Vf prog w) A (call (.type "set") [.ref l]) Q E s:=by
 refine A9 (fun s'=>∃h' tk,s'={s with heap:=h',toks:=tk}∧j5 knd (vS w) h' s.heap.objs.size (eh val ar.size)∧∀b o,s.heap.get? b=some o→h'.get? b=some o) ?_ fun s' ⟨h',tk,e,h1,h2⟩=>by subst e;exact q h' tk h1 h2
 obtain⟨ot,gt,ct,nt,dt⟩:=hl
 obtain⟨oc,od,oda,os⟩:=ot
 simp only at ct dt
 subst ct;subst dt
 have RU:(s.heap.push (nZ w)).get? l=some {cls:=.type "list",dict:=od,data:=.seq ar nt,slots:=os}:=Uy _ gt
 have gS:(s.heap.push (nZ w)).get? s.heap.objs.size=some (nZ w):=UN _ rfl
 have n1:=PySem.F.sub_list_set;have n2:=PySem.F.sub_list_frozenset
 have n3:(Value.type "list"==Value.type "dict")=false:=by decide
 have L8:(s.heap.push (nZ w)).IsList l ar:=⟨_,RU,rfl,nt,rfl⟩
 unfold Builtin.«set.__init__» noKeywords Builtin.Frozenset.updateFrom
 generalize ePI:pyIter=PI
 wp_walk
 subst ePI
 refine Yi L8 ?_
 refine Uw (wpAny_runValue ?_)
 have lt:l<s.heap.objs.size:=UR gt
 have h3:A.in1.in1.in1.handled=none:=by simp[hh]
 have RV:l≠(s.heap.push (nZ w)).objs.size:=by rw[WE];exact Ve (Ym lt)
 have ni:s.heap.objs.size∉[(s.heap.push (nZ w)).objs.size,l]:=by
  rw[WE];simp only[UU,YF,or_false,not_or]
  exact⟨Ve (Nat.lt_succ_self _),XY lt⟩
 have QK:∀(h:Xi) (o:Obj) b ar,h.IsTuple b ar→(h.push o).IsTuple b ar:=fun h o b ar x=>x.push o
 refine zp (byText:=vS w) sk hr ((Walks.list h3 _ l RV ar).toS) s.heap.objs.size ni val hv hb (fun i u u' _ st m ks j hj => ?_) (ar.size - 0) 0 _ (by lia) (Wy _) ⟨⟨_,UN _ rfl,rfl,rfl⟩,L8.push _⟩ (fun j hj=>mono (hk j hj) fun b i2 x=>QK _ _ _ _ (QK _ _ _ _ x)) ?z0 ?zR
 ·refine mono (ks j hj) fun b i2 ⟨o,e,c,n,d⟩=>⟨o,m.heap b o (fun hm => ?_) e,c,n,d⟩
  rw[U6] at hm
  subst hm
  obtain⟨o2,e2,c2,_⟩:=st.1
  rw[e] at e2;cases e2
  rw[c] at c2
  exact absurd c2 (by decide)
 case z0=>exact A7 (by cases vS w<;>simp) (Uy _ gS)
 case zR =>
  intro s' hm _ IV
  obtain⟨h',g',d',NJ,o'⟩:=s'
  have eg:g'=s.gens:=hm.gens
  have ed:d'=s.drawn:=hm.drawn
  have RW:o'=s.os:=hm.os
  subst eg;subst ed;subst RW
  show U4 _ _ _ _ _ _
  refine UD ?_
  show U4 _ _ (ret Value.none) _ _ _
  refine UD ⟨_,rfl,rfl,h',NJ,rfl,IV,fun b o e => ?_⟩
  have QL:=UR e
  refine hm.heap b o ?_ (Uy _ (Uy _ e))
  rw[WE];simp only[UU,YF,or_false,not_or]
  exact⟨Ve QL,Ve (Ym QL)⟩
end
end Hc.Sx
namespace L2
section
variable {G:Gm}{e:WI}{lP p1:Pos}{b1:Bool}{ga:Ev→R (List U×Ev)}
theorem HK:Vs "set"=some (.type "set"):=by decide +kernel
end
section
variable {G:Gm}
theorem uO {xs:List V}{us:List Uz}(r:aU xs us):∀n:Nat,aU (VT n xs).flatten (VT n us).flatten
 |0=>.nil
 |n+1=>by
  rw[Wf,Wf,Vj,Vj]
  exact r.append (uO r n)
theorem xN {α:Type}(xs:List α)(n:Nat):(VT n xs).flatten.length=xs.length*n:=by
 simp[WH]
theorem xO {H:Hp}{A:UY→Prop}{us:List U}{xs:List V}(r:aG K H A us xs):∀n:Nat,aG K H A (VT n us).flatten (VT n xs).flatten
 |0=>aG.nil
 |n+1=>by
  rw[Wf,Wf,Vj,Vj]
  exact r.append (xO r n)
end
@[irreducible] noncomputable def HL (X:Cx)(G:Gm)(es:List WI)(b p:Bool)(g:Ev→R (List U×Ev)):Prop:=DA X G es b p g
section
variable {G:Gm}{e:WI}{es:List WI}{b1 b2 p:Bool}{m1:Md}{g1:Ev→R (U×Ev)}{ga:Ev→R (List U×Ev)}
theorem Rn (h:HL X G es b1 p ga):DA X G es b1 p ga:=by unfold HL at h;exact h
theorem Ej:HL X G [] false p ak:=by unfold HL;exact af
theorem kS (ha:DE X G e b1 m1 g1)(hr:HL X G es b2 p ga)(hm:m1=.P→(p=true∧b2=false):=by first|exact fun _=>⟨rfl,rfl⟩|exact fun h=>nomatch h)
  (hs:UX (e::es) X.env=(false,Yg e X.env)::UX es X.env:=by rfl):HL X G (e::es) (b1||b2) p (ae g1 ga):=by
 unfold HL at hr ⊢
 exact aa ha hr hm hs
end
end L2
namespace Hc.Zp
noncomputable def gR (l:Bool)(h:Xi)(a:UY)(xs:Array Uz):Prop:=if l=true then h.IsList a xs else h.IsTuple a xs
noncomputable def fy (l:Bool)(h:Xi)(it a:UY)(i:Nat):Prop:=if l=true then h.IsListIter it a i else h.IsTupleIter it a i
noncomputable def zq (l:Bool):String:=if l=true then "list_iterator" else "tuple_iterator"
theorem gR.at {l:Bool}{xs:Array Uz}(x:gR l h a xs)(e:∀o,h.get? a=some o→h'.get? a=some o):gR l h' a xs:=by
 cases l with
 |true=>exact Heap.IsList.at x e
 |false=>exact Heap.IsTuple.at x e
theorem fy.at {l:Bool}(x:fy l h it a i)(e:∀o,h.get? it=some o→h'.get? it=some o):fy l h' it a i:=by
 cases l with
 |true=>exact Heap.IsListIter.at x e
 |false=>exact Heap.IsTupleIter.at x e
theorem fy.obj {l:Bool}(x:fy l h it a i):∃o,h.get? it=some o∧o.data=.fields #[.ref a,.int i 0]∧o.cls=.type (zq l):=by
 cases l with
 |true=>obtain⟨o,e,c,d⟩:=x;exact⟨o,e,d,c⟩
 |false=>obtain⟨o,e,c,d⟩:=x;exact⟨o,e,d,c⟩
section
variable {A:VE}
theorem wA {xs:Array Uz}{x:Uz}(hi:s.heap.IsTupleIter it a i)(ha:s.heap.IsTuple a xs)(hx:xs[i]? = some x)(q:∀h',h'.IsTupleIter it a (i+1)→Xs it s.heap h'→Q x {s with heap:=h'}):U4 (Vf prog w) A (Vv (.ref it)) Q E s:=by
 obtain⟨o,ho,hc,hd⟩:=id hi
 obtain⟨oa,hoa,_,na,hda⟩:=ha
 unfold Vv
 refine Uw (VQ (name:=UO "__next__") hi.typeIs WT (V2 WT hi.typeIs YT ?_ (YK _)))
 show U4 _ _ (field (Value.ref it) 0 >>= _) _ _ s
 refine Uw (Wn ho hd (x:=.ref a) rfl ?_)
 show U4 _ _ (if (Value.ref a==Value.none)=true then _ else _) _ _ s
 rw[if_neg (show ¬((Value.ref a==Value.none)=true) from UG)]
 show U4 _ _ (field (Value.ref it) 1 >>= _) _ _ s
 refine Uw (Wn ho hd (x:=.int i 0) rfl ?_)
 show U4 _ _ (seqItems? (Value.ref a) >>= _) _ _ s
 refine Uw (Xa hoa hda ?_)
 simp only[VX,hx]
 refine Uw (Yx ho hd (by simp) (UD ⟨x,rfl,UD (q _ ⟨_,WX _ ho (YC (W3 hd _)),(Zu ..).trans hc,?_⟩ (Wv ..))⟩))
 rw[W3 hd];simp[rawInt]
theorem zu {xs:Array Uz}(hh:A.handled=none)(hi:s.heap.IsTupleIter it a i)(ha:s.heap.IsTuple a xs)(hx:xs[i]? = none)(q:∀h' e,Heap.ExtBut it s.heap h'→(∃o,h'.get? e=some o∧o.cls=.type "StopIteration")→E (.ref e) {s with heap:=h'}):U4 (Vf prog w) A (Vv (.ref it)) Q E s:=by
 obtain⟨o,ho,hc,hd⟩:=id hi
 obtain⟨oa,hoa,_,na,hda⟩:=ha
 unfold Vv
 refine Uw (VQ (name:=UO "__next__") hi.typeIs WT (V2 WT hi.typeIs YT ?_ (YK _)))
 show U4 _ _ (field (Value.ref it) 0 >>= _) _ _ s
 refine Uw (Wn ho hd (x:=.ref a) rfl ?_)
 show U4 _ _ (if (Value.ref a==Value.none)=true then _ else _) _ _ s
 rw[if_neg (show ¬((Value.ref a==Value.none)=true) from UG)]
 show U4 _ _ (field (Value.ref it) 1 >>= _) _ _ s
 refine Uw (Wn ho hd (x:=.int i 0) rfl ?_)
 show U4 _ _ (seqItems? (Value.ref a) >>= _) _ _ s
 refine Uw (Xa hoa hda ?_)
 simp only[VX,hx]
 refine Uw (Xn (Uw (Yx ho hd (by simp) ?_)))
 show U4 _ _ (newExc (Value.type "StopIteration") [] >>= _) _ _ _
 refine Uw ?_
 simp only[newExc,newTuple]
 refine Uw (VI ?_ (by size_fits))
 refine Uw (m:=Zc _ _) (YS (a:=Value.none) (by first|rfl|(simp only[Zc];rfl)) ?_)
 refine VI ?_ (by size_fits)
 simp only[raiseNew]
 refine Uw (wpAny_handled ?_)
 first|rw[show A.in1.handled=none from hh]|rw[hh]
 exact Uw (UD (wpAny_throw (q _ _ (((Wv ..).extBut.push _).push _) ⟨_,UN _ rfl,rfl⟩)))
theorem mx {l:Bool}{xs:Array Uz}{x:Uz}(hi:fy l s.heap it a i)(ha:gR l s.heap a xs)(hx:xs[i]? = some x)(q:∀h',fy l h' it a (i+1)→Xs it s.heap h'→Q x {s with heap:=h'}):U4 (Vf prog w) A (Vv (.ref it)) Q E s:=by
 cases l with
 |true=>exact wpAny_nextOf_list_item hi ha hx q
 |false=>exact wA hi ha hx q
theorem uP {l:Bool}{xs:Array Uz}(hh:A.handled=none)(hi:fy l s.heap it a i)(ha:gR l s.heap a xs)(hx:xs[i]? = none)(q:∀h' e,Heap.ExtBut it s.heap h'→(∃o,h'.get? e=some o∧o.cls=.type "StopIteration")→E (.ref e) {s with heap:=h'}):U4 (Vf prog w) A (Vv (.ref it)) Q E s:=by
 cases l with
 |true=>exact wpAny_nextOf_list_end hh hi ha hx q
 |false=>exact zu hh hi ha hx q
theorem xP {l:Bool}{xs:Array Uz}(ha:gR l s.heap a xs)(q:Q (.ref s.heap.objs.size) {s with heap:=s.heap.push {cls:=.type (zq l),data:=.fields #[.ref a,.int 0 0]}}):U4 (Vf prog w) A (pyIter (.ref a)) Q E s:=by
 cases l with
 |true=>exact Yi ha q
 |false=>exact wpAny_pyIter_tuple ha q
theorem zv {TI TO:UY}{xs:Array Uz}{x y p:Uz}(D:ZipApart z TI TO i1 i2 a1 a2)(hz:IsZip s.heap z TI TO .none)(I0:XG s.heap TI (.ref i1) (.ref i2))(I_:XG s.heap TO p q)(h1:fy l1 s.heap i1 a1 k)(h2:fy l2 s.heap i2 a2 k)(g1:gR l1 s.heap a1 xs)(g2:gR l2 s.heap a2 ys)(hx:xs[k]? = some x)(hy:ys[k]? = some y)(hQ:∀h',IsZip h' z TI TO (rawInt s.heap.objs.size)→XG h' TO x y→fy l1 h' i1 a1 (k+1)→fy l2 h' i2 a2 (k+1)→XG h' s.heap.objs.size x y→(∀c o,c≠z→c≠TO→c≠i1→c≠i2→s.heap.get? c=some o→h'.get? c=some o)→Q (.ref s.heap.objs.size) {s with heap:=h'}) :
  U4 (Vf prog w) A (Builtin.«zip.__next__» ⟨[.ref z],[]⟩) (fun fin s'=>∃v,fin=.done (.ret v)∧Q v s') E s:=by
 show U4 _ _ (field (Value.ref z) 2 >>= _) _ _ _
 refine Uw (Wn hz rfl (x:=.bool false) rfl ?_)
 show U4 _ _ (field (Value.ref z) 3 >>= _) _ _ _
 refine Uw (Wn hz rfl (x:=.ref TI) rfl (Uw (Xa I0 rfl ?_)))
 show U4 _ _ (Wg (Value.ref z) >>= _) _ _ _
 refine Uw ?_
 unfold Wg
 refine Uw (Wn hz rfl (x:=.none) rfl (UD ?_))
 simp only[if_true]
 refine Uw (Xn (Uw (Wn hz rfl (x:=.ref TO) rfl (Uw (W4 hz (by simp) fun w1 z1 b1 => ?_)))))
 replace z1:IsZip w1 z TI TO .ellipsis:=z1
 refine Uw ?_
 simp only[List.zipIdx_cons,List.zipIdx_nil,X8,List.forIn_nil]
 refine Uw (Uw (wpAny_onRaise ?_))
 show U4 _ _ (Vv (Value.ref i1) >>= _) _ _ _
 refine Uw (mx (h1.at fun o e=>b1.extBut _ _ D.i1z e) (g1.at fun o e=>b1.extBut _ _ D.l1z e) hx fun w2 n2 b2=>UD ?_)
 have t2:XG w2 TO p q:=b2.extBut _ _ D.TOi1 (b1.extBut _ _ D.TOz I_)
 refine Uw (Xa t2 rfl (Uw (YI t2 fun w3 t3 b3 => ?_)))
 replace t3:XG w3 TO x q:=t3
 refine Uw (wpAny_letGo (UD ?_))
 refine Uw (Uw (wpAny_onRaise ?_))
 show U4 _ _ (Vv (Value.ref i2) >>= _) _ _ _
 refine Uw (mx (h2.at fun o e=>b3.extBut _ _ D.TOi2.symm (b2.extBut _ _ D.i12.symm (b1.extBut _ _ D.i2z e))) (g2.at fun o e=>b3.extBut _ _ D.l2TO (b2.extBut _ _ D.l2i1 (b1.extBut _ _ D.l2z e))) hy fun w4 n4 b4=>UD ?_)
 have t4:XG w4 TO x q:=b4.extBut _ _ D.TOi2 t3
 refine Uw (Xa t4 rfl (Uw (YI t4 fun w5 t5 b5 => ?_)))
 replace t5:XG w5 TO x y:=t5
 refine Uw (wpAny_letGo (UD (UD ?_)))
 refine Uw (Xa t5 rfl (Uw (wpAny_newTuple ?_)))
 have sz:w5.objs.size=s.heap.objs.size:=by rw[b5.1,b4.1,b3.1,b2.1,b1.1]
 have z5:IsZip w5 z TI TO .ellipsis:=b5.extBut _ _ D.TOz.symm (b4.extBut _ _ D.i2z.symm (b3.extBut _ _ D.TOz.symm (b2.extBut _ _ D.i1z.symm z1)))
 have kp:∀c o,c≠z→c≠TO→c≠i1→c≠i2→s.heap.get? c=some o→w5.get? c=some o:=fun c o c1 c2 c3 c4 e=>b5.extBut _ _ c2 (b4.extBut _ _ c4 (b3.extBut _ _ c2 (b2.extBut _ _ c3 (b1.extBut _ _ c1 e))))
 have n5:fy l1 w5 i1 a1 (k+1):=n2.at fun o e=>b5.extBut _ _ D.TOi1.symm (b4.extBut _ _ D.i12 (b3.extBut _ _ D.TOi1.symm e))
 have m5:fy l2 w5 i2 a2 (k+1):=n4.at fun o e=>b5.extBut _ _ D.TOi2.symm e
 have lz:z<w5.objs.size:=UR z5
 show U4 _ _ (XO (Value.ref z) (Value.ref w5.objs.size) >>= _) _ _ _
 refine Uw ?_
 unfold XO
 have z6:IsZip (w5.push {cls:=.type "tuple",data:=.seq #[x,y]}) z TI TO .ellipsis:=Uy _ z5
 refine Uw (W4 z6 (by simp) fun w7 z7 b7 => ?_)
 replace z7:IsZip w7 z TI TO (rawInt w5.objs.size):=z7
 refine W4 z7 (by simp) fun w8 z8 b8 => ?_
 replace z8:IsZip w8 z TI TO (rawInt w5.objs.size):=z8
 have up:∀c o,c≠z→w5.get? c=some o→w8.get? c=some o:=fun c o c1 e=>b8.extBut _ _ c1 (b7.extBut _ _ c1 (Uy _ e))
 have t8:XG w8 w5.objs.size x y:=b8.extBut _ _ (XY lz) (b7.extBut _ _ (XY lz) (UN _ rfl))
 rw[sz] at z8 t8
 refine UD ⟨_,rfl,?_⟩
 show Q (.ref w5.objs.size) _
 rw[sz]
 exact hQ w8 z8 (up _ _ D.TOz t5) (n5.at fun o e=>up _ o D.i1z e) (m5.at fun o e=>up _ o D.i2z e) t8 fun c o c1 c2 c3 c4 e=>up c o c1 (kp c o c1 c2 c3 c4 e)
theorem A_ {TI TO:UY}{xs:Array Uz}{p:Uz}{Q:Fin→UQ→Prop}(hh:A.handled=none)(D:ZipApart z TI TO i1 i2 a1 a2)(hz:IsZip s.heap z TI TO .none)(I0:XG s.heap TI (.ref i1) (.ref i2))(I_:XG s.heap TO p q)(h1:fy l1 s.heap i1 a1 k)(h2:fy l2 s.heap i2 a2 k)(g1:gR l1 s.heap a1 xs)(g2:gR l2 s.heap a2 ys)(Ja:xs[k]? = none∨ys[k]? = none)(hE:∀h' e,(∀c o,c≠z→c≠TO→c≠i1→c≠i2→s.heap.get? c=some o→h'.get? c=some o)→(∃o,h'.get? e=some o∧o.cls=.type "StopIteration")→E (.ref e) {s with heap:=h'}) :
  U4 (Vf prog w) A (Builtin.«zip.__next__» ⟨[.ref z],[]⟩) Q E s:=by
 show U4 _ _ (field (Value.ref z) 2 >>= _) _ _ _
 refine Uw (Wn hz rfl (x:=.bool false) rfl ?_)
 show U4 _ _ (field (Value.ref z) 3 >>= _) _ _ _
 refine Uw (Wn hz rfl (x:=.ref TI) rfl (Uw (Xa I0 rfl ?_)))
 show U4 _ _ (Wg (Value.ref z) >>= _) _ _ _
 refine Uw ?_
 unfold Wg
 refine Uw (Wn hz rfl (x:=.none) rfl (UD ?_))
 simp only[if_true]
 refine Uw (Xn (Uw (Wn hz rfl (x:=.ref TO) rfl (Uw (W4 hz (by simp) fun w1 z1 b1 => ?_)))))
 replace z1:IsZip w1 z TI TO .ellipsis:=z1
 refine Uw ?_
 simp only[List.zipIdx_cons,List.zipIdx_nil,X8,List.forIn_nil]
 refine Uw (Uw (wpAny_onRaise ?_))
 show U4 _ _ (Vv (Value.ref i1) >>= _) _ _ _
 cases hx:xs[k]? with
 |none =>
  refine Uw (uP hh (h1.at fun o e=>b1.extBut _ _ D.i1z e) (g1.at fun o e=>b1.extBut _ _ D.l1z e) hx fun w2 e b2 he => ?_)
  obtain⟨oe,hoe,hce⟩:=he
  have z2:IsZip w2 z TI TO .ellipsis:=b2 _ _ D.i1z.symm z1
  have nz:e≠z:=fun x=>by subst x;rw[z2] at hoe;cases hoe;simp at hce
  exact W4 z2 (by simp) fun w3 _ b3=>hE w3 e (fun c o c1 _ c3 _ x=>b3.extBut _ _ c1 (b2 _ _ c3 (b1.extBut _ _ c1 x))) ⟨oe,b3.extBut _ _ nz hoe,hce⟩
 |some x =>
  have hy:ys[k]? = none:=by rcases Ja with h|h;rw[hx] at h;cases h;exact h
  refine Uw (mx (h1.at fun o e=>b1.extBut _ _ D.i1z e) (g1.at fun o e=>b1.extBut _ _ D.l1z e) hx fun w2 n2 b2=>UD ?_)
  have t2:XG w2 TO p q:=b2.extBut _ _ D.TOi1 (b1.extBut _ _ D.TOz I_)
  refine Uw (Xa t2 rfl (Uw (YI t2 fun w3 t3 b3 => ?_)))
  refine Uw (wpAny_letGo (UD ?_))
  refine Uw (Uw (wpAny_onRaise ?_))
  show U4 _ _ (Vv (Value.ref i2) >>= _) _ _ _
  refine Uw (uP hh (h2.at fun o e=>b3.extBut _ _ D.TOi2.symm (b2.extBut _ _ D.i12.symm (b1.extBut _ _ D.i2z e))) (g2.at fun o e=>b3.extBut _ _ D.l2TO (b2.extBut _ _ D.l2i1 (b1.extBut _ _ D.l2z e))) hy fun w4 e b4 he => ?_)
  obtain⟨oe,hoe,hce⟩:=he
  have z4:IsZip w4 z TI TO .ellipsis:=b4 _ _ D.i2z.symm (b3.extBut _ _ D.TOz.symm (b2.extBut _ _ D.i1z.symm z1))
  have nz:e≠z:=fun x=>by subst x;rw[z4] at hoe;cases hoe;simp at hce
  exact W4 z4 (by simp) fun w5 _ b5=>hE w5 e (fun c o c1 c2 c3 c4 x=>b5.extBut _ _ c1 (b4 _ _ c4 (b3.extBut _ _ c2 (b2.extBut _ _ c3 (b1.extBut _ _ c1 x))))) ⟨oe,b5.extBut _ _ nz hoe,hce⟩
theorem zw {TI TO:UY}{xs:Array Uz}{x y p:Uz}{Q:Option Uz→UQ→Prop}(D:ZipApart z TI TO i1 i2 a1 a2)(hz:IsZip s.heap z TI TO .none)(I0:XG s.heap TI (.ref i1) (.ref i2))(I_:XG s.heap TO p q)(h1:fy l1 s.heap i1 a1 k)(h2:fy l2 s.heap i2 a2 k)(g1:gR l1 s.heap a1 xs)(g2:gR l2 s.heap a2 ys)(hx:xs[k]? = some x)(hy:ys[k]? = some y)(hQ:∀h',IsZip h' z TI TO (rawInt s.heap.objs.size)→XG h' TO x y→fy l1 h' i1 a1 (k+1)→fy l2 h' i2 a2 (k+1)→XG h' s.heap.objs.size x y→(∀c o,c≠z→c≠TO→c≠i1→c≠i2→s.heap.get? c=some o→h'.get? c=some o)→Q (some (.ref s.heap.objs.size)) {s with heap:=h'}) :
  U4 (Vf prog w) A (pyNext (.ref z)) Q E s:=by
 have hT:s.TypeIs (.ref z) "zip":=⟨_,hz,rfl⟩
 unfold pyNext
 exact Uw (Yc (VQ (name:=UO "__next__") hT YU (V2 YU hT F.entry_zip_next (zv D hz I0 I_ h1 h2 g1 g2 hx hy fun h' c1 c2 c3 c4 c5 c6=>UD (hQ h' c1 c2 c3 c4 c5 c6)) (F.args_zip_next_1 _))))
theorem zx {TI TO:UY}{xs:Array Uz}{p:Uz}{Q:Option Uz→UQ→Prop}(hh:A.handled=none)(D:ZipApart z TI TO i1 i2 a1 a2)(hz:IsZip s.heap z TI TO .none)(I0:XG s.heap TI (.ref i1) (.ref i2))(I_:XG s.heap TO p q)(h1:fy l1 s.heap i1 a1 k)(h2:fy l2 s.heap i2 a2 k)(g1:gR l1 s.heap a1 xs)(g2:gR l2 s.heap a2 ys)(Ja:xs[k]? = none∨ys[k]? = none)(hQ:∀h',(∀c o,c≠z→c≠TO→c≠i1→c≠i2→s.heap.get? c=some o→h'.get? c=some o)→Q none {s with heap:=h'}):U4 (Vf prog w) A (pyNext (.ref z)) Q E s:=by
 have hT:s.TypeIs (.ref z) "zip":=⟨_,hz,rfl⟩
 unfold pyNext
 refine Uw (Yc (VQ (name:=UO "__next__") hT YU (V2 YU hT F.entry_zip_next (A_ hh D hz I0 I_ h1 h2 g1 g2 Ja fun h' e hk ⟨o,ho,hc⟩ => ?_) (F.args_zip_next_1 _))))
 exact Uw (wpAny_isInstance (T:="StopIteration") (b:=true) ⟨o,ho,hc⟩ isSubtype_stop (UD (hQ _ hk)))
end
noncomputable abbrev LP (l1:Bool)(h:Xi)(a1:UY):Xi:=h.push {cls:=.type (zq l1),data:=.fields #[.ref a1,.int 0 0]}
noncomputable abbrev LQ (l1 l2:Bool)(h:Xi)(a1 a2:UY):Xi:=(LP l1 h a1).push {cls:=.type (zq l2),data:=.fields #[.ref a2,.int 0 0]}
noncomputable abbrev LS (l1 l2:Bool)(h:Xi)(a1 a2:UY):Xi:=(LQ l1 l2 h a1 a2).push {cls:=.type "tuple",data:=.seq #[.ref h.objs.size,.ref (LP l1 h a1).objs.size]}
noncomputable abbrev LU (l1 l2:Bool)(h:Xi)(a1 a2:UY):Xi:=(LS l1 l2 h a1 a2).push {cls:=.type "tuple",data:=.seq #[.none,.none]}
noncomputable abbrev Jh (l1 l2:Bool)(h:Xi)(a1 a2:UY):Xi:=(LU l1 l2 h a1 a2).push {cls:=.type "zip",data:=.fields #[.none,.bool false,.bool false,.ref (LQ l1 l2 h a1 a2).objs.size,.ref (LS l1 l2 h a1 a2).objs.size]}
theorem Ba (l1 l2:Bool)(a1 a2:UY)(xs ys:Array Uz):Meets (Builtin.«zip.__new__» ⟨[.type "zip",.ref a1,.ref a2],[]⟩) (fun _ R s=>gR l1 s.heap a1 xs∧gR l2 s.heap a2 ys∧R (.ok (.ret (.ref (LU l1 l2 s.heap a1 a2).objs.size))) {s with heap:=Jh l1 l2 s.heap a1 a2}) :=
 .of_wp fun prog w A R s h=>by
  obtain⟨hp,g,d,tk,os⟩:=s;obtain⟨g1,g2,h⟩:=h
  have sb:=sub_zip
  have q1:gR l1 (Shared.heap ⟨hp,g,d,tk,os⟩) a1 xs:=g1
  have q2:gR l2 (Shared.heap ⟨hp.push {cls:=.type (zq l1),data:=.fields #[.ref a1,.int 0 0]},g,d,tk,os⟩) a2 ys:=g2.at fun o e=>Uy _ e
  wp_walk using xP q1,xP q2
  exact⟨_,rfl,h⟩
section
variable {A:VE}
theorem zy {xs:Array Uz}(g1:gR l1 s.heap a1 xs)(g2:gR l2 s.heap a2 ys)(h:∀h',IsZip h' (s.heap.objs.size+4) (s.heap.objs.size+2) (s.heap.objs.size+3) .none→XG h' (s.heap.objs.size+2) (.ref s.heap.objs.size) (.ref (s.heap.objs.size+1))→XG h' (s.heap.objs.size+3) .none .none →
   fy l1 h' s.heap.objs.size a1 0→fy l2 h' (s.heap.objs.size+1) a2 0→(∀c o,s.heap.get? c=some o→h'.get? c=some o)→Q (.ref (s.heap.objs.size+4)) {s with heap:=h'}):U4 (Vf prog w) A (call (.type "zip") [.ref a1,.ref a2]) Q E s:=by
 refine callType_new F.called_zip (by decide) (F.typeCall_zip_2 _ _) (F.newCall_zip_2 _ _) (fun obj=>F.args_object_init_3 obj _ _) F.entry_zip_new (Ba l1 l2 a1 a2 xs ys) ⟨g1,g2,?_⟩
 have z1:(LP l1 s.heap a1).objs.size=s.heap.objs.size+1:=WE ..
 have z2:(LQ l1 l2 s.heap a1 a2).objs.size=s.heap.objs.size+2:=by rw[WE,z1]
 have z3:(LS l1 l2 s.heap a1 a2).objs.size=s.heap.objs.size+3:=by rw[WE,z2]
 have z4:(LU l1 l2 s.heap a1 a2).objs.size=s.heap.objs.size+4:=by rw[WE,z3]
 have e5:(Jh l1 l2 s.heap a1 a2).get? (LU l1 l2 s.heap a1 a2).objs.size=some _:=UN _ rfl
 have e4:(Jh l1 l2 s.heap a1 a2).get? (LS l1 l2 s.heap a1 a2).objs.size=some _:=Uy _ (UN _ rfl)
 have e3:(Jh l1 l2 s.heap a1 a2).get? (LQ l1 l2 s.heap a1 a2).objs.size=some _:=Uy _ (Uy _ (UN _ rfl))
 have e2:(Jh l1 l2 s.heap a1 a2).get? (LP l1 s.heap a1).objs.size=some _:=Uy _ (Uy _ (Uy _ (UN _ rfl)))
 have e1:(Jh l1 l2 s.heap a1 a2).get? s.heap.objs.size=some _:=Uy _ (Uy _ (Uy _ (Uy _ (UN _ rfl))))
 show _∧_
 rw[z2,z3,z4] at e5
 rw[z1,z2] at e3
 rw[z3] at e4
 rw[z1] at e2
 rw[z4]
 have mk:∀(l:Bool) (hp:Xi) (it a:UY) (_:hp.get? it=some {cls:=.type (zq l),data:=.fields #[.ref a,.int 0 0]}),fy l hp it a 0:=fun l hp it a e=>by
  cases l with
  |true=>exact⟨_,e,rfl,rfl⟩
  |false=>exact⟨_,e,rfl,rfl⟩
 exact⟨⟨_,e5,rfl⟩,h _ e5 e3 e4 (mk l1 _ _ _ e1) (mk l2 _ _ _ e2) fun c o x=>Uy _ (Uy _ (Uy _ (Uy _ (Uy _ x))))⟩
end
end Hc.Zp
namespace L2
open Hc.Zp
section
variable {T:UY}{o:HO}
theorem aF.turnNew {t':Nat}(I:aF X pins σ H s)(hf:∀b∈fp,nU X pins H b)(k:∀b o,b∉fp→s.heap.get? b=some o→h'.get? b=some o)(hT:s.heap.objs.size≤T)(new:cU X.prog X.w (eB H T o) h' T o) :
  aF X pins σ (eB H T o) {s with heap:=h',toks:=t'}:=by
 have hn:H T=none:=I.hok.fresh hT
 have nf:∀b u,H b=some u→b∉fp:=fun b u e z=>by rw[(hf b z).1] at e;cases e
 have nT:∀b u,H b=some u→b≠T:=fun b u e z=>by rw[z,hn] at e;cases e
 refine I.step (g':=s.gens) (d':=s.drawn) (ch:=fp) (fun b hb => ?_) (fun b o _ _ hc e _=>k b o hc e) (fun b o _ _ hc e _=>⟨o.slots,k b o hc e⟩) (fun b o _ e n => ?_) (fun b o hc e=>⟨o,k b o hc e⟩)
  (fun b xs e => ?_) (fun b o u e => ?_) (fun b ps e=>⟨#[],?_⟩) (fun m hm => ?_) (fun b u e => ?_) I.bare
 ·obtain⟨f0,f1,f2,f3,f4,f5⟩:=hf b hb
  exact⟨f3,f1,f4,f5⟩
 ·rw[bh (Ve (Vo (UR e) hT))];exact n
 ·rw[bh (nT b _ e)];exact e
 ·rw[bh (nT b _ e)];exact e
 ·rw[bh (nT b _ e),e];simp
 ·obtain⟨o,es,ep,ho,r⟩:=hm
  exact⟨o,es,ep,k _ o (fun z=>(hf _ z).2.1 rfl) ho,r⟩
 ·by_cases c:b=T
  ·subst c;rw[cC] at e;cases e;exact new
  ·rw[bh c] at e
   refine (I.hok b u e).stay (fun c v hc q=>k c v ?_ q) (fun c q=>by rw[bh (nT c _ q)];exact q) fun c xs q=>by rw[bh (nT c _ q)];exact q
   rcases hc with z|z
   ·rw[z];exact nf b u e
   ·exact nf c _ z
theorem aF.turneds {t':Nat}(I:aF X pins σ H s)(hf:∀b∈fp,nU X pins H b)(k:∀b o,b∉fp→s.heap.get? b=some o→h'.get? b=some o):aF X pins σ H {s with heap:=h',toks:=t'}:=by
 have nf:∀b u,H b=some u→b∉fp:=fun b u e z=>by rw[(hf b z).1] at e;cases e
 refine I.step (g':=s.gens) (d':=s.drawn) (ch:=fp) (fun b hb => ?_) (fun b o _ _ hc e _=>k b o hc e) (fun b o _ _ hc e _=>⟨o.slots,k b o hc e⟩) (fun b o _ e n=>n) (fun b o hc e=>⟨o,k b o hc e⟩)
  (fun b xs e=>e) (fun b o u e=>e) (fun b ps e=>⟨#[],by rw[e];simp⟩) (fun m hm => ?_) (fun b u e => ?_) I.bare
 ·obtain⟨f0,f1,f2,f3,f4,f5⟩:=hf b hb
  exact⟨f3,f1,f4,f5⟩
 ·obtain⟨o,es,ep,ho,r⟩:=hm
  exact⟨o,es,ep,k _ o (fun z=>(hf _ z).2.1 rfl) ho,r⟩
 ·refine (I.hok b u e).stay (fun c v hc q=>k c v ?_ q) (fun _ q=>q) fun _ _ q=>q
  rcases hc with z|z
  ·rw[z];exact nf b u e
  ·exact nf c _ z
noncomputable def zz (l:Bool)(K:UB)(H:Hp)(a:UY)(xs:List V):Prop:=if l=true then fq K H a xs else gT K H a xs
theorem aF.sq {l:Bool}(I:aF X pins σ H s)(q:zz l X.K H a xs):∃ar,aU xs ar∧gR l s.heap a ar.toArray:=by
 cases l with
 |true=>obtain⟨ar,rv,p,_⟩:=I.list q;exact⟨ar,rv,p.isList⟩
 |false=>obtain⟨ar,rv,p,_⟩:=I.tuple q;exact⟨ar,rv,p⟩
theorem aF.sq_inj {l:Bool}{ys:List V}(I:aF X pins σ H s)(q:zz l X.K H a xs)(q':zz l X.K H a ys):xs=ys:=by
 cases l with
 |true=>exact I.list_inj q q'
 |false=>exact I.tuple_inj q q'
end
noncomputable def Qb (K:UB)(l1 l2:Bool)(a1 a2:UY):It :=
  ⟨fun i H=>∃xs ys x y,zz l1 K H a1 xs∧zz l2 K H a2 ys∧xs[i]? = some x∧ys[i]? = some y,
   fun i H v H'=>∃T x y,v=.ref T∧H T=none∧H'=eB H T (.tup [x,y])∧(∀xs,zz l1 K H a1 xs→xs[i]? = some x)∧(∀ys,zz l2 K H a2 ys→ys[i]? = some y),
   fun i H=>∃xs ys,zz l1 K H a1 xs∧zz l2 K H a2 ys∧(xs.length≤i∨ys.length≤i)⟩
theorem Bb {CW:List WI}{kt:Nat}{tp:Pos}{TI TO:UY}(D:ZipApart z TI TO i1 i2 a1 a2) :
  yQ P w K (.Tuple CW kt tp) (Qb K l1 l2 a1 a2) [z,TI,TO,i1,i2] z (fun i h=>IsZip h z TI TO .none∧XG h TI (.ref i1) (.ref i2)∧(∃p q,XG h TO p q)∧fy l1 h i1 a1 i∧fy l2 h i2 a2 i) where
 mem:=by simp
 obj:=fun i h ⟨hz,hI,⟨p,q,hO⟩,h1,h2⟩ b hb=>by
  obtain⟨o1,e1,d1,_⟩:=h1.obj
  obtain⟨o2,e2,d2,_⟩:=h2.obj
  simp only[UU,Wz,or_false] at hb
  rcases hb with rfl|rfl|rfl|rfl|rfl
  ·exact⟨_,hz,fun v e=>by cases e⟩
  ·exact⟨_,hI,fun v e=>by cases e⟩
  ·exact⟨_,hO,fun v e=>by cases e⟩
  ·exact⟨o1,e1,fun v e=>by rw[d1] at e;cases e⟩
  ·exact⟨o2,e2,fun v e=>by rw[d2] at e;cases e⟩
 keep:=fun i h h' ⟨hz,hI,⟨p,q,hO⟩,h1,h2⟩ k=>⟨k z (by simp) _ hz,k TI (by simp) _ hI,⟨p,q,k TO (by simp) _ hO⟩,h1.at fun o e=>k i1 (by simp) o e,h2.at fun o e=>k i2 (by simp) o e⟩
 item:=by
  intro X hP hw hK hc i pins s σ H E I hf st hg
  subst hP hw hK
  obtain⟨hz,hI,⟨p,q,hO⟩,h1,h2⟩:=st
  obtain⟨xs,ys,x,y,q1,q2,hx,hy⟩:=hg
  obtain⟨is1,v1,g1⟩:=I.sq q1
  obtain⟨is2,v2,g2⟩:=I.sq q2
  obtain⟨u1,ky,r1⟩:=v1.get hx
  obtain⟨u2,hu2,r2⟩:=v2.get hy
  obtain⟨o1,e1,_,_⟩:=h1.obj
  obtain⟨o2,e2,_,_⟩:=h2.obj
  have lz:=UR hz;have lI:=UR hI;have lO:=UR hO;have NR:=UR e1;have NS:=UR e2
  refine zw D hz hI hO h1 h2 g1 g2 (x:=u1) (y:=u2) (by simpa using ky) (by simpa using hu2) fun h' c1 c2 c3 c4 c5 kp=>⟨_,rfl,?_⟩
  refine wpAny_letOwnedTupleGo_zip c1 fun Jq z2 sb => ?_
  have IY:XG Jq s.heap.objs.size u1 u2:=sb.extBut _ _ (XY lz) c5
  have RX:∀b o,b∉[z,TI,TO,i1,i2]→s.heap.get? b=some o→Jq.get? b=some o:=fun b o hb e=>by
   simp only[UU,Wz,or_false,not_or] at hb
   exact sb.extBut _ _ hb.1 (kp b o hb.1 hb.2.2.1 hb.2.2.2.1 hb.2.2.2.2 e)
  have I2:aF X pins σ (eB H s.heap.objs.size (.tup [x,y])) {s with heap:=Jq}:=I.turnNew (t':=s.toks) hf RX (UK _) ⟨by rw[W7];simp,[u1,u2],.cons r1 (.cons r2 .nil),⟨_,IY,rfl,_,rfl⟩,_,IY⟩
  have fr:H s.heap.objs.size=none:=I.hok.fresh (UK _)
  refine⟨.ref s.heap.objs.size,_,I2,rfl,⟨_,x,y,rfl,fr,rfl,fun zs hq=>by rw[I.sq_inj hq q1];exact hx,fun zs hq=>by rw[I.sq_inj hq q2];exact hy⟩,⟨z2,?_,⟨u1,u2,?_⟩,?_,?_⟩,fun b hb => ?_⟩
  ·exact sb.extBut _ _ D.TIz (kp _ _ D.TIz D.TITO D.TIi1 D.TIi2 hI)
  ·exact sb.extBut _ _ D.TOz c2
  ·exact c3.at fun o e=>sb.extBut _ _ D.i1z e
  ·exact c4.at fun o e=>sb.extBut _ _ D.i2z e
  ·have hn:b≠s.heap.objs.size:=by
    simp only[UU,Wz,or_false] at hb
    rcases hb with rfl|rfl|rfl|rfl|rfl
    ·exact Ve lz
    ·exact Ve lI
    ·exact Ve lO
    ·exact Ve NR
    ·exact Ve NS
   rw[bh hn];exact (hf b hb).1
 done:=by
  intro X hP hw hK hc i pins s σ H E I hf st hg
  subst hP hw hK
  obtain⟨hz,hI,⟨p,q,hO⟩,h1,h2⟩:=st
  obtain⟨xs,ys,q1,q2,he⟩:=hg
  obtain⟨is1,v1,g1⟩:=I.sq q1
  obtain⟨is2,v2,g2⟩:=I.sq q2
  have n1:=v1.length;have n2:=v2.length
  refine zx (I.ok.hd hc) D hz hI hO h1 h2 g1 g2 (by
   rcases he with he|he
   ·exact .inl (by simp;lia)
   ·exact .inr (by simp;lia)) fun h' kp=>⟨rfl,I.turneds (t':=s.toks) hf fun b o hb e => ?_⟩
  simp only[UU,Wz,or_false,not_or] at hb
  exact kp b o hb.1 hb.2.2.1 hb.2.2.2.1 hb.2.2.2.2 e
 self:=fun _ _ _ _ _ st h=>wpAny_pyIter_zip st.1 h
section
variable {CW:List WI}{kt:Nat}{tp p:Pos}{a b:WI}
theorem HM:Vs "zip"=some (.type "zip"):=by decide +kernel
noncomputable def M6 (K:UB)(ta:TA):TI:=fun σ H R=>ta σ H fun vs H1=>∃l1 l2 a1 a2 xs ys,vs=[.ref a1,.ref a2]∧zz l1 K H1 a1 xs∧zz l2 K H1 a2 ys∧R (Qb K l1 l2 a1 a2) H1
theorem HN {ta:TA}(hg:Gl X "zip")(hm:X.mg "zip"=none)(ha:PA X [a,b] ta)(hs:UX [a,b] X.env=[(false,Yg a X.env),(false,Yg b X.env)]:=by rfl)(bE:UX [b] X.env=[(false,Yg b X.env)]:=by rfl) :
  PI X (.Tuple CW kt tp) (.Call (.Name "zip" p) [a,b] [] pos) (M6 X.K ta):=by
 intro pins s σ H R I h
 refine Call_ (oK I hg hm HM (Xt (e_ (ha pos pins s σ H _ I h) fun us s1 ⟨vs,H1,I1,r1,q1⟩ => ?_) (by rw[hs,bE]) (by rw[bE];rfl)))
 obtain⟨l1,l2,a1,a2,xs,ys,rfl,g1,g2,q⟩:=q1
 cases r1 with
 |cons r rr =>
  cases rr with
  |cons r' rr =>
   cases rr
   cases r
   cases r'
   obtain⟨is1,v1,m1⟩:=I1.sq g1
   obtain⟨is2,v2,m2⟩:=I1.sq g2
   have lt:∀(l:Bool) (c:UY) (zs:Array Uz),gR l s1.heap c zs→c<s1.heap.objs.size:=fun l c zs hq=>by
    cases l with
    |true=>obtain⟨_,e,_⟩:=hq;exact UR e
    |false=>obtain⟨_,e,_⟩:=hq;exact UR e
   refine zy m1 m2 fun h' z1 z2 z3 z4 z5 kp=>wpAny_pyIter_zip z1 ?_
   refine⟨_,[s1.heap.objs.size+4,s1.heap.objs.size+2,s1.heap.objs.size+3,s1.heap.objs.size,s1.heap.objs.size+1],_,_,H1,rfl,I1.kept (t':=s1.toks) fun b o e=>kp b o e,Bb (zipApart_new (lt l1 a1 _ m1) (lt l2 a2 _ m2)),⟨z1,z2,⟨_,_,z3⟩,z4,z5⟩,fun b hb => ?_,q⟩
   have hb:s1.heap.objs.size≤b:=by
    simp only[UU,Wz,or_false] at hb
    rcases hb with rfl|rfl|rfl|rfl|rfl
    ·exact We _ _
    ·exact We _ _
    ·exact We _ _
    ·exact UK _
    ·exact We _ _
   exact I1.fpOk hb (I1.hok.fresh hb)
end
noncomputable def Ek:U→Option (List U)
 | .lst us=>some us
 | .tup us=>some us
 |_=>none
noncomputable def HP (ga:Ev→R (List U×Ev)):Ev→R (List U×Ev):=fun ρ=>(ga ρ).bind fun x=>match x.1 with
 | [u,w]=>match Ek u,Ek w with
  |some us,some ws=>.ok (List.zipWith (fun a b=>.tup [a,b]) us ws,x.2)
  |_,_=>.stk
 |_=>.stk
section
variable {G:Gm}{CW:List WI}{kt:Nat}{tp p1:Pos}{a b:WI}{b1:Bool}{ga:Ev→R (List U×Ev)}
theorem Bc (e:Ek u=some us)(h:Rp K H A u v):∃l a xs,v=.ref a∧us.length≤UA∧aG K H A us xs∧zz l K H a xs∧∀H',ff A H H'→(∀b,A b→Mu (H b))→zz l K H' a xs:=by
 unfold Ek at e
 split at e
 rotate_right
 ·cases e
 rotate_left
 ·cases e
  unfold Rp at h
  obtain⟨a,xs,rfl,q,l,z⟩:=h
  exact⟨false,a,xs,rfl,l,z,gT.of q,fun H' x mu=>gT.of (x a _ (fun y=>by have:=mu a y;rw[q] at this;exact this) q)⟩
 ·cases e
  unfold Rp at h
  obtain⟨a,xs,rfl,na,q,l,z⟩:=h
  exact⟨true,a,xs,rfl,l,z,fq.of q,fun H' x mu=>fq.of (x a _ na q)⟩
theorem HQ (ha:DA X G [a,b] b1 false ga)(hm:X.mg "zip"=none)(hg:Gl X "zip":=by rfl)(hs:UX [a,b] X.env=[(false,Yg a X.env),(false,Yg b X.env)]:=by rfl)(bE:UX [b] X.env=[(false,Yg b X.env)]:=by rfl) :
  DI X G (.Tuple CW kt tp) (.Call (.Name "zip" p1) [a,b] [] pos) b1 false (HP ga):=⟨(HN hg hm ha.un hs bE).to fun σ H RR h00=>by
 obtain⟨Z,A,ρ,q,f⟩:=h00
 unfold HP at f
 cases e1:ga ρ with
 |stk=>rw[e1] at f;exact f.elim
 |exc=>rw[e1] at f;exact f.elim
 |ok y =>
  obtain⟨us,ρ1⟩:=y
  rw[e1] at f
  dsimp only[L2.R.bind] at f
  refine⟨Z,A,ρ,q,?_⟩
  rw[e1]
  intro vs H1 q1 x1 s1 vm
  split at f
  ·rename_i RN ρ' e2
   split at e2
   ·rename_i u w'
    split at e2
    ·rename_i as bs ea eb
     cases e2
     have r:=vm.rps
     unfold aG at r
     obtain⟨v,vr,rfl,r1,r2⟩:=r
     unfold aG at r2
     obtain⟨v',vr',rfl,r3,r4⟩:=r2
     unfold aG at r4
     subst r4
     obtain⟨l1,a1,xs,rfl,n1,z1,k1,xb⟩:=Bc ea r1
     obtain⟨l2,a2,ys,rfl,n2,z2,k2,jI⟩:=Bc eb r3
     refine⟨l1,l2,a1,a2,xs,ys,rfl,k1,k2,f _ H1 q1 x1 s1 ⟨?_,fun H2 A' hx xf => ?_⟩⟩
     ·rw[List.length_zipWith];exact VC (Nat.min_le_left _ _) n1
     ·rw[if_neg UG] at hx
      have NT:=xb H2 hx q1.mu
      have NU:=jI H2 hx q1.mu
      have w1:=z1.re q1.mu hx xf
      have w2:=z2.re q1.mu hx xf
      refine⟨fun i u hu => ?_,⟨xs,ys,NT,NU,?_⟩⟩
      ·rw[List.getElem?_zipWith] at hu
       cases hA:as[i]? with
       |none=>rw[hA] at hu;cases hu
       |some ua=>cases hB:bs[i]? with
        |none=>rw[hA,hB] at hu;cases hu
        |some ub =>
         rw[hA,hB] at hu
         cases hu
         obtain⟨x,hx1,px⟩:=w1.get hA
         obtain⟨y,hy1,py⟩:=w2.get hB
         refine⟨⟨xs,ys,x,y,NT,NU,hx1,hy1⟩,fun x' H' yl => ?_⟩
         obtain⟨T,x2,y2,rfl,hT,rfl,g1,g2⟩:=yl
         have ex:x2=x:=by have:=g1 xs NT;rw[hx1] at this;cases this;rfl
         have ey:y2=y:=by have:=g2 ys NU;rw[hy1] at this;cases this;rfl
         subst ex ey
         have sm:=cZ hT (.tup [x2,y2])
         refine⟨sm,?_⟩
         unfold Rp
         exact⟨T,_,rfl,cC,by have:UA=16777216:=rfl;rw[this];simp,aG.cons (px.same sm) (aG.cons (py.same sm) aG.nil)⟩
      ·rw[List.length_zipWith,←z1.length,←z2.length]
       rcases Nat.le_total as.length bs.length with z|z
       ·exact .inl (by rw[Wb z];exact UK _)
       ·exact .inr (by rw[Nat.min_eq_right z];exact UK _)
    ·cases e2
   ·cases e2
  ·exact f.elim⟩
end
end L2
namespace L2
section
variable {A:VE}{b:Bool}
theorem wB {x:V}{u:Uz}{n:String}{tp:UY}(I:aF X pins σ H s)(rx:bN x u)(ty:qD X.K H x n)(E6:s.heap.get? tp=some {cls:=.type "tuple",data:=.seq ar.toArray k})(e:Zd X.K (.type n) ar=some b)(h:∀tk,Q (.bool b) {s with toks:=tk}) :
  U4 (Vf X.prog X.w) A (call (.builtin "isinstance") [u,.ref tp]) Q E s:=by
 cases ty with
 |non=>cases (show u=Value.none from rx);exact Wx PySem.W.kitx_none I.kIn True.intro E6 e (fun z=>nomatch z) h
 |bl y=>cases (show u=Value.bool y from rx);exact Wx PySem.W.kitx_bool I.kIn True.intro E6 e (fun z=>nomatch z) h
 |int i=>obtain⟨t,q⟩:=(show ∃t,u=Value.int i t from rx);cases q;exact Wx PySem.W.kitx_int I.kIn True.intro E6 e (fun z=>nomatch z) h
 |str y=>obtain⟨t,q⟩:=(show ∃t,u=Value.str y t from rx);cases q;exact Wx PySem.W.kitx_str I.kIn True.intro E6 e (fun z=>nomatch z) h
 | @lst a xs ea =>
  cases (show u=Value.ref a from rx)
  obtain⟨_,_,n,_,h1⟩:=(show cU X.prog X.w H s.heap a (.lst xs) from I.hok a _ ea)
  exact Wx Yj I.kIn ⟨_,h1,rfl⟩ E6 e (fun z=>nomatch z) h
 | @frz a ob xs ea =>
  cases (show u=Value.ref a from rx)
  obtain⟨_,_,_,n,_,h1⟩:=(show cU X.prog X.w H s.heap a (.frz ob (.lst xs)) from I.hok a _ ea)
  exact Wx Yj I.kIn ⟨_,h1,rfl⟩ E6 e (fun z=>nomatch z) h
 | @tup a xs ea =>
  cases (show u=Value.ref a from rx)
  obtain⟨_,_,_,p,_⟩:=(show cU X.prog X.w H s.heap a (.tup xs) from I.hok a _ ea)
  obtain⟨o,h1,h2,_⟩:=p
  exact Wx PySem.W.kitx_tuple I.kIn ⟨o,h1,h2⟩ E6 e (fun z=>nomatch z) h
 | @dK a gg ea =>
  cases (show u=Value.ref a from rx)
  obtain⟨_,_,vs,_,p⟩:=(show cU X.prog X.w H s.heap a (.dK gg) from I.hok a _ ea)
  obtain⟨o,es,ep,h1,h2,_⟩:=p
  exact Wx Yk I.kIn ⟨o,h1,h2.1⟩ E6 e (fun z=>nomatch z) h
 | @dT a gg ea =>
  cases (show u=Value.ref a from rx)
  obtain⟨_,_,xs,_,o,es,ep,h1,h2,_⟩:=(show cU X.prog X.w H s.heap a (.dT gg) from I.hok a _ ea)
  exact Wx Yk I.kIn ⟨o,h1,h2.1⟩ E6 e (fun z=>nomatch z) h
theorem sT {m1 m2:String}(h1:m1∈["bool","int","str","list","tuple","dict"])(h2:m2∈["bool","int","str","list","tuple","dict"]) :
  eM X (.builtin "isinstance") (fun xs H Q=>∃x n p,xs=[x,.ref p]∧H p=some (.tup [.ty m1,.ty m2])∧qD X.K H x n∧Q (.bl (fc n m1||fc n m2)) H):=by
 intro pins s σ H xs us Q I r h
 obtain⟨x,n,p,rfl,hp,ty,q⟩:=h
 obtain⟨u,w',rfl,rx,rt⟩:=uh r
 cases rt
 obtain⟨_,ar,vs,_,k,hg⟩:=(show cU X.prog X.w H s.heap p (.tup [.ty m1,.ty m2]) from I.hok p _ hp)
 obtain⟨a,b,rfl,ra,rb⟩:=uh vs
 cases ra;cases rb
 refine wB I rx ty hg (b:=fc n m1||fc n m2) ?_ fun tk=>⟨.bl _,H,I.tok tk,rfl,q⟩
 unfold Zd Zd Zd
 rw[Av X.K ty.mem h1,Av X.K ty.mem h2]
 cases fc n m1<;>cases fc n m2<;>rfl
end
section
variable {G:Gm}{e:WI}{p1 p3 p4:Pos}{b1:Bool}{m1 m:Md}{g1:Ev→R (U×Ev)}{v:Option WI}{w:Option WI}
noncomputable def wC (T1 T2:String)(g:Ev→R (U×Ev)):Ev→R (U×Ev):=fun ρ=>(g ρ).bind fun x=>if zj x.1="script" then .stk else .ok (.bl (fc (zj x.1) T1||fc (zj x.1) T2),x.2)
theorem qD.re {x:V}{n:String}(h:qD K H x n)(k:∀a o,H a=some o→H' a=some o):qD K H' x n:=by
 cases h with
 |non=>exact .non
 |bl=>exact .bl _
 |int=>exact .int _
 |str=>exact .str _
 |lst e=>exact .lst (k _ _ e)
 |frz e=>exact .frz (k _ _ e)
 |tup e=>exact .tup (k _ _ e)
 |dK e=>exact .dK (k _ _ e)
 |dT e=>exact .dT (k _ _ e)
theorem Bd {T1 T2:String}{x1 x2:Str}{c:Nat}(RY:T1∈["bool","int","str","list","tuple","dict"])(RZ:T2∈["bool","int","str","list","tuple","dict"])(he:DE X G e b1 m1 g1)(zi:X.mg "isinstance"=none)(R0:X.mg x1=none)(R1:Vs x1=some (.type T1))(R3:X.mg x2=none)(R4:Vs x2=some (.type T2))(hg:Gl X "isinstance":=by rfl)(L8:Gl X x1:=by rfl)(R5:Gl X x2:=by rfl)
  (NK:x1≠"__name__":=by decide) (R6:(x1==("__debug__":Str))=false:=by decide) (GB:x2≠"__name__":=by decide) (C_:(x2==("__debug__":Str))=false:=by decide)
  (hs:UX [e,.Tuple [.Name x1 p2,.Name x2 p3] c p4] X.env=(false,Yg e X.env)::UX [.Tuple [.Name x1 p2,.Name x2 p3] c p4] X.env:=by rfl)
  (bE:UX [.Tuple [.Name x1 p2,.Name x2 p3] c p4] X.env=(false,Yg (.Tuple [.Name x1 p2,.Name x2 p3] c p4) X.env)::UX [] X.env:=by rfl)
  (t7:UX [.Name x1 p2,.Name x2 p3] X.env=(false,Yg (.Name x1 p2) X.env)::UX [.Name x2 p3] X.env:=by rfl)
  (GI:UX [.Name x2 p3] X.env=(false,Yg (.Name x2 p3) X.env)::UX [] X.env:=by rfl)
  (kv:(XF pos (UX [.Tuple [.Name x1 p2,.Name x2 p3] c p4] X.env)).any (·.1)=false:=by rfl) :
  DE X G (.Call (.Name "isinstance" p1) [e,.Tuple [.Name x1 p2,.Name x2 p3] c p4] [] pos) b1 .S (wC T1 T2 g1) :=
 ⟨(kz (sT (m1:=T1) (m2:=T2) RY RZ) hg zi jP (fg he.un (fg (Ah (fg (sC (v:=.ty T1) L8 R0 R1 rfl NK R6) (fg (sC (v:=.ty T2) R5 R3 R4 rfl GB C_) j2 GI) t7)) j2 bE) hs) (by decide) (by decide) hs kv).to fun σ H Q h=>by
 obtain⟨Z,A,ρ,q,f⟩:=h
 obtain⟨⟨u,ρ1⟩,e1,f⟩:=f.bind
 refine⟨Z,A,ρ,q,?_⟩
 rw[e1]
 intro v H1 q1 x1 s1 vm
 dsimp only at f
 split at f
 ·exact f.elim
 ·rename_i hn
  exact⟨by show 2≤UA;decide,fun p hp=>⟨v,zj u,p,rfl,cC,(Fj vm.pk hn).re fun a o z=>by rw[bh (bO z hp)];exact z,f _ _ (q1.same (cZ hp _)) (x1.trans (ff.same (cZ hp _))) (lZ s1 (cZ hp _)) (uc.ofS jd)⟩⟩⟩
end
end L2
namespace L2
theorem nr {α:Sort _}{a b:α}(h:a=b):a=b:=h
noncomputable def look (o:Option (Option U))(ρ:Ev):R (U×Ev):=match o with
 |some (some u)=>.ok (u,ρ)
 |_=>.stk
noncomputable def Qc (u:U)(ρ:Ev):R (Bool×Ev):=match u with
 | .bl c=>.ok (c,ρ)
 |_=>.stk
noncomputable def LV (o:Option U):R U:=match o with
 |some u=>.ok u
 |none=>.stk
noncomputable def SR.seq (r:SR)(g:Ev→SR):SR:=match r with
 | .nx ρ=>g ρ
 |r=>r
noncomputable def SR.turn (r:SR)(g:Ev→SR):SR:=match r with
 | .nx ρ=>g ρ
 | .ct ρ=>g ρ
 | .bk ρ=>.nx ρ
 |r=>r
noncomputable def Kb (m:Md)(r:SR):R U:=match r with
 | .rt u _=>.ok u
 | .nx _=>if m=.S then .ok .non else .stk
 | .exc c u=>.exc c u
 |_=>.stk
noncomputable def io0 (u:U)(o:Option (Option U)):R (U×U):=match o with
 |some (some w)=>.ok (u,w)
 |_=>.stk
noncomputable def HU (r:SR):R (U×U):=match r with
 | .rt u ρ=>io0 u ρ[0]?
 | .nx ρ=>io0 .non ρ[0]?
 | .exc c u=>.exc c u
 |_=>.stk
section
variable {w:U}{α β:Type}{g g1 g2 g3:Ev→R (U×Ev)}{h h1 h2:Ev→R (Bool×Ev)}{s s1 s2:Ev→SR}{ga:Ev→R (List U×Ev)}{m:Md}{ws:List U}
theorem Fp:ag i ρ=look ρ[i]? ρ:=nr rfl
theorem Be:look (some (some u)) ρ=.ok (u,ρ):=nr rfl
theorem Qd:gC u ρ=.ok (u,ρ):=nr rfl
theorem qG {a:α}{f:α→R β}:(R.ok a).bind f=f a:=nr rfl
theorem Fq {f:α→R β}:(R.stk:R α).bind f=.stk:=nr rfl
theorem Bf {a:α}{f:α→SR}:SR.of (R.ok a) f=f a:=nr rfl
theorem Kc {p:U→U→R U}:aL p g1 g2 ρ=(g1 ρ).bind fun x=>(g2 x.2).bind fun y=>(p x.1 y.1).bind fun z=>.ok (z,y.2):=nr rfl
theorem Qe:gB g ρ=(g ρ).bind fun x=>Qc x.1 x.2:=nr rfl
theorem Fs {c:Bool}:Qc (.bl c) ρ=.ok (c,ρ):=nr rfl
theorem Bg:uw h1 h2 ρ=(h1 ρ).bind fun x=>if x.1=true then h2 x.2 else .ok (false,x.2):=nr rfl
theorem Ft:Hs h1 h2 ρ=(h1 ρ).bind fun x=>if x.1=true then .ok (true,x.2) else h2 x.2:=nr rfl
theorem Bh:ze h ρ=(h ρ).bind fun x=>.ok (!x.1,x.2):=nr rfl
theorem Fu:D1 g1 g2 ρ=(gB g1 ρ).bind fun x=>if x.1=true then g2 x.2 else .ok (.bl false,x.2):=nr rfl
theorem Kd:Rg g1 g2 ρ=(gB g1 ρ).bind fun x=>if x.1=true then .ok (.bl true,x.2) else g2 x.2:=nr rfl
theorem Fv:MO g ρ=(gB g ρ).bind fun x=>.ok (.bl (!x.1),x.2):=nr rfl
theorem Ke:MP h g1 g2 ρ=(h ρ).bind fun x=>if x.1=true then g1 x.2 else g2 x.2:=nr rfl
noncomputable def Qf (p':U→U→R U)(g3:Ev→R (U×Ev))(y:U×Ev)(z:U):R (U×Ev):=match z with
 | .bl k=>if k=true then (g3 y.2).bind fun w=>(p' y.1 w.1).bind fun z'=>.ok (z',w.2) else .ok (.bl false,y.2)
 |_=>.stk
theorem xQ {p p':U→U→R U}:Hu p p' g1 g2 g3 ρ=(g1 ρ).bind fun x=>(g2 x.2).bind fun y=>(p x.1 y.1).bind fun z=>Qf p' g3 y z:=nr rfl
theorem Fw {p':U→U→R U}{y:U×Ev}{k:Bool}:Qf p' g3 y (.bl k)=if k=true then (g3 y.2).bind fun w=>(p' y.1 w.1).bind fun z'=>.ok (z',w.2) else .ok (.bl false,y.2):=nr rfl
theorem Kf {p:U→R U}:Rh p g ρ=(g ρ).bind fun x=>(p x.1).bind fun z=>.ok (z,x.2):=nr rfl
theorem Bi:ak ρ=.ok ([],ρ):=nr rfl
theorem xR:ae g ga ρ=(g ρ).bind fun x=>(ga x.2).bind fun y=>.ok (x.1::y.1,y.2):=nr rfl
theorem Bj:bR ga ρ=(ga ρ).bind fun x=>if x.1.length≤UA then .ok (.tup x.1,x.2) else .stk:=nr rfl
theorem Bk:cD ga ρ=(ga ρ).bind fun x=>if x.1.length≤UA then .ok (.lst x.1,x.2) else .stk:=nr rfl
theorem Kg {p:List U→R U}:fL p ga ρ=(ga ρ).bind fun x=>(p x.1).bind fun z=>.ok (z,x.2):=nr rfl
theorem Kh {f:List U→R U}:iU n f ga ρ=(ga ρ).bind fun x=>(wg n f x.1).bind fun z=>.ok (z,x.2):=nr rfl
theorem Fx {f:List U→R α}(h:us.length=n):wg n f us=f us:=if_pos h
noncomputable def Qg (n:Nat)(f:List U→R (U×U))(us:List U)(i:Nat)(ρ:Ev)(o:Option (Option U)):R (U×Ev):=match o with
 |some (some u0)=>(wg n f (u0::us)).bind fun z=>.ok (z.1,ρ.set i (some z.2))
 |_=>.stk
theorem Fy {f:List U→R (U×U)}:Qg n f us i ρ (some (some u))=(wg n f (u::us)).bind fun z=>.ok (z.1,ρ.set i (some z.2)):=nr rfl
noncomputable def xS (o:Option (Option U)):Bool:=match o with
 |some (some _)=>true
 |_=>false
theorem xT:xS (some (some u))=true:=nr rfl
theorem Ki {f:List U→R (U×U)}:eZ n i f ga ρ=if xS ρ[i]? = true then (ga ρ).bind fun x=>Qg n f x.1 i x.2 x.2[i]? else .stk:=nr rfl
noncomputable def M7 (i:Nat)(p:U→List U→R (U×U))(us:List U)(ρ:Ev)(o:Option (Option U)):R (U×Ev):=match o with
 |some (some u0)=>(p u0 us).bind fun z=>.ok (z.1,ρ.set i (some z.2))
 |_=>.stk
theorem Fz {p:U→List U→R (U×U)}:M7 i p us ρ (some (some u))=(p u us).bind fun z=>.ok (z.1,ρ.set i (some z.2)):=nr rfl
noncomputable def Qh (T:String)(i:Nat)(p:U→List U→R (U×U))(ga:Ev→R (List U×Ev))(ρ:Ev)(o:Option (Option U)):R (U×Ev):=match o with
 |some (some u1)=>if zf u1 T=true then (ga ρ).bind fun x=>M7 i p x.1 x.2 x.2[i]? else .stk
 |_=>.stk
theorem FA {T:String}{p:U→List U→R (U×U)}:Qh T i p ga ρ (some (some u))=if zf u T=true then (ga ρ).bind fun x=>M7 i p x.1 x.2 x.2[i]? else .stk:=nr rfl
theorem Qi {T:String}{p:U→List U→R (U×U)}:gM T i p ga ρ=Qh T i p ga ρ ρ[i]? := nr rfl
theorem Bl:zf (.lst us) "list"=true:=nr rfl
theorem xU:cn ρ=.ok (none,ρ):=nr rfl
noncomputable def Qj (u:U)(ρ:Ev):R (Option Int×Ev):=match u with
 | .int i=>.ok (some i,ρ)
 |_=>.stk
theorem FC {k:Int}:Qj (.int k) ρ=.ok (some k,ρ):=nr rfl
theorem xV:bS g ρ=(g ρ).bind fun x=>Qj x.1 x.2:=nr rfl
theorem Kj {p:U→Option Int→Option Int→R U}{lo hi:Ev→R (Option Int×Ev)}:jx p g lo hi ρ=(g ρ).bind fun x=>(lo x.2).bind fun l=>(hi l.2).bind fun h=>(p x.1 l.1 h.1).bind fun z=>.ok (z,h.2):=nr rfl
noncomputable def ij (T:String)(u:U)(ρ:Ev):R (U×Ev):=if zj u="script" then .stk else .ok (.bl (fc (zj u) T),ρ)
theorem Bm {T:String}:mT T g ρ=(g ρ).bind fun x=>ij T x.1 x.2:=nr rfl
theorem Bn:bT ρ=.nx ρ:=nr rfl
theorem xW:Hw ρ=.bk ρ:=nr rfl
theorem Bo:J8 ρ=.ct ρ:=nr rfl
theorem FD:aJ s1 s2 ρ=(s1 ρ).seq s2:=nr rfl
theorem Bp:(SR.nx ρ).seq s=s ρ:=nr rfl
theorem Bq:(SR.rt u ρ).seq s=.rt u ρ:=nr rfl
theorem Br:(SR.bk ρ).seq s=.bk ρ:=nr rfl
theorem Bs:(SR.ct ρ).seq s=.ct ρ:=nr rfl
theorem Bt:jQ g ρ=SR.of (g ρ) fun x=>.nx x.2:=nr rfl
theorem FE:bV g ρ=SR.of (g ρ) fun x=>.rt x.1 x.2:=nr rfl
theorem FF:bu i g ρ=SR.of (g ρ) fun x=>.nx (x.2.set i (some x.1)):=nr rfl
theorem FG {sg:U→Ev→R Ev}:MU sg g ρ=SR.of (g ρ) fun x=>SR.of (sg x.1 x.2) .nx:=nr rfl
theorem FH:iV h s1 s2 ρ=SR.of (h ρ) fun x=>if x.1=true then s1 x.2 else s2 x.2:=nr rfl
noncomputable def Qk (i j:Nat)(ρ:Ev)(o:Option (Option U)):SR:=match o with
 |some (some u)=>.nx ((ρ.set j none).set i (some u))
 |_=>.stk
theorem Bu:ux i j ρ=Qk i j ρ ρ[j]? := nr rfl
theorem FI:Qk i j ρ (some (some u))=.nx ((ρ.set j none).set i (some u)):=nr rfl
noncomputable def Kk (i j:Nat)(us:List U)(ρ:Ev):SR:=match us with
 | [u,w]=>.nx ((ρ.set i (some u)).set j (some w))
 |_=>.stk
theorem FJ:MV i j ga ρ=SR.of (ga ρ) fun x=>Kk i j x.1 x.2:=nr rfl
theorem Bv:Kk i j [u,w] ρ=.nx ((ρ.set i (some u)).set j (some w)):=nr rfl
noncomputable def LW (i:Nat)(v k:U)(ρ:Ev)(o:Option (Option U)):SR:=match k with
 | .int k=>match o with
  |some (some (.lst us))=>match zP us.length k with
   |some j=>.nx (ρ.set i (some (.lst (us.set j v))))
   |none=>.stk
  |_=>.stk
 |_=>.stk
theorem Bw:xw i g1 g2 ρ=SR.of (g1 ρ) fun x=>if xS x.2[i]? = true then SR.of (g2 x.2) fun y=>LW i x.1 y.1 y.2 y.2[i]? else .stk:=nr rfl
theorem Kl {k:Int}(h:zP us.length k=some j):LW i w (.int k) ρ (some (some (.lst us)))=.nx (ρ.set i (some (.lst (us.set j w)))):=by
 unfold LW;dsimp only;rw[h]
noncomputable def Km (i:Nat)(p:U→U→R U)(g:Ev→R (U×Ev))(ρ:Ev)(o:Option (Option U)):SR:=match o with
 |some (some u)=>SR.of (g ρ) fun y=>SR.of (p u y.1) fun z=>.nx (y.2.set i (some z))
 |_=>.stk
theorem FK {p:U→U→R U}:MX i p g ρ=Km i p g ρ ρ[i]? := nr rfl
theorem Bx {p:U→U→R U}:Km i p g ρ (some (some u))=SR.of (g ρ) fun y=>SR.of (p u y.1) fun z=>.nx (y.2.set i (some z)):=nr rfl
theorem FN {gi:Ev→R (List U×Ev)}{sg:U→Ev→R Ev}:kF gi sg s ρ=SR.of (gi ρ) fun x=>gU sg s x.1 x.2:=nr rfl
theorem xX {sg:U→Ev→R Ev}:gU sg s [] ρ=.nx ρ:=nr rfl
theorem By:gU sg s (u::us) ρ=SR.of (sg u ρ) fun ρ1=>(s ρ1).turn (gU sg s us):=nr rfl
theorem xY:(SR.nx ρ).turn s=s ρ:=nr rfl
theorem xZ:(SR.ct ρ).turn s=s ρ:=nr rfl
theorem x_:(SR.bk ρ).turn s=.nx ρ:=nr rfl
theorem ya:(SR.rt u ρ).turn s=.rt u ρ:=nr rfl
noncomputable def El (u:U)(ρ:Ev):R (List U×Ev):=match u with
 | .lst us=>.ok (us,ρ)
 | .tup us=>.ok (us,ρ)
 | .scr us=>.ok (us,ρ)
 |_=>.stk
theorem Bz:fM g ρ=(g ρ).bind fun x=>El x.1 x.2:=nr rfl
theorem BA:El (.lst us) ρ=.ok (us,ρ):=nr rfl
theorem BB:El (.tup us) ρ=.ok (us,ρ):=nr rfl
theorem BC:El (.scr us) ρ=.ok (us,ρ):=nr rfl
noncomputable def HV (us:List U)(ρ:Ev):R (List U×Ev):=match us with
 | [.int j]=>if -1000000≤j∧j≤1000000 then .ok (aE 0 j.toNat,ρ) else .stk
 |_=>.stk
theorem BD:fN ga ρ=(ga ρ).bind fun x=>HV x.1 x.2:=nr rfl
theorem HW {k:Int}:HV [.int k] ρ=if -1000000≤k∧k≤1000000 then .ok (aE 0 k.toNat,ρ) else .stk:=nr rfl
noncomputable def BE (us:List U)(ρ:Ev):R (U×Ev):=match us with
 | [.int j]=>if uH 0 j=true then .ok (.lst (aE 0 (j - 0).toNat),ρ) else .stk
 |_=>.stk
noncomputable def BF (us:List U)(ρ:Ev):R (U×Ev):=match us with
 | [.int j]=>if uH 0 j=true then .ok (.tup (aE 0 (j - 0).toNat),ρ) else .stk
 |_=>.stk
theorem BG:AU ga ρ=(ga ρ).bind fun x=>BE x.1 x.2:=nr rfl
theorem BH:AV ga ρ=(ga ρ).bind fun x=>BF x.1 x.2:=nr rfl
theorem FO {k:Int}(h0:0≤k)(h1:k≤1000000):uH 0 k=true:=by
 unfold uH;simp only[Vu,decide_eq_true_eq];lia
theorem Em (n:Nat)(h:n≤1000000):BE [.int n] ρ=.ok (.lst (aE 0 n),ρ):=by
 unfold BE;dsimp only;rw[if_pos (FO (by lia) (by lia)),show ((n:Int) - 0).toNat=n by lia]
theorem kT (n:Nat)(h:n≤1000000):BF [.int n] ρ=.ok (.tup (aE 0 n),ρ):=by
 unfold BF;dsimp only;rw[if_pos (FO (by lia) (by lia)),show ((n:Int) - 0).toNat=n by lia]
theorem ik (n:Nat)(h:n≤1000000):HV [.int n] ρ=.ok (aE 0 n,ρ):=by
 rw[HW,if_pos (by lia)];rfl
theorem FP {gi:Ev→R (List U×Ev)}{js:List (Option Nat)}{sg:U→Ev→R Ev}:gy gi js sg h g ρ=(gi ρ).bind fun x=>(pD (rk js sg h g x.2) x.1).bind fun ys=>.ok (.lst ys,x.2):=nr rfl
theorem FQ {G:Gm}{gi:Ev→R (List U×Ev)}{js:List (Option Nat)}{sg:U→Ev→R Ev}:pE G gi js sg h g ρ=(gi ρ).bind fun x=>(kL G js sg h g x.1 x.2).bind fun y=>.ok (.lst y.1,y.2):=nr rfl
theorem FR {js:List (Option Nat)}{sg:U→Ev→R Ev}:rk js sg h g ρ u=(sg u (fO js ρ)).bind fun ρi=>(h ρi).bind fun c=>if c.1=true then (g ρi).bind fun y=>.ok (some y.1) else .ok none:=nr rfl
theorem BI {G:Gm}{js:List (Option Nat)}{sg:U→Ev→R Ev}:kL G js sg h g [] ρ=.ok ([],ρ):=nr rfl
theorem BJ {G:Gm}:kL G js sg h g (u::us) ρ=(sg u (fO js ρ)).bind fun ρi=>(h ρi).bind fun c=>if c.1=true then (g c.2).bind fun y=>(kL G js sg h g us (wb G js y.2 ρ)).bind fun r=>.ok (y.1::r.1,r.2) else kL G js sg h g us (wb G js c.2 ρ):=nr rfl
theorem yb:du ρ=.ok (true,ρ):=nr rfl
theorem FT:dw i u ρ=.ok (ρ.set i (some u)):=nr rfl
theorem Kn:Rm ρ=.ok (.dct [] [],ρ):=nr rfl
theorem BK:fZ m n s us=Kb m (s (cG n us)):=nr rfl
theorem yc:Kb m (.rt u ρ)=.ok u:=nr rfl
theorem BL:iD n s us=HU (s (cG n us)):=nr rfl
theorem yd:HU (.rt u ρ)=io0 u ρ[0]? := nr rfl
theorem FU:io0 u (some (some w))=.ok (u,w):=nr rfl
theorem uQ {ρ:Ev}:fO [] ρ=[]:=nr rfl
theorem rE {js:List (Option Nat)}:fO (none::js) ρ=none::fO js ρ:=nr rfl
theorem rF {js:List (Option Nat)}:fO (some j::js) ρ=(ρ[j]?).getD none::fO js ρ:=by
 unfold fO
 rw[UT]
 congr 1
 dsimp only
 cases ρ[j]? <;> rfl
end
section
variable {i j k:Int}{ws:List U}{w:U}
theorem BM:b9 (.int i) (.int j)=.ok (.int (i+j)):=nr rfl
theorem BN:b9 (.tup us) (.tup ws)=if us.length+ws.length≤UA then .ok (.tup (us++ws)) else .stk:=nr rfl
theorem BO:b9 (.lst us) (.lst ws)=if us.length+ws.length≤UA then .ok (.lst (us++ws)) else .stk:=nr rfl
theorem FV:mf (.int i) (.int j)=.ok (.int (i - j)):=nr rfl
theorem FW:jR (.int i) (.int j)=if kN i j=true then .ok (.int (i*j)) else .stk:=nr rfl
theorem BP:uC (.int i) (.int j)=if wo i j=true then .ok (.int (i / j)) else .stk:=nr rfl
theorem FX:uD (.int i) (.int j)=if decide (0<j)=true then .ok (.int (i % j)) else .stk:=nr rfl
theorem FY:D8 (.int i) (.int j)=if D7 i j=true then .ok (.int (i ^ j.toNat)) else .stk:=nr rfl
theorem FZ:MY (.int i)=.ok (.int (-i)):=nr rfl
theorem Ko:D9 (.int i) (.int j)=.ok (.bl (decide (i<j))):=nr rfl
theorem Kp:Rk (.int i) (.int j)=.ok (.bl (decide (i≤j))):=nr rfl
theorem zA:LN (.int i) (.int j)=.ok (.bl (decide (j<i))):=nr rfl
theorem Kq:MZ (.int i) (.int j)=.ok (.bl (decide (j≤i))):=nr rfl
theorem F0:fF (.lst us) (.int i)=LV (jb us i):=by show (match jb us i with|some z=>R.ok z|none=>.stk)=_;cases jb us i<;>rfl
theorem F1:fF (.tup us) (.int i)=LV (jb us i):=by show (match jb us i with|some z=>R.ok z|none=>.stk)=_;cases jb us i<;>rfl
theorem F2:fF (.scr us) (.int i)=LV (jb us i):=by show (match jb us i with|some z=>R.ok z|none=>.stk)=_;cases jb us i<;>rfl
theorem F3:LV (some u)=.ok u:=nr rfl
theorem F4:i6 (.lst us) lo hi=.ok (.lst (ic us lo hi)):=nr rfl
theorem F5:i6 (.tup us) lo hi=.ok (.tup (ic us lo hi)):=nr rfl
theorem F6:i6 (.scr us) lo hi=.ok (.lst (ic us lo hi)):=nr rfl
theorem BQ:iE [.lst us]=.ok (.int us.length):=nr rfl
theorem BR:iE [.tup us]=.ok (.int us.length):=nr rfl
theorem BS:iE [.scr us]=.ok (.int us.length):=nr rfl
theorem BU:df [.lst us]=.ok (.tup us):=nr rfl
theorem BV:df [.tup us]=.ok (.tup us):=nr rfl
theorem BW:Fi [.lst us]=.ok (.lst us):=nr rfl
theorem BX:Fi [.tup us]=.ok (.lst us):=nr rfl
theorem F7 {a b:Bool}{f:Bool→Bool}:M4 f (.bl a) (.bl b)=.ok (.bl (f (decide (a=b)))):=nr rfl
theorem F8 {f:Bool→Bool}:M3 f u .non=.ok (.bl (f (Fg u))):=nr rfl
theorem BY:rm [.int i,.int j]=.ok (.int (if j<i then j else i)):=nr rfl
theorem BZ:uE [.int i,.int j]=.ok (.int (if j>i then j else i)):=nr rfl
theorem Kr {f:Bool→Bool}:zU f u w=(i5 u w).bind fun b=>.ok (.bl (f b)):=nr rfl
theorem kW (n:Nat):jb us (n:Int)=us[n]? := by
 unfold jb zP
 by_cases h:n<us.length
 ·rw[if_pos (by lia),if_pos (by lia)];rfl
 ·rw[if_pos (by lia),if_neg (by lia)];rw[V_.mpr (by lia)];rfl
theorem F9:jb us 0=us[0]? := kW 0
theorem F_:jb us 1=us[1]? := kW 1
theorem Ga:jb us 2=us[2]? := kW 2
theorem Ks (h:0<us.length):zP us.length 0=some 0:=by unfold zP;rw[if_pos (by lia),if_pos (by lia)];rfl
theorem sU (h0:0<j)(h1:j<18446744073709551616):wo i j=true:=by unfold wo;simp[h0,h1]
theorem my (h0:0≤i)(h1:i<18446744073709551616):kN i j=true:=by
 unfold kN
 simp only[Bool.or_eq_true,Vu,decide_eq_true_eq]
 exact .inl ⟨by lia,by lia⟩
theorem HX (h0:0≤j)(h1:j<18446744073709551616):kN i j=true:=by
 unfold kN
 simp only[Bool.or_eq_true,Vu,decide_eq_true_eq]
 exact .inr ⟨by lia,by lia⟩
end
end L2
namespace L2
theorem ye {i:Nat}{w u:U}{us:List U}{ρ:Ev}:LW i w (.int 0) ρ (some (some (.lst (u::us))))=.nx (ρ.set i (some (.lst (w::us)))):=by
 rw[Kl (j:=0) (Ks (by rw[UI];lia))];rfl
theorem yf {ρ:Ev}:HU (.nx ρ)=io0 .non ρ[0]? := rfl
theorem iG {G:Gm}{js:List (Option Nat)}{sg:U→Ev→R Ev}{ge:Ev→R (U×Ev)}{σ:Type}(ev:σ→Ev)(N:Nat)(I:List U→σ→Prop)
  (step:∀done u s,done.length<N→I done s→∃ρi y ρi' s',sg u (fO js (ev s))=.ok ρi∧ge ρi=.ok (y,ρi')∧wb G js ρi' (ev s)=ev s'∧I (done++[y]) s') :
  ∀(us done:List U) (s:σ),done.length+us.length≤N→I done s→∃ys s',kL G js sg du ge us (ev s)=.ok (ys,ev s')∧ys.length=us.length∧I (done++ys) s'
 | [],done,s,_,h=>⟨[],s,rfl,rfl,by rw[Vw];exact h⟩
 |u::us,done,s,hl,h=>by
  rw[UI] at hl
  obtain⟨ρi,y,ρi',s',e1,e2,e3,h'⟩:=step done u s (by lia) h
  obtain⟨ys,CL,e4,e5,h''⟩:=iG ev N I step us (done++[y]) s' (by rw[UH,WY];lia) h'
  refine⟨y::ys,CL,?_,by rw[UI,UI,e5],by rw[UZ] at h'';exact h''⟩
  rw[BJ,e1,qG,yb,qG,if_pos rfl,e2,qG,e3,e4,qG]
theorem eN {s:Ev→SR}(I:Nat→Ev→Prop)(step:∀(i:Nat) (u:U) (ρ:Ev),us[i]? = some u→I i ρ→∃ρ1 ρ2,sg u ρ=.ok ρ1∧(s ρ1=.nx ρ2∨s ρ1=.ct ρ2)∧I (i+1) ρ2)(h:I 0 ρ) :
  ∃ρ',gU sg s us ρ=.nx ρ'∧I us.length ρ':=by
 have gen:∀(n i:Nat) (ρ:Ev),i+n=us.length→I i ρ→∃ρ',gU sg s (us.drop i) ρ=.nx ρ'∧I us.length ρ':=by
  intro n
  induction n with
  |zero =>
   intro i ρ hi h
   have:i=us.length:=by lia
   subst this
   rw[XR]
   exact⟨ρ,rfl,h⟩
  |succ n ih =>
   intro i ρ hi h
   have xa:i<us.length:=by lia
   obtain⟨ρ1,ρ2,e1,e2,h2⟩:=step i us[i] ρ (Uv xa) h
   obtain⟨ρ',e3,h3⟩:=ih (i+1) ρ2 (by lia) h2
   refine⟨ρ',?_,h3⟩
   rw[V9 xa,By,e1,Bf]
   rcases e2 with e2|e2<;>(rw[e2];exact e3)
 have:=gen us.length 0 ρ (by lia) h
 rwa [Yu] at this
noncomputable def Kt (u:U):Prop:=∃d,gO u=some d∧cm d≤20
theorem uR:∀{us:List U},(∀u∈us,Kt u)→∃ds,fx us=some ds∧gc ds≤20∧ds.length=us.length
 | [],_=>⟨[],by unfold fx;rfl,by unfold gc;lia,rfl⟩
 |u::us,h=>by
  obtain⟨d,e,l⟩:=h u UL
  obtain⟨ds,e',l',n⟩:=uR fun w hw=>h w (UM _ hw)
  refine⟨d::ds,by unfold fx;rw[e,e'];rfl,?_,by rw[UI,UI,n]⟩
  unfold gc
  exact Nat.max_le.mpr ⟨l,l'⟩
theorem B0 (h:∀u∈us,Kt u):i5 (.lst us) (.lst [])=.ok us.isEmpty:=by
 obtain⟨ds,e,l,n⟩:=uR h
 unfold i5
 have e1:gO (.lst us)=some (.lst ds):=by unfold gO;rw[e];rfl
 have e2:gO (.lst [])=some (.lst []):=by unfold gO fx;rfl
 rw[e1,e2]
 dsimp only
 rw[if_pos (by unfold cm;lia)]
 unfold fE
 cases us with
 |nil=>cases ds with
  |nil=>rfl
  |cons=>cases n
 |cons u us=>cases ds with
  |nil=>cases n
  |cons=>rfl
theorem mE (ns:List Int):fx (ns.map .int)=some (ns.map .int):=by
 induction ns with
 |nil=>unfold fx;rfl
 |cons n ns ih=>rw[UT];unfold fx;rw[ih];unfold gO;rfl
theorem j6 (ns:List Int):gc (ns.map .int)=0:=by
 induction ns with
 |nil=>unfold gc;rfl
 |cons n ns ih=>rw[UT];unfold gc;rw[ih];unfold cm;rfl
theorem jE:∀(ns ms:List Int),i0 (ns.map .int) (ms.map .int)=decide (ns=ms)
 | [],[]=>by unfold i0;simp
 | [],m::ms=>by simp[i0]
 |n::ns,[]=>by simp[i0]
 |n::ns,m::ms=>by
  rw[UT,UT]
  unfold i0 fE
  rw[jE ns ms,Xe]
  simp
theorem LX (ns ms:List Int):i5 (.lst (ns.map .int)) (.lst (ms.map .int))=.ok (decide (ns=ms)):=by
 unfold i5
 have e1:∀ns:List Int,gO (.lst (ns.map .int))=some (.lst (ns.map .int)):=fun ns=>by unfold gO;rw[mE];rfl
 rw[e1,e1]
 dsimp only
 rw[if_pos (by unfold cm;rw[j6];lia)]
 unfold fE
 rw[jE]
theorem B1 (ns ms:List Int):i5 (.tup (ns.map .int)) (.tup (ms.map .int))=.ok (decide (ns=ms)):=by
 unfold i5
 have e1:∀ns:List Int,gO (.tup (ns.map .int))=some (.tup (ns.map .int)):=fun ns=>by unfold gO;rw[mE];rfl
 rw[e1,e1]
 dsimp only
 rw[if_pos (by unfold cm;rw[j6];lia)]
 unfold fE
 rw[jE]
theorem Gb (a b:Bool):i5 (.bl a) (.bl b)=.ok (a==b):=by
 unfold i5 gO
 dsimp only
 rw[if_pos (by unfold cm;lia)]
 unfold fE;rfl
theorem En (a b:Int):i5 (.int a) (.int b)=.ok (a==b):=by
 unfold i5 gO
 dsimp only
 rw[if_pos (by unfold cm;lia)]
 unfold fE;rfl
noncomputable def aZ (n:Nat):List Int:=(Vc n).map fun i=>(i:Nat)
theorem gA (n:Nat):aE 0 n=(aZ n).map .int:=by
 unfold aE aZ
 rw[VL]
 exact WO fun i _=>by show U.int (0+(i:Int))=.int _;rw[Int.zero_add]
theorem eI (n:Nat):(aZ n).length=n:=by unfold aZ;rw[Ux,Vx]
theorem wD {x:Int}:x∈aZ n↔0≤x∧x<n:=by
 unfold aZ
 rw[Vg]
 constructor
 ·rintro⟨i,h,rfl⟩
  have:=Vz.mp h
  lia
 ·intro h
  exact⟨x.toNat,Vz.mpr (by lia),by lia⟩
end L2
namespace L2
theorem mX {ρ:Ev}:ij "bool" (.non) ρ=.ok (.bl false,ρ):=(if_neg (show ¬("NoneType"="script") by decide)).trans (congrArg (fun z=>R.ok (U.bl z,ρ)) (show fc "NoneType" "bool"=false by decide))
theorem pN {ρ:Ev}:ij "int" (.non) ρ=.ok (.bl false,ρ):=(if_neg (show ¬("NoneType"="script") by decide)).trans (congrArg (fun z=>R.ok (U.bl z,ρ)) (show fc "NoneType" "int"=false by decide))
theorem pO {ρ:Ev}:ij "str" (.non) ρ=.ok (.bl false,ρ):=(if_neg (show ¬("NoneType"="script") by decide)).trans (congrArg (fun z=>R.ok (U.bl z,ρ)) (show fc "NoneType" "str"=false by decide))
theorem mY {ρ:Ev}:ij "list" (.non) ρ=.ok (.bl false,ρ):=(if_neg (show ¬("NoneType"="script") by decide)).trans (congrArg (fun z=>R.ok (U.bl z,ρ)) (show fc "NoneType" "list"=false by decide))
theorem kX {ρ:Ev}:ij "tuple" (.non) ρ=.ok (.bl false,ρ):=(if_neg (show ¬("NoneType"="script") by decide)).trans (congrArg (fun z=>R.ok (U.bl z,ρ)) (show fc "NoneType" "tuple"=false by decide))
theorem mZ {ρ:Ev}:ij "dict" (.non) ρ=.ok (.bl false,ρ):=(if_neg (show ¬("NoneType"="script") by decide)).trans (congrArg (fun z=>R.ok (U.bl z,ρ)) (show fc "NoneType" "dict"=false by decide))
theorem pP {b:Bool}{ρ:Ev}:ij "bool" (.bl b) ρ=.ok (.bl true,ρ):=(if_neg (show ¬("bool"="script") by decide)).trans (congrArg (fun z=>R.ok (U.bl z,ρ)) (show fc "bool" "bool"=true by decide))
theorem rG {b:Bool}{ρ:Ev}:ij "int" (.bl b) ρ=.ok (.bl true,ρ):=(if_neg (show ¬("bool"="script") by decide)).trans (congrArg (fun z=>R.ok (U.bl z,ρ)) (show fc "bool" "int"=true by decide))
theorem rH {b:Bool}{ρ:Ev}:ij "str" (.bl b) ρ=.ok (.bl false,ρ):=(if_neg (show ¬("bool"="script") by decide)).trans (congrArg (fun z=>R.ok (U.bl z,ρ)) (show fc "bool" "str"=false by decide))
theorem pQ {b:Bool}{ρ:Ev}:ij "list" (.bl b) ρ=.ok (.bl false,ρ):=(if_neg (show ¬("bool"="script") by decide)).trans (congrArg (fun z=>R.ok (U.bl z,ρ)) (show fc "bool" "list"=false by decide))
theorem m4 {b:Bool}{ρ:Ev}:ij "tuple" (.bl b) ρ=.ok (.bl false,ρ):=(if_neg (show ¬("bool"="script") by decide)).trans (congrArg (fun z=>R.ok (U.bl z,ρ)) (show fc "bool" "tuple"=false by decide))
theorem pR {b:Bool}{ρ:Ev}:ij "dict" (.bl b) ρ=.ok (.bl false,ρ):=(if_neg (show ¬("bool"="script") by decide)).trans (congrArg (fun z=>R.ok (U.bl z,ρ)) (show fc "bool" "dict"=false by decide))
theorem m6 {i:Int}{ρ:Ev}:ij "bool" (.int i) ρ=.ok (.bl false,ρ):=(if_neg (show ¬("int"="script") by decide)).trans (congrArg (fun z=>R.ok (U.bl z,ρ)) (show fc "int" "bool"=false by decide))
theorem pS {i:Int}{ρ:Ev}:ij "int" (.int i) ρ=.ok (.bl true,ρ):=(if_neg (show ¬("int"="script") by decide)).trans (congrArg (fun z=>R.ok (U.bl z,ρ)) (show fc "int" "int"=true by decide))
theorem pT {i:Int}{ρ:Ev}:ij "str" (.int i) ρ=.ok (.bl false,ρ):=(if_neg (show ¬("int"="script") by decide)).trans (congrArg (fun z=>R.ok (U.bl z,ρ)) (show fc "int" "str"=false by decide))
theorem m7 {i:Int}{ρ:Ev}:ij "list" (.int i) ρ=.ok (.bl false,ρ):=(if_neg (show ¬("int"="script") by decide)).trans (congrArg (fun z=>R.ok (U.bl z,ρ)) (show fc "int" "list"=false by decide))
theorem kY {i:Int}{ρ:Ev}:ij "tuple" (.int i) ρ=.ok (.bl false,ρ):=(if_neg (show ¬("int"="script") by decide)).trans (congrArg (fun z=>R.ok (U.bl z,ρ)) (show fc "int" "tuple"=false by decide))
theorem m9 {i:Int}{ρ:Ev}:ij "dict" (.int i) ρ=.ok (.bl false,ρ):=(if_neg (show ¬("int"="script") by decide)).trans (congrArg (fun z=>R.ok (U.bl z,ρ)) (show fc "int" "dict"=false by decide))
theorem m_ {x:Str}{ρ:Ev}:ij "bool" (.str x) ρ=.ok (.bl false,ρ):=(if_neg (show ¬("str"="script") by decide)).trans (congrArg (fun z=>R.ok (U.bl z,ρ)) (show fc "str" "bool"=false by decide))
theorem pU {x:Str}{ρ:Ev}:ij "int" (.str x) ρ=.ok (.bl false,ρ):=(if_neg (show ¬("str"="script") by decide)).trans (congrArg (fun z=>R.ok (U.bl z,ρ)) (show fc "str" "int"=false by decide))
theorem pV {x:Str}{ρ:Ev}:ij "str" (.str x) ρ=.ok (.bl true,ρ):=(if_neg (show ¬("str"="script") by decide)).trans (congrArg (fun z=>R.ok (U.bl z,ρ)) (show fc "str" "str"=true by decide))
theorem ng {x:Str}{ρ:Ev}:ij "list" (.str x) ρ=.ok (.bl false,ρ):=(if_neg (show ¬("str"="script") by decide)).trans (congrArg (fun z=>R.ok (U.bl z,ρ)) (show fc "str" "list"=false by decide))
theorem kZ {x:Str}{ρ:Ev}:ij "tuple" (.str x) ρ=.ok (.bl false,ρ):=(if_neg (show ¬("str"="script") by decide)).trans (congrArg (fun z=>R.ok (U.bl z,ρ)) (show fc "str" "tuple"=false by decide))
theorem nh {x:Str}{ρ:Ev}:ij "dict" (.str x) ρ=.ok (.bl false,ρ):=(if_neg (show ¬("str"="script") by decide)).trans (congrArg (fun z=>R.ok (U.bl z,ρ)) (show fc "str" "dict"=false by decide))
theorem nj {us:List U}{ρ:Ev}:ij "bool" (.tup us) ρ=.ok (.bl false,ρ):=(if_neg (show ¬("tuple"="script") by decide)).trans (congrArg (fun z=>R.ok (U.bl z,ρ)) (show fc "tuple" "bool"=false by decide))
theorem pW {us:List U}{ρ:Ev}:ij "int" (.tup us) ρ=.ok (.bl false,ρ):=(if_neg (show ¬("tuple"="script") by decide)).trans (congrArg (fun z=>R.ok (U.bl z,ρ)) (show fc "tuple" "int"=false by decide))
theorem pX {us:List U}{ρ:Ev}:ij "str" (.tup us) ρ=.ok (.bl false,ρ):=(if_neg (show ¬("tuple"="script") by decide)).trans (congrArg (fun z=>R.ok (U.bl z,ρ)) (show fc "tuple" "str"=false by decide))
theorem nk {us:List U}{ρ:Ev}:ij "list" (.tup us) ρ=.ok (.bl false,ρ):=(if_neg (show ¬("tuple"="script") by decide)).trans (congrArg (fun z=>R.ok (U.bl z,ρ)) (show fc "tuple" "list"=false by decide))
theorem k_ {us:List U}{ρ:Ev}:ij "tuple" (.tup us) ρ=.ok (.bl true,ρ):=(if_neg (show ¬("tuple"="script") by decide)).trans (congrArg (fun z=>R.ok (U.bl z,ρ)) (show fc "tuple" "tuple"=true by decide))
theorem nq {us:List U}{ρ:Ev}:ij "dict" (.tup us) ρ=.ok (.bl false,ρ):=(if_neg (show ¬("tuple"="script") by decide)).trans (congrArg (fun z=>R.ok (U.bl z,ρ)) (show fc "tuple" "dict"=false by decide))
theorem nu {us:List U}{ρ:Ev}:ij "bool" (.lst us) ρ=.ok (.bl false,ρ):=(if_neg (show ¬("list"="script") by decide)).trans (congrArg (fun z=>R.ok (U.bl z,ρ)) (show fc "list" "bool"=false by decide))
theorem pY {us:List U}{ρ:Ev}:ij "int" (.lst us) ρ=.ok (.bl false,ρ):=(if_neg (show ¬("list"="script") by decide)).trans (congrArg (fun z=>R.ok (U.bl z,ρ)) (show fc "list" "int"=false by decide))
theorem pZ {us:List U}{ρ:Ev}:ij "str" (.lst us) ρ=.ok (.bl false,ρ):=(if_neg (show ¬("list"="script") by decide)).trans (congrArg (fun z=>R.ok (U.bl z,ρ)) (show fc "list" "str"=false by decide))
theorem nv {us:List U}{ρ:Ev}:ij "list" (.lst us) ρ=.ok (.bl true,ρ):=(if_neg (show ¬("list"="script") by decide)).trans (congrArg (fun z=>R.ok (U.bl z,ρ)) (show fc "list" "list"=true by decide))
theorem lh {us:List U}{ρ:Ev}:ij "tuple" (.lst us) ρ=.ok (.bl false,ρ):=(if_neg (show ¬("list"="script") by decide)).trans (congrArg (fun z=>R.ok (U.bl z,ρ)) (show fc "list" "tuple"=false by decide))
theorem ny {us:List U}{ρ:Ev}:ij "dict" (.lst us) ρ=.ok (.bl false,ρ):=(if_neg (show ¬("list"="script") by decide)).trans (congrArg (fun z=>R.ok (U.bl z,ρ)) (show fc "list" "dict"=false by decide))
theorem nA {ρ:Ev}:ij "bool" (.dct [] []) ρ=.ok (.bl false,ρ):=(if_neg (show ¬("dict"="script") by decide)).trans (congrArg (fun z=>R.ok (U.bl z,ρ)) (show fc "dict" "bool"=false by decide))
theorem p0 {ρ:Ev}:ij "int" (.dct [] []) ρ=.ok (.bl false,ρ):=(if_neg (show ¬("dict"="script") by decide)).trans (congrArg (fun z=>R.ok (U.bl z,ρ)) (show fc "dict" "int"=false by decide))
theorem p6 {ρ:Ev}:ij "str" (.dct [] []) ρ=.ok (.bl false,ρ):=(if_neg (show ¬("dict"="script") by decide)).trans (congrArg (fun z=>R.ok (U.bl z,ρ)) (show fc "dict" "str"=false by decide))
theorem nB {ρ:Ev}:ij "list" (.dct [] []) ρ=.ok (.bl false,ρ):=(if_neg (show ¬("dict"="script") by decide)).trans (congrArg (fun z=>R.ok (U.bl z,ρ)) (show fc "dict" "list"=false by decide))
theorem lj {ρ:Ev}:ij "tuple" (.dct [] []) ρ=.ok (.bl false,ρ):=(if_neg (show ¬("dict"="script") by decide)).trans (congrArg (fun z=>R.ok (U.bl z,ρ)) (show fc "dict" "tuple"=false by decide))
theorem nC {ρ:Ev}:ij "dict" (.dct [] []) ρ=.ok (.bl true,ρ):=(if_neg (show ¬("dict"="script") by decide)).trans (congrArg (fun z=>R.ok (U.bl z,ρ)) (show fc "dict" "dict"=true by decide))
theorem Eo (i:Int):Kt (.int i):=⟨.int i,by unfold gO;rfl,by unfold cm;lia⟩
theorem Ep:Kt .non:=⟨.non,by unfold gO;rfl,by unfold cm;lia⟩
theorem aA:type_of% @Fp∧type_of% @Be∧type_of% @Qd∧type_of% @qG∧type_of% @Fq∧type_of% @Bf∧type_of% @Kc∧type_of% @Qe∧type_of% @Fs∧type_of% @Bg∧type_of% @Ft∧type_of% @Bh∧type_of% @Fu∧type_of% @Kd∧type_of% @Fv∧type_of% @Ke∧type_of% @xQ∧type_of% @Kf∧type_of% @Bi∧type_of% @xR∧type_of% @Bj∧type_of% @Bk∧type_of% @Kg∧type_of% @Kh∧type_of% @Fy∧type_of% @xT∧type_of% @Ki∧type_of% @Fz∧type_of% @FA∧type_of% @Qi∧type_of% @Bl∧type_of% @xU∧type_of% @FC∧type_of% @xV∧type_of% @Kj∧type_of% @Bm∧type_of% @Bn∧type_of% @xW∧type_of% @Bo∧type_of% @FD∧type_of% @Bp∧type_of% @Bq∧type_of% @Br∧type_of% @Bs∧type_of% @Bt∧type_of% @FE∧type_of% @FF∧type_of% @FG∧type_of% @FH∧type_of% @Bu∧type_of% @FI∧type_of% @FJ∧type_of% @Bv∧type_of% @Bw∧type_of% @FK∧type_of% @Bx∧type_of% @FN∧type_of% @xX∧type_of% @xY∧type_of% @xZ∧type_of% @x_∧type_of% @ya∧type_of% @Bz∧type_of% @BA∧type_of% @BB∧type_of% @BC∧type_of% @BD∧type_of% @BG∧type_of% @BH∧type_of% @FP∧type_of% @FQ∧type_of% @FR∧type_of% @BI∧type_of% @yb∧type_of% @FT∧type_of% @Kn∧type_of% @BK∧type_of% @yc∧type_of% @BL∧type_of% @yd∧type_of% @FU∧type_of% @uQ∧type_of% @rE∧type_of% @rF∧type_of% @BM∧type_of% @BN∧type_of% @BO∧type_of% @FV∧type_of% @FW∧type_of% @BP∧type_of% @FX∧type_of% @FY∧type_of% @FZ∧type_of% @Ko∧type_of% @Kp∧type_of% @zA∧type_of% @Kq∧type_of% @F0∧type_of% @F1∧type_of% @F2∧type_of% @F3∧type_of% @F4∧type_of% @F5∧type_of% @F6∧type_of% @BQ∧type_of% @BR∧type_of% @BS∧type_of% @BU∧type_of% @BV∧type_of% @BW∧type_of% @BX∧type_of% @F7∧type_of% @F8∧type_of% @BY∧type_of% @BZ∧type_of% @Kr∧type_of% @F9∧type_of% @F_∧type_of% @Ga∧type_of% @Fw∧type_of% @mX∧type_of% @pN∧type_of% @pO∧type_of% @mY∧type_of% @kX∧type_of% @mZ∧type_of% @pP∧type_of% @rG∧type_of% @rH∧type_of% @pQ∧type_of% @m4∧type_of% @pR∧type_of% @m6∧type_of% @pS∧type_of% @pT∧type_of% @m7∧type_of% @kY∧type_of% @m9∧type_of% @m_∧type_of% @pU∧type_of% @pV∧type_of% @ng∧type_of% @kZ∧type_of% @nh∧type_of% @nj∧type_of% @pW∧type_of% @pX∧type_of% @nk∧type_of% @k_∧type_of% @nq∧type_of% @nu∧type_of% @pY∧type_of% @pZ∧type_of% @nv∧type_of% @lh∧type_of% @ny∧type_of% @nA∧type_of% @p0∧type_of% @p6∧type_of% @nB∧type_of% @lj∧type_of% @nC∧type_of% @ye∧type_of% @yf :=
 ⟨@Fp,@Be,@Qd,@qG,@Fq,@Bf,@Kc,@Qe,@Fs,@Bg,@Ft,@Bh,@Fu,@Kd,@Fv,@Ke,@xQ,@Kf,@Bi,@xR,@Bj,@Bk,@Kg,@Kh,@Fy,@xT,@Ki,@Fz,@FA,@Qi,@Bl,@xU,@FC,@xV,@Kj,@Bm,@Bn,@xW,@Bo,@FD,@Bp,@Bq,@Br,@Bs,@Bt,@FE,@FF,@FG,@FH,@Bu,@FI,@FJ,@Bv,@Bw,@FK,@Bx,@FN,@xX,@xY,@xZ,@x_,@ya,@Bz,@BA,@BB,@BC,@BD,@BG,@BH,@FP,@FQ,@FR,@BI,@yb,@FT,@Kn,@BK,@yc,@BL,@yd,@FU,@uQ,@rE,@rF,@BM,@BN,@BO,@FV,@FW,@BP,@FX,@FY,@FZ,@Ko,@Kp,@zA,@Kq,@F0,@F1,@F2,@F3,@F4,@F5,@F6,@BQ,@BR,@BS,@BU,@BV,@BW,@BX,@F7,@F8,@BY,@BZ,@Kr,@F9,@F_,@Ga,@Fw,@mX,@pN,@pO,@mY,@kX,@mZ,@pP,@rG,@rH,@pQ,@m4,@pR,@m6,@pS,@pT,@m7,@kY,@m9,@m_,@pU,@pV,@ng,@kZ,@nh,@nj,@pW,@pX,@nk,@k_,@nq,@nu,@pY,@pZ,@nv,@lh,@ny,@nA,@p0,@p6,@nB,@lj,@nC,@ye,@yf⟩
end L2
namespace Hc.Ts
noncomputable def fH:Bool→U5→Array U5→Nat→Nat→Nat→StateT U1 Sem (Option Nat):=sortPriv% PySem.Builtin.gallop
noncomputable def gm (left:Bool)(key:U5)(arr:Array U5)(base i:Nat):StateT U1 Sem (Option Bool):=do
 let x ←Ze arr (base+i)
 if left then lt' x key else return (←lt' key x).map (!·)
theorem wF (left:Bool)(key:U5)(arr:Array U5)(base n hint:Nat):fH left key arr base n hint=(do
 let mut lastofs:=0
 let mut ofs:=1
 let mut lo:=0
 let mut hi:=0
 let some right ←gm left key arr base hint|return none
 if right then
  let maxofs:=n - hint
  for _ in [0:n] do
   if ofs≥maxofs then break
   let some more ←gm left key arr base (hint+ofs)|return none
   if !more then break
   lastofs:=ofs
   ofs:=2*ofs+1
  lo:=hint+lastofs+1
  hi:=hint+min ofs maxofs
 else
  let maxofs:=hint+1
  for _ in [0:n] do
   if ofs≥maxofs then break
   let some found ←gm left key arr base (hint - ofs)|return none
   if found then break
   lastofs:=ofs
   ofs:=2*ofs+1
  lo:=hint+1 - min ofs maxofs
  hi:=hint - lastofs
 for _ in [0:n] do
  if lo≥hi then break
  let m:=lo+(hi - lo) / 2
  let some more ←gm left key arr base m|return none
  if more then lo:=m+1 else hi:=m
 return some hi):=rfl
section
variable {A:VE}
noncomputable def Er (left:Bool)(key:U5)(arr:Array U5)(base n R7 NV:Nat):StateT U1 Sem (Option Nat):=do
 let mut lo:=R7
 let mut hi:=NV
 for _ in [0:n] do
  if lo≥hi then break
  let m:=lo+(hi - lo) / 2
  let some more ←gm left key arr base m|return none
  if more then lo:=m+1 else hi:=m
 return some hi
theorem yg {left:Bool}{key:U5}{base lo hi:Nat}{st:U1}{Q:Option Nat→U1→Prop}(b:Nat→Bool)(hb:∀i,i<n→∀Q:Option Bool→U1→Prop,Q (some (b i)) st→wpS M A E s (gm left key arr base i) Q st)(mono:∀i j,i≤j→j<n→b j=true→b i=true)(h1:lo≤hi)(h2:hi≤n)(hl:∀i,i<lo→b i=true)(hr:∀i,hi≤i→i<n→b i=false)(h:∀k,k≤n→(∀i,i<k→b i=true)→(∀i,k≤i→i<n→b i=false)→Q (some k) st):wpS M A E s (Er left key arr base n lo hi) Q st:=by
 unfold Er
 refine UP (W5 (V1 (I:=fun x c aH=>aH=st∧∃l r,c=(none,l,r)∧l≤r∧r≤n∧r - l≤n - x∧(∀i,i<l→b i=true)∧∀i,r≤i→i<n→b i=false)
  (Q:=fun c aH=>aH=st∧∃k,c=(none,k,k)∧k≤n∧(∀i,i<k→b i=true)∧∀i,k≤i→i<n→b i=false) ?step ?fin ⟨rfl,lo,hi,rfl,h1,h2,by lia,hl,hr⟩) ?post)
 case fin =>
  rintro c aH ⟨rfl,l,r,rfl,a1,a2,a3,a4,a5⟩
  have:l=r:=by lia
  subst this
  exact⟨rfl,l,rfl,a2,a4,a5⟩
 case step =>
  rintro x c aH _ hx ⟨rfl,l,r,rfl,a1,a2,a3,a4,a5⟩
  dsimp only
  by_cases c:l≥r
  ·rw[if_pos c]
   have:l=r:=by lia
   subst this
   exact UW ⟨rfl,l,rfl,a2,a4,a5⟩
  ·rw[if_neg c]
   refine UP (hb _ (by lia) _ ?_)
   dsimp only
   cases e:b (l+(r - l) / 2) with
   |true =>
    rw[if_pos rfl]
    exact UW ⟨rfl,_,r,rfl,by lia,a2,by lia,fun i hi=>mono i _ (by lia) (by lia) e,a5⟩
   |false =>
    rw[if_neg UG]
    refine UW ⟨rfl,l,_,rfl,by lia,by lia,by lia,a4,fun i h1 h2 => ?_⟩
    cases e2:b i with
    |false=>rfl
    |true=>rw[mono _ i h1 h2 e2] at e;cases e
 case post =>
  rintro c aH ⟨rfl,k,rfl,a1,a2,a3⟩
  exact UW (h k a1 a2 a3)
theorem rJ {left:Bool}{key:U5}{base hint:Nat}{st:U1}{Q:Option Nat→U1→Prop}(b:Nat→Bool)(hb:∀i,i<n→∀Q:Option Bool→U1→Prop,Q (some (b i)) st→wpS M A E s (gm left key arr base i) Q st)(mono:∀i j,i≤j→j<n→b j=true→b i=true)(hh:hint<n)(h:∀k,k≤n→(∀i,i<k→b i=true)→(∀i,k≤i→i<n→b i=false)→Q (some k) st):wpS M A E s (fH left key arr base n hint) Q st:=by
 have QM:∀i j,i≤j→j<n→b i=false→b j=false:=fun i j h1 h2 e=>by
  cases e2:b j with
  |false=>rfl
  |true=>rw[mono i j h1 h2 e2] at e;cases e
 rw[wF]
 refine UP (hb hint hh _ ?_)
 dsimp only
 cases e0:b hint with
 |true =>
  rw[if_pos rfl]
  refine UP (W5 (V1 (I:=fun x c aH=>aH=st∧∃l o,c=(none,l,o)∧l<o∧x+1≤o∧hint+l<n∧b (hint+l)=true)
   (Q:=fun c aH=>aH=st∧∃l o,c=(none,l,o)∧l<o∧hint+l<n∧b (hint+l)=true∧(o≥n - hint∨b (hint+o)=false)) ?step ?fin ⟨rfl,0,1,rfl,by lia,by lia,hh,e0⟩) ?post)
  case fin =>
   rintro c aH ⟨rfl,l,o,rfl,a1,a2,a3,a4⟩
   exact⟨rfl,l,o,rfl,a1,a3,a4,.inl (by lia)⟩
  case step =>
   rintro x c aH _ hx ⟨rfl,l,o,rfl,a1,a2,a3,a4⟩
   dsimp only
   by_cases c:o≥n - hint
   ·rw[if_pos c]
    exact UW ⟨rfl,l,o,rfl,a1,a3,a4,.inl c⟩
   ·rw[if_neg c]
    refine UP (hb _ (by lia) _ ?_)
    dsimp only
    cases e:b (hint+o) with
    |true =>
     rw[if_neg (by decide)]
     exact UW ⟨rfl,o,_,rfl,by lia,by lia,by lia,e⟩
    |false =>
     rw[if_pos (by decide)]
     exact UW ⟨rfl,l,o,rfl,a1,a3,a4,.inr e⟩
  case post =>
   rintro c aH ⟨rfl,l,o,rfl,a1,a3,a4,a5⟩
   show wpS _ _ _ _ (Er left key arr base n (hint+l+1) (hint+min o (n - hint))) _ _
   refine yg b hb mono (by lia) (by lia) (fun i hi=>mono i _ (by lia) a3 a4) (fun i h1 h2 => ?_) h
   rcases a5 with a5|a5
   ·lia
   ·by_cases c:o≤n - hint
    ·rw[Wb c] at h1
     exact QM _ i h1 h2 a5
    ·lia
 |false =>
  rw[if_neg UG]
  refine UP (W5 (V1 (I:=fun x c aH=>aH=st∧∃l o,c=(none,l,o)∧l<o∧x+1≤o∧l≤hint∧b (hint - l)=false)
   (Q:=fun c aH=>aH=st∧∃l o,c=(none,l,o)∧l<o∧l≤hint∧b (hint - l)=false∧(o≥hint+1∨b (hint - o)=true)) ?step ?fin ⟨rfl,0,1,rfl,by lia,by lia,by lia,e0⟩) ?post)
  case fin =>
   rintro c aH ⟨rfl,l,o,rfl,a1,a2,a3,a4⟩
   exact⟨rfl,l,o,rfl,a1,a3,a4,.inl (by lia)⟩
  case step =>
   rintro x c aH _ hx ⟨rfl,l,o,rfl,a1,a2,a3,a4⟩
   dsimp only
   by_cases c:o≥hint+1
   ·rw[if_pos c]
    exact UW ⟨rfl,l,o,rfl,a1,a3,a4,.inl c⟩
   ·rw[if_neg c]
    refine UP (hb _ (by lia) _ ?_)
    dsimp only
    cases e:b (hint - o) with
    |true =>
     rw[if_pos rfl]
     exact UW ⟨rfl,l,o,rfl,a1,a3,a4,.inr e⟩
    |false =>
     rw[if_neg UG]
     exact UW ⟨rfl,o,_,rfl,by lia,by lia,by lia,e⟩
  case post =>
   rintro c aH ⟨rfl,l,o,rfl,a1,a3,a4,a5⟩
   show wpS _ _ _ _ (Er left key arr base n (hint+1 - min o (hint+1)) (hint - l)) _ _
   refine yg b hb mono (by lia) (by lia) (fun i hi => ?_) (fun i h1 h2=>QM _ i h1 h2 a4) h
   rcases a5 with a5|a5
   ·lia
   ·by_cases c:o≤hint+1
    ·rw[Wb c] at hi
     exact mono i _ (by lia) (by lia) a5
    ·lia
end
end Hc.Ts
namespace Hc.Ts
section
variable {O:Zy}(key:U5→O.α)
noncomputable def gP (l:List U5):Prop:=l.Pairwise fun x y=>O.kle (key x) (key y)
structure MI (T o ra rb:List U5):Prop where
 perm:(o++(ra++rb)).Perm T
 so:gP key o
 sa:gP key ra
 sb:gP key rb
 oa:∀x∈o,∀y∈ra,O.kle (key x) (key y)
 ob:∀x∈o,∀y∈rb,O.kle (key x) (key y)
structure MH (T ra rb o:List U5):Prop where
 perm:((ra++rb)++o).Perm T
 so:gP key o
 sa:gP key ra
 sb:gP key rb
 oa:∀x∈ra,∀y∈o,O.kle (key x) (key y)
 ob:∀x∈rb,∀y∈o,O.kle (key x) (key y)
variable {key}
theorem bz {r:List U5}:gP key (l++r)↔gP key l∧gP key r∧∀x∈l,∀y∈r,O.kle (key x) (key y):=List.pairwise_append
theorem MI.stepA {x:List U5}(h:MI key T o (x++ra) rb)(hx:∀a∈x,∀b∈rb,O.kle (key a) (key b)):MI key T (o++x) ra rb:=by
 obtain⟨s1,s2,s3⟩:=bz.mp h.sa
 refine⟨?_,bz.mpr ⟨h.so,s1,fun a ha b hb=>h.oa a ha b (V4 _ hb)⟩,s2,h.sb,fun a ha b hb => ?_,fun a ha b hb => ?_⟩
 ·have e:o++x++(ra++rb)=o++(x++ra++rb):=by simp[UZ]
  rw[e];exact h.perm
 ·rcases U2.mp ha with ha|ha
  ·exact h.oa a ha b (U9 _ hb)
  ·exact s3 a ha b hb
 ·rcases U2.mp ha with ha|ha
  ·exact h.ob a ha b hb
  ·exact hx a ha b hb
theorem MI.stepB (h:MI key T o ra (y++rb))(hy:∀b∈y,∀a∈ra,O.kle (key b) (key a)):MI key T (o++y) ra rb:=by
 obtain⟨s1,s2,s3⟩:=bz.mp h.sb
 refine⟨?_,bz.mpr ⟨h.so,s1,fun a ha b hb=>h.ob a ha b (V4 _ hb)⟩,h.sa,s2,fun a ha b hb => ?_,fun a ha b hb => ?_⟩
 ·refine List.Perm.trans ?_ h.perm
  have e:o++y++(ra++rb)=o++((y++ra)++rb):=by simp[UZ]
  have e2:o++(ra++(y++rb))=o++((ra++y)++rb):=by simp[UZ]
  rw[e,e2]
  exact VN o (VZ rb VO)
 ·rcases U2.mp ha with ha|ha
  ·exact h.oa a ha b hb
  ·exact hy a ha b hb
 ·rcases U2.mp ha with ha|ha
  ·exact h.ob a ha b (U9 _ hb)
  ·exact s3 a ha b hb
theorem MI.endA (h:MI key T o ra []):(o++ra).Perm T∧gP key (o++ra):=by
 refine⟨?_,bz.mpr ⟨h.so,h.sa,h.oa⟩⟩
 have:=h.perm
 rw[Vw] at this;exact this
theorem MI.endB (h:MI key T o [] rb):(o++rb).Perm T∧gP key (o++rb):=⟨h.perm,bz.mpr ⟨h.so,h.sb,h.ob⟩⟩
theorem MI.last (h:MI key T o ra rb)(hl:∀b∈rb,∀a∈ra,O.kle (key b) (key a)):(o++(rb++ra)).Perm T∧gP key (o++(rb++ra)) :=
 ⟨(VN o VO).trans h.perm,bz.mpr ⟨h.so,bz.mpr ⟨h.sb,h.sa,hl⟩,fun a ha b hb=>by
  rcases U2.mp hb with hb|hb
  ·exact h.ob a ha b hb
  ·exact h.oa a ha b hb⟩⟩
theorem MH.stepA {x:List U5}(h:MH key T (ra++x) rb o)(hx:∀b∈rb,∀a∈x,O.kle (key b) (key a)):MH key T ra rb (x++o):=by
 obtain⟨s1,s2,s3⟩:=bz.mp h.sa
 refine⟨?_,bz.mpr ⟨s2,h.so,fun a ha b hb=>h.oa a (U9 _ ha) b hb⟩,s1,h.sb,fun a ha b hb => ?_,fun a ha b hb => ?_⟩
 ·refine List.Perm.trans ?_ h.perm
  have e:ra++rb++(x++o)=(ra++(rb++x))++o:=by simp[UZ]
  have e2:ra++x++rb++o=(ra++(x++rb))++o:=by simp[UZ]
  rw[e,e2]
  exact VZ o (VN ra VO)
 ·rcases U2.mp hb with hb|hb
  ·exact s3 a ha b hb
  ·exact h.oa a (V4 _ ha) b hb
 ·rcases U2.mp hb with hb|hb
  ·exact hx a ha b hb
  ·exact h.ob a ha b hb
theorem MH.stepB (h:MH key T ra (rb++y) o)(hy:∀a∈ra,∀b∈y,O.kle (key a) (key b)):MH key T ra rb (y++o):=by
 obtain⟨s1,s2,s3⟩:=bz.mp h.sb
 refine⟨?_,bz.mpr ⟨s2,h.so,fun a ha b hb=>h.ob a (U9 _ ha) b hb⟩,h.sa,s1,fun a ha b hb => ?_,fun a ha b hb => ?_⟩
 ·have e:ra++rb++(y++o)=ra++(rb++y)++o:=by simp[UZ]
  rw[e];exact h.perm
 ·rcases U2.mp hb with hb|hb
  ·exact hy a ha b hb
  ·exact h.oa a ha b hb
 ·rcases U2.mp hb with hb|hb
  ·exact s3 a ha b hb
  ·exact h.ob a (V4 _ ha) b hb
theorem MH.endB (h:MH key T [] rb o):(rb++o).Perm T∧gP key (rb++o):=⟨h.perm,bz.mpr ⟨h.sb,h.so,h.ob⟩⟩
theorem MH.endA (h:MH key T ra [] o):(ra++o).Perm T∧gP key (ra++o):=by
 refine⟨?_,bz.mpr ⟨h.sa,h.so,h.oa⟩⟩
 have:=h.perm
 rw[Vw] at this;exact this
theorem MH.first (h:MH key T ra rb o)(hl:∀b∈rb,∀a∈ra,O.kle (key b) (key a)):((rb++ra)++o).Perm T∧gP key ((rb++ra)++o) :=
 ⟨(VZ o VO).trans h.perm,bz.mpr ⟨bz.mpr ⟨h.sb,h.sa,hl⟩,h.so,fun a ha b hb=>by
  rcases U2.mp ha with ha|ha
  ·exact h.ob a ha b hb
  ·exact h.oa a ha b hb⟩⟩
end
structure jV (M:Model)(A:VE)(E:Uz→UQ→Prop)(s:UQ)(O:Zy)(key:U5→O.α)(knd:XS)(D:U5→Prop):Prop where
 lt:∀(x y:U5) (st:U1) (Q:Option Bool→U1→Prop),D x→D y→V0 st=knd→Q (some (O.blt (key x) (key y))) st→wpS M A E s (lt' x y) Q st
section
variable {A:VE}{O:Zy}{key:U5→O.α}{knd:XS}{D:U5→Prop}
theorem bH {x:U5}{st:U1}{Q:U5→U1→Prop}(h:arr.toList[i]? = some x)(q:Q x st):wpS M A E s (Ze arr i) Q st:=by
 have h:arr[i]? = some x:=by rw[←U_];exact h
 rw[elem'_eq,h]
 exact UW q
theorem j7 (C:jV M A E s O key knd D){kx:U5}{base hint:Nat}{seg:List U5}{st:U1}{Q:Option Nat→U1→Prop}(Jb:∀i x,seg[i]? = some x→arr.toList[base+i]? = some x)(hs:gP key seg)(hD:∀x∈seg,D x)(hk:D kx)(kd:V0 st=knd)(hh:hint<seg.length)(h:∀k,k≤seg.length→(∀x∈seg.take k,O.kle (key x) (key kx))→(∀x∈seg.drop k,O.klt (key kx) (key x))→Q (some k) st):wpS M A E s (fH false kx arr base seg.length hint) Q st:=by
 have at_:∀i,(hi:i<seg.length)→seg[i]? = some seg[i]:=fun i hi=>Uv hi
 refine rJ (fun i => !(match seg[i]? with|some x=>O.blt (key kx) (key x)|none=>false)) (fun i hi Q q => ?_) (fun i j vO hj e => ?_) hh fun k zW h1 h2=>h k zW (fun x hx => ?_) fun x hx => ?_
 ·rw[at_ i hi] at q
  unfold gm
  refine UP (bH (Jb i _ (at_ i hi)) ?_)
  rw[if_neg UG]
  exact UP (C.lt _ _ st _ hk (hD _ (VA hi)) kd (UW q))
 ·have hi:i<seg.length:=by lia
  simp only[at_ i hi,at_ j hj,Bool.not_eq_true'] at e ⊢
  by_cases c:i=j
  ·subst c;exact e
  ·have:=W_.mp hs i j hi hj (by lia)
   exact Vm this e
 ·obtain⟨i,hi,rfl⟩:=WC.mp hx
  rw[U7] at hi
  have:=h1 i (by lia)
  simp only[at_ i (by lia),Bool.not_eq_true'] at this
  rw[Yq]
  exact this
 ·obtain⟨i,hi,rfl⟩:=WC.mp hx
  rw[Vl] at hi
  have:=h2 (k+i) (by lia) (by lia)
  simp only[at_ (k+i) (by lia),Bool.not_eq_false'] at this
  rw[List.getElem_drop]
  exact this
theorem j8 (C:jV M A E s O key knd D){kx:U5}{base hint:Nat}{seg:List U5}{st:U1}{Q:Option Nat→U1→Prop}(Jb:∀i x,seg[i]? = some x→arr.toList[base+i]? = some x)(hs:gP key seg)(hD:∀x∈seg,D x)(hk:D kx)(kd:V0 st=knd)(hh:hint<seg.length)(h:∀k,k≤seg.length→(∀x∈seg.take k,O.klt (key x) (key kx))→(∀x∈seg.drop k,O.kle (key kx) (key x))→Q (some k) st):wpS M A E s (fH true kx arr base seg.length hint) Q st:=by
 have at_:∀i,(hi:i<seg.length)→seg[i]? = some seg[i]:=fun i hi=>Uv hi
 refine rJ (fun i=>match seg[i]? with|some x=>O.blt (key x) (key kx)|none=>false) (fun i hi Q q => ?_) (fun i j vO hj e => ?_) hh fun k zW h1 h2=>h k zW (fun x hx => ?_) fun x hx => ?_
 ·rw[at_ i hi] at q
  unfold gm
  refine UP (bH (Jb i _ (at_ i hi)) ?_)
  rw[if_pos rfl]
  exact C.lt _ _ st _ (hD _ (VA hi)) hk kd q
 ·have hi:i<seg.length:=by lia
  simp only[at_ i hi,at_ j hj] at e ⊢
  by_cases c:i=j
  ·subst c;exact e
  ·have:=W_.mp hs i j hi hj (by lia)
   exact KeyOrd.klt_of_kle_of_klt this e
 ·obtain⟨i,hi,rfl⟩:=WC.mp hx
  rw[U7] at hi
  have:=h1 i (by lia)
  simp only[at_ i (by lia)] at this
  rw[Yq]
  exact this
 ·obtain⟨i,hi,rfl⟩:=WC.mp hx
  rw[Vl] at hi
  have:=h2 (k+i) (by lia) (by lia)
  simp only[at_ (k+i) (by lia)] at this
  rw[List.getElem_drop]
  exact this
end
end Hc.Ts
namespace Hc.Ts
noncomputable abbrev dA (st:U1)(g:Nat):U1:=SortSt.mk' (V0 st) (Vq st) (Vk st) g (XT st)
noncomputable def cx (g:Nat):StateT U1 Sem Unit:=modify fun s=>dA s g
noncomputable def p7:Array U5→Array U5→StateT U1 Sem (Array U5):=sortPriv% PySem.Builtin.mergeLo
noncomputable abbrev Gd:=Option (Array U5)×Array U5×Nat×Nat×Nat×Nat×Nat
noncomputable abbrev Ji:=Option (Array U5)×Array U5×Nat×Nat×Nat×Nat
noncomputable abbrev LY:=Option (Array U5)×Array U5×Nat×Nat×Nat
noncomputable def f_ (a b out:Array U5)(ia ib:Nat):Array U5:=out++a.extract ia a.size++b.extract ib b.size
noncomputable def j9 (a b out:Array U5)(ia ib:Nat):Array U5:=out++b.extract ib b.size++a.extract ia a.size
noncomputable def Es (a b out:Array U5)(ia ib g k k1:Nat):StateT U1 Sem (ForInStep Gd):=do
 let x ←Ze a ia
 if (ia+1+1==a.size)=true then pure (.done (some (j9 a b (out.push x) (ia+1) ib),out.push x,ia+1,ib,g,k,k1))
 else if (decide (k<7)&&decide (k1<7))=true then pure (.done (none,out.push x,ia+1,ib,g,k,k1))
 else pure (.yield (none,out.push x,ia+1,ib,g,k,k1))
noncomputable def Et (a b out:Array U5)(ia ib g k bc:Nat):StateT U1 Sem (ForInStep Gd):=do
 let y ←Ze b ib
 if (ib+1==b.size)=true then pure (.done (some (f_ a b (out.push y) ia (ib+1)),out.push y,ia,ib+1,g,k,bc))
 else do
  let x ←Ze a ia
  let some k1 ←fH true x b (ib+1) (b.size - (ib+1)) 0|pure (.done (some (f_ a b (out.push y) ia (ib+1)),out.push y,ia,ib+1,g,k,bc))
  if k1>0 then
   if (ib+1+k1==b.size)=true then pure (.done (some (f_ a b (out.push y++b.extract (ib+1) (ib+1+k1)) ia (ib+1+k1)),out.push y++b.extract (ib+1) (ib+1+k1),ia,ib+1+k1,g,k,k1))
   else Es a b (out.push y++b.extract (ib+1) (ib+1+k1)) ia (ib+1+k1) g k k1
  else Es a b (out.push y) ia (ib+1) g k k1
noncomputable def Eu (a b out:Array U5)(ia ib g ac bc:Nat):StateT U1 Sem (ForInStep Gd):=do
 cx g
 let y ←Ze b ib
 let some k ←fH false y a ia (a.size - ia) 0|pure (.done (some (f_ a b out ia ib),out,ia,ib,g,ac,bc))
 if k>0 then
  if (ia+k+1==a.size)=true then pure (.done (some (j9 a b (out++a.extract ia (ia+k)) (ia+k) ib),out++a.extract ia (ia+k),ia+k,ib,g,k,bc))
  else if (ia+k==a.size)=true then pure (.done (some (f_ a b (out++a.extract ia (ia+k)) (ia+k) ib),out++a.extract ia (ia+k),ia+k,ib,g,k,bc))
  else Et a b (out++a.extract ia (ia+k)) (ia+k) ib g k bc
 else Et a b out ia ib g k bc
noncomputable def M8 (a b:Array U5)(_:Nat)(c:Gd):StateT U1 Sem (ForInStep Gd) :=
 if c.2.2.2.2.1>1 then Eu a b c.2.1 c.2.2.1 c.2.2.2.1 (c.2.2.2.2.1 - 1) c.2.2.2.2.2.1 c.2.2.2.2.2.2
 else Eu a b c.2.1 c.2.2.1 c.2.2.2.1 c.2.2.2.2.1 c.2.2.2.2.2.1 c.2.2.2.2.2.2
noncomputable def M9 (a b:Array U5)(g:Nat)(_:Nat)(c:Ji):StateT U1 Sem (ForInStep Ji):=do
 let y ←Ze b c.2.2.2.1
 let x ←Ze a c.2.2.1
 let some bWins ←lt' y x|pure (.done (some (f_ a b c.2.1 c.2.2.1 c.2.2.2.1),c.2.1,c.2.2.1,c.2.2.2.1,c.2.2.2.2.1,c.2.2.2.2.2))
 if bWins=true then do
   let y ←Ze b c.2.2.2.1
   if (c.2.2.2.1+1==b.size)=true then pure (.done (some (f_ a b (c.2.1.push y) c.2.2.1 (c.2.2.2.1+1)),c.2.1.push y,c.2.2.1,c.2.2.2.1+1,0,c.2.2.2.2.2+1))
   else if c.2.2.2.2.2+1≥g then pure (.done (none,c.2.1.push y,c.2.2.1,c.2.2.2.1+1,0,c.2.2.2.2.2+1))
   else pure (.yield (none,c.2.1.push y,c.2.2.1,c.2.2.2.1+1,0,c.2.2.2.2.2+1))
 else do
   let x ←Ze a c.2.2.1
   if (c.2.2.1+1+1==a.size)=true then pure (.done (some (j9 a b (c.2.1.push x) (c.2.2.1+1) c.2.2.2.1),c.2.1.push x,c.2.2.1+1,c.2.2.2.1,c.2.2.2.2.1+1,0))
   else if c.2.2.2.2.1+1≥g then pure (.done (none,c.2.1.push x,c.2.2.1+1,c.2.2.2.1,c.2.2.2.2.1+1,0))
   else pure (.yield (none,c.2.1.push x,c.2.2.1+1,c.2.2.2.1,c.2.2.2.2.1+1,0))
noncomputable def M_ (a b:Array U5)(_:Nat)(c:LY):StateT U1 Sem (ForInStep LY):=do
 let d ←forIn [0:a.size+b.size] (none,c.2.1,c.2.2.1,c.2.2.2.1,0,0) (M9 a b c.2.2.2.2)
 match d.1 with
 |some r=>pure (.done (some r,d.2.1,d.2.2.1,d.2.2.2.1,c.2.2.2.2))
 |none=>do
  liftM (rule "list.sort.gallop")
  let e ←forIn [0:a.size+b.size] (none,d.2.1,d.2.2.1,d.2.2.2.1,c.2.2.2.2+1,d.2.2.2.2.1,d.2.2.2.2.2) (M8 a b)
  match e.1 with
  |some r=>pure (.done (some r,e.2.1,e.2.2.1,e.2.2.2.1,e.2.2.2.2.1))
  |none=>do
   cx (e.2.2.2.2.1+1)
   pure (.yield (none,e.2.1,e.2.2.1,e.2.2.2.1,e.2.2.2.2.1+1))
theorem sV (a b:Array U5):p7 a b=(do
  liftM (rule "list.sort.merge-lo")
  let y ←Ze b 0
  if (1==b.size)=true then pure (f_ a b #[y] 0 1)
  else if (0+1==a.size)=true then pure (j9 a b #[y] 0 1)
  else do
   let st ←get
   let c ←forIn [0:a.size+b.size] ((none,#[y],0,1,Za st):LY) (M_ a b)
   match c.1 with
   |some r=>pure r
   |none=>liftM (XW "internal:list.sort.merge-bound")):=by kernel_rfl
section
variable {A:VE}{O:Zy}{key:U5→O.α}{knd:XS}{D:U5→Prop}
theorem oz (a:Array U5)(i:Nat):(a.extract i a.size).toList=a.toList.drop i:=by
 rw[Xc,Xb]
 exact V7 (by simp)
theorem sW (a:Array U5)(i k:Nat):(a.extract i (i+k)).toList=(a.toList.drop i).take k:=by
 rw[Xc,Xb,Wr]
theorem uS (a b out:Array U5)(ia ib:Nat):(f_ a b out ia ib).toList=out.toList++(a.toList.drop ia++b.toList.drop ib):=by
 unfold f_;rw[VF,VF,oz,oz,UZ]
theorem B2 (a b out:Array U5)(ia ib:Nat):(j9 a b out ia ib).toList=out.toList++(b.toList.drop ib++a.toList.drop ia):=by
 unfold j9;rw[VF,VF,oz,oz,UZ]
theorem jF (h:i<l.length):l.drop i=[l[i]]++l.drop (i+1):=V9 h
theorem p8 (i k:Nat):l.drop i=(l.drop i).take k++l.drop (i+k):=by rw[←Zf,Vr]
noncomputable def oA (key:U5→O.α)(T:List U5)(r:Array U5):Prop:=r.toList.Perm T∧gP key r.toList
structure LI (key:U5→O.α)(T:List U5)(a b out:Array U5)(ia ib:Nat):Prop where
 ha:ia+1<a.size
 hb:ib<b.size
 mi:MI key T out.toList (a.toList.drop ia) (b.toList.drop ib)
structure LR (key:U5→O.α)(D:U5→Prop)(a b:Array U5):Prop where
 da:∀x∈a.toList,D x
 db:∀x∈b.toList,D x
 last:∀i,i+1=a.size→∀y∈b.toList,∀x,a.toList[i]? = some x→O.kle (key y) (key x)
variable {a b out:Array U5}{ia ib:Nat}
theorem LR.fin (R:LR key D a b)(h:MI key T out.toList (a.toList.drop ia) (b.toList.drop ib))(e:ia+1=a.size):oA key T (j9 a b out ia ib):=by
 unfold oA;rw[B2]
 refine h.last fun y hy x hx => ?_
 have hl:ia<a.toList.length:=by rw[UE];lia
 have hn:a.toList.drop (ia+1)=[]:=Xo (by rw[UE];lia)
 rw[jF hl,hn,Vw,U6] at hx
 subst hx
 exact R.last ia e y (WD hy) _ (Uv hl)
theorem yi (h:MI key T out.toList (a.toList.drop ia) (b.toList.drop ib))(e:ib=b.size):oA key T (f_ a b out ia ib):=by
 have hn:b.toList.drop ib=[]:=Xo (by rw[UE];lia)
 unfold oA;rw[uS]
 rw[hn] at h ⊢;rw[Vw]
 exact h.endA
theorem Ku (h:MI key T out.toList (a.toList.drop ia) (b.toList.drop ib))(e:ia=a.size):oA key T (f_ a b out ia ib):=by
 have hn:a.toList.drop ia=[]:=Xo (by rw[UE];lia)
 unfold oA;rw[uS]
 rw[hn] at h ⊢;rw[Wc]
 exact h.endB
theorem ji (h:gP key (l.drop i))(hl:i<l.length):∀x∈l.drop i,O.kle (key l[i]) (key x):=by
 intro x hx
 rw[jF hl] at h hx
 rcases U2.mp hx with hx|hx
 ·rw[U6] at hx;subst hx;exact Wd _
 ·exact (bz.mp h).2.2 _ (by simp) x hx
theorem Ge (h:MI key T out.toList (a.toList.drop ia) (b.toList.drop ib))(hl:ia<a.toList.length)(hx:∀y∈b.toList.drop ib,O.kle (key a.toList[ia]) (key y)):MI key T (out.push a.toList[ia]).toList (a.toList.drop (ia+1)) (b.toList.drop ib):=by
 rw[Xh]
 rw[jF hl] at h
 exact h.stepA fun x oI y hy=>by rw[U6] at oI;subst oI;exact hx y hy
theorem B3 (h:MI key T out.toList (a.toList.drop ia) (b.toList.drop ib))(hl:ib<b.toList.length)(hx:∀x∈a.toList.drop ia,O.kle (key b.toList[ib]) (key x)):MI key T (out.push b.toList[ib]).toList (a.toList.drop ia) (b.toList.drop (ib+1)):=by
 rw[Xh]
 rw[jF hl] at h
 exact h.stepB fun x oI y hy=>by rw[U6] at oI;subst oI;exact hx y hy
noncomputable def GE (key:U5→O.α)(T:List U5)(a b:Array U5)(n:Nat)(cO:U1)(c:Gd)(st:U1):Prop :=
 (∃g,st=dA cO g)∧((∃r,c.1=some r∧oA key T r)∨(c.1=none∧LI key T a b c.2.1 c.2.2.1 c.2.2.2.1∧n≤c.2.2.1+c.2.2.2.1))
noncomputable def GS (key:U5→O.α)(T:List U5)(a b:Array U5)(n:Nat)(cO:U1)(r:ForInStep Gd)(st:U1):Prop :=
 match r with
 | .done c=>GE key T a b n cO c st
 | .yield c=>GE key T a b n cO c st∧c.1=none
theorem yj (R:LR key D a b){k1:Nat}{st cO:U1}(g8:∃g,st=dA cO g)(h:LI key T a b out ia ib)(hn:n≤ia+ib)(hx:∀(hl:ia<a.toList.length),∀y∈b.toList.drop ib,O.kle (key a.toList[ia]) (key y)) :
  wpS M A E s (Es a b out ia ib g k k1) (GS key T a b n cO) st:=by
 have hl:ia<a.toList.length:=by have:=h.ha;rw[UE];lia
 have m:=Ge h.mi hl (hx hl)
 unfold Es
 refine UP (bH (Uv hl) ?_)
 by_cases c:ia+1+1=a.size
 ·rw[if_pos (by simpa using c)]
  exact UW ⟨g8,.inl ⟨_,rfl,R.fin m c⟩⟩
 ·rw[if_neg (by simpa using c)]
  have L:LI key T a b (out.push a.toList[ia]) (ia+1) ib:=⟨by have:=h.ha;lia,h.hb,m⟩
  by_cases c2:(decide (k<7)&&decide (k1<7))=true
  ·rw[if_pos c2]
   exact UW ⟨g8,.inr ⟨rfl,L,by simp only;lia⟩⟩
  ·rw[if_neg c2]
   exact UW ⟨⟨g8,.inr ⟨rfl,L,by simp only;lia⟩⟩,rfl⟩
theorem yk (C:jV M A E s O key knd D)(R:LR key D a b){st cO:U1}(g8:∃g,st=dA cO g)(kd:V0 cO=knd)(h:LI key T a b out ia ib)(hn:n≤ia+ib)(hx:∀(hl:ib<b.toList.length),∀x∈a.toList.drop ia,O.kle (key b.toList[ib]) (key x)) :
  wpS M A E s (Et a b out ia ib g k bc) (GS key T a b n cO) st:=by
 have ko:ib<b.toList.length:=by have:=h.hb;rw[UE];lia
 have oq:ia<a.toList.length:=by have:=h.ha;rw[UE];lia
 have m:=B3 h.mi ko (hx ko)
 have CY:V0 st=knd:=by obtain⟨g,rfl⟩:=g8;exact kd
 unfold Et
 refine UP (bH (Uv ko) ?_)
 by_cases c:ib+1=b.size
 ·rw[if_pos (by simpa using c)]
  exact UW ⟨g8,.inl ⟨_,rfl,yi m c⟩⟩
 ·rw[if_neg (by simpa using c)]
  refine UP (bH (Uv oq) ?_)
  have cY:b.size - (ib+1)=(b.toList.drop (ib+1)).length:=by rw[Vl,UE]
  rw[cY]
  refine UP (j8 C (seg:=b.toList.drop (ib+1)) (fun i x e=>by rw[X_] at e;exact e) m.sb (fun x hx=>R.db x (WD hx)) (R.da _ (VA oq)) CY (by rw[←cY];have:=h.hb;lia) fun k1 zW p1 p2 => ?_)
  dsimp only
  by_cases c1:k1>0
  ·rw[if_pos c1]
   have m2:MI key T (out.push b.toList[ib]++b.extract (ib+1) (ib+1+k1)).toList (a.toList.drop ia) (b.toList.drop (ib+1+k1)):=by
    rw[VF,sW]
    have m':=m
    rw[p8 (l:=b.toList) (ib+1) k1] at m'
    exact m'.stepB fun y hy x oI=>Vm (VD (p1 y hy)) (ji h.mi.sa oq x oI)
   by_cases c2:ib+1+k1=b.size
   ·rw[if_pos (by simpa using c2)]
    exact UW ⟨g8,.inl ⟨_,rfl,yi m2 c2⟩⟩
   ·rw[if_neg (by simpa using c2)]
    have:k1≤b.size - (ib+1):=by rw[cY];exact zW
    refine yj R g8 ⟨h.ha,by have:=h.hb;lia,m2⟩ (by lia) fun hl y hy => ?_
    rw[←Zf] at hy
    exact p2 y hy
  ·rw[if_neg c1]
   have:k1=0:=by lia
   subst this
   refine yj R g8 ⟨h.ha,by have:=h.hb;lia,m⟩ (by lia) fun hl y hy=>p2 y hy
theorem ym (C:jV M A E s O key knd D)(R:LR key D a b){ac:Nat}{st cO:U1}(g8:∃g,st=dA cO g)(kd:V0 cO=knd)(h:LI key T a b out ia ib)(hn:n≤ia+ib) :
  wpS M A E s (Eu a b out ia ib g ac bc) (GS key T a b n cO) st:=by
 have ko:ib<b.toList.length:=by have:=h.hb;rw[UE];lia
 have oq:ia<a.toList.length:=by have:=h.ha;rw[UE];lia
 unfold Eu cx
 have vP:∃g',dA st g=dA cO g':=by obtain⟨g0,rfl⟩:=g8;exact⟨g,rfl⟩
 have CY:V0 (dA st g)=knd:=by obtain⟨g0,rfl⟩:=g8;exact kd
 refine UP (X0 ?_)
 refine UP (bH (Uv ko) ?_)
 have cY:a.size - ia=(a.toList.drop ia).length:=by rw[Vl,UE]
 rw[cY]
 refine UP (j7 C (seg:=a.toList.drop ia) (fun i x e=>by rw[X_] at e;exact e) h.mi.sa (fun x hx=>R.da x (WD hx)) (R.db _ (VA ko)) CY (by rw[←cY];have:=h.ha;lia) fun k hk p1 p2 => ?_)
 dsimp only
 by_cases c1:k>0
 ·rw[if_pos c1]
  have m2:MI key T (out++a.extract ia (ia+k)).toList (a.toList.drop (ia+k)) (b.toList.drop ib):=by
   rw[VF,sW]
   have m':=h.mi
   rw[p8 (l:=a.toList) ia k] at m'
   exact m'.stepA fun x hx y hy=>Vm (p1 x hx) (ji h.mi.sb ko y hy)
  by_cases c2:ia+k+1=a.size
  ·rw[if_pos (by simpa using c2)]
   exact UW ⟨vP,.inl ⟨_,rfl,R.fin m2 c2⟩⟩
  ·rw[if_neg (by simpa using c2)]
   by_cases c3:ia+k=a.size
   ·rw[if_pos (by simpa using c3)]
    exact UW ⟨vP,.inl ⟨_,rfl,Ku m2 c3⟩⟩
   ·rw[if_neg (by simpa using c3)]
    have:k≤a.size - ia:=by rw[cY];exact hk
    refine yk C R vP kd ⟨by have:=h.ha;lia,h.hb,m2⟩ (by lia) fun hl x hx => ?_
    rw[←Zf] at hx
    exact VD (p2 x hx)
 ·rw[if_neg c1]
  have:k=0:=by lia
  subst this
  exact yk C R vP kd h hn fun hl x hx=>VD (p2 x hx)
theorem HY (C:jV M A E s O key knd D)(R:LR key D a b){c:Gd}{st cO:U1}(g8:∃g,st=dA cO g)(kd:V0 cO=knd)(h:LI key T a b c.2.1 c.2.2.1 c.2.2.2.1)(hn:n≤c.2.2.1+c.2.2.2.1) :
  wpS M A E s (M8 a b i c) (GS key T a b n cO) st:=by
 unfold M8
 split
 ·exact ym C R g8 kd h hn
 ·exact ym C R g8 kd h hn
theorem HZ (C:jV M A E s O key knd D)(R:LR key D a b){c:Ji}{st:U1}{Q:ForInStep Ji→U1→Prop}(kd:V0 st=knd)(h:LI key T a b c.2.1 c.2.2.1 c.2.2.2.1)(h1:∀d:Ji,(∃r,d.1=some r∧oA key T r)∨(d.1=none∧LI key T a b d.2.1 d.2.2.1 d.2.2.2.1∧c.2.2.1+c.2.2.2.1+1=d.2.2.1+d.2.2.2.1)→Q (.done d) st)(h2:∀d:Ji,d.1=none→LI key T a b d.2.1 d.2.2.1 d.2.2.2.1→c.2.2.1+c.2.2.2.1+1=d.2.2.1+d.2.2.2.1→Q (.yield d) st) :
  wpS M A E s (M9 a b g i c) Q st:=by
 obtain⟨r0,out,ia,ib,ac,bc⟩:=c
 dsimp only at h h1 h2 ⊢
 have ko:ib<b.toList.length:=by have:=h.hb;rw[UE];lia
 have oq:ia<a.toList.length:=by have:=h.ha;rw[UE];lia
 unfold M9
 dsimp only
 refine UP (bH (Uv ko) ?_)
 refine UP (bH (Uv oq) ?_)
 refine UP (C.lt _ _ st _ (R.db _ (VA ko)) (R.da _ (VA oq)) kd ?_)
 dsimp only
 cases e:O.blt (key b.toList[ib]) (key a.toList[ia]) with
 |true =>
  rw[if_pos rfl]
  have m:=B3 h.mi ko fun x hx=>Vm (VD e) (ji h.mi.sa oq x hx)
  refine UP (bH (Uv ko) ?_)
  by_cases c:ib+1=b.size
  ·rw[if_pos (by simpa using c)]
   exact UW (h1 _ (.inl ⟨_,rfl,yi m c⟩))
  ·rw[if_neg (by simpa using c)]
   have L:LI key T a b (out.push b.toList[ib]) ia (ib+1):=⟨h.ha,by have:=h.hb;lia,m⟩
   split
   ·exact UW (h1 _ (.inr ⟨rfl,L,by simp only;lia⟩))
   ·exact UW (h2 _ rfl L (by simp only;lia))
 |false =>
  rw[if_neg UG]
  have m:=Ge h.mi oq fun y hy=>Vm (show O.kle _ _ from e) (ji h.mi.sb ko y hy)
  refine UP (bH (Uv oq) ?_)
  by_cases c:ia+1+1=a.size
  ·rw[if_pos (by simpa using c)]
   exact UW (h1 _ (.inl ⟨_,rfl,R.fin m c⟩))
  ·rw[if_neg (by simpa using c)]
   have L:LI key T a b (out.push a.toList[ia]) (ia+1) ib:=⟨by have:=h.ha;lia,h.hb,m⟩
   split
   ·exact UW (h1 _ (.inr ⟨rfl,L,by simp only;lia⟩))
   ·exact UW (h2 _ rfl L (by simp only;lia))
theorem H0 (C:jV M A E s O key knd D)(R:LR key D a b){c:LY}{st cO:U1}(g8:∃g,st=dA cO g)(kd:V0 cO=knd)(h:LI key T a b c.2.1 c.2.2.1 c.2.2.2.1) :
  wpS M A E s (M_ a b i c) (fun r aH=>(∃g,aH=dA cO g)∧match r with
   | .done d=>∃r,d.1=some r∧oA key T r
   | .yield d=>d.1=none∧LI key T a b d.2.1 d.2.2.1 d.2.2.2.1∧c.2.2.1+c.2.2.2.1+1≤d.2.2.1+d.2.2.2.1) st:=by
 obtain⟨r0,out,ia,ib,g0⟩:=c
 dsimp only at h ⊢
 have CY:V0 st=knd:=by obtain⟨g,rfl⟩:=g8;exact kd
 unfold M_
 dsimp only
 have hs:1≤a.size+b.size:=by have:=h.hb;lia
 refine UP (W5 (V1 (I:=fun x d aH=>aH=st∧d.1=none∧LI key T a b d.2.1 d.2.2.1 d.2.2.2.1∧ia+ib+x=d.2.2.1+d.2.2.2.1)
  (Q:=fun d aH=>aH=st∧((∃r,d.1=some r∧oA key T r)∨(d.1=none∧LI key T a b d.2.1 d.2.2.1 d.2.2.2.1∧ia+ib+1≤d.2.2.1+d.2.2.2.1))) ?step ?fin ⟨rfl,rfl,h,by simp only;lia⟩) ?post)
 case fin =>
  rintro d aH ⟨rfl,e1,e2,e3⟩
  exact⟨rfl,.inr ⟨e1,e2,by lia⟩⟩
 case step =>
  rintro x d aH _ hx ⟨rfl,e1,e2,e3⟩
  refine HZ C R CY e2 (fun d' hd => ?_) fun d' p1 p2 p3 => ?_
  ·rcases hd with hd|⟨p1,p2,p3⟩
   ·exact⟨rfl,.inl hd⟩
   ·exact⟨rfl,.inr ⟨p1,p2,by lia⟩⟩
  ·exact⟨rfl,p1,p2,by lia⟩
 case post =>
  rintro d aH ⟨rfl,hd⟩
  obtain⟨dr,dout,dia,dib,dac,dbc⟩:=d
  dsimp only at hd ⊢
  rcases hd with⟨r,rfl,hr⟩|⟨rfl,hL,hn⟩
  ·exact UW ⟨g8,r,rfl,hr⟩
  ·dsimp only
   refine UP (wpS_lift (Xn ⟨rfl,?_⟩))
   refine UP (W5 (V1 (I:=fun x d aH=>GE key T a b (ia+ib+1) cO d aH∧d.1=none)
    (Q:=fun d aH=>GE key T a b (ia+ib+1) cO d aH) ?_ (fun d aH h=>h.1) ⟨⟨g8,.inr ⟨rfl,hL,hn⟩⟩,rfl⟩) ?_)
   ·rintro x d aH _ hx ⟨⟨hs',hd⟩,e1⟩
    rcases hd with⟨r,e2,_⟩|⟨_,e3,e4⟩
    ·rw[e1] at e2;cases e2
    ·refine W5 (HY C R hs' kd e3 e4) fun r Jc hr => ?_
     cases r with
     |done d'=>exact hr
     |yield d'=>exact hr
   ·rintro d aH ⟨hs',hd⟩
    obtain⟨er,eout,eia,eib,eg,eac,ebc⟩:=d
    dsimp only at hd ⊢
    rcases hd with⟨r,rfl,hr⟩|⟨rfl,hL2,GB⟩
    ·exact UW ⟨hs',r,rfl,hr⟩
    ·dsimp only
     unfold cx
     refine UP (X0 (UW ⟨?_,rfl,hL2,GB⟩))
     obtain⟨g,rfl⟩:=hs'
     exact⟨_,rfl⟩
theorem wG (C:jV M A E s O key knd D)(R:LR key D a b){st:U1}{Q:Array U5→U1→Prop}(kd:V0 st=knd)(sa:gP key a.toList)(sb:gP key b.toList)(ha:0<a.size)(hb:0<b.size)
  (first:∀y,b.toList[0]? = some y→∀x∈a.toList,O.kle (key y) (key x))
  (h:∀r g,r.toList.Perm (a.toList++b.toList)→gP key r.toList→Q r (dA st g)):wpS M A E s (p7 a b) Q st:=by
 have ko:0<b.toList.length:=by rw[UE];exact hb
 have m:MI key (a.toList++b.toList) (#[b.toList[0]]:Array U5).toList (a.toList.drop 0) (b.toList.drop 1):=by
  have m0:MI key (a.toList++b.toList) (#[]:Array U5).toList (a.toList.drop 0) (b.toList.drop 0) :=
   ⟨by simp,List.Pairwise.nil,sa,sb,fun x hx=>absurd hx (by simp),fun x hx=>absurd hx (by simp)⟩
  exact B3 m0 ko (fun x hx=>first _ (Uv ko) x hx)
 have fin:∀r g,oA key (a.toList++b.toList) r→Q r (dA st g):=fun r g hr=>h r g hr.1 hr.2
 rw[sV]
 refine UP (wpS_lift (Xn ⟨rfl,?_⟩))
 refine UP (bH (Uv ko) ?_)
 by_cases c:1=b.size
 ·rw[if_pos (by simpa using c)]
  exact UW (fin _ (Za st) (yi m c))
 ·rw[if_neg (by simpa using c)]
  by_cases c2:0+1=a.size
  ·rw[if_pos (by simpa using c2)]
   exact UW (fin _ (Za st) (R.fin m c2))
  ·rw[if_neg (by simpa using c2)]
   refine UP (Zg ?_)
   refine UP (W5 (V1 (I:=fun x d aH=>(∃g,aH=dA st g)∧d.1=none∧LI key (a.toList++b.toList) a b d.2.1 d.2.2.1 d.2.2.2.1∧x≤d.2.2.1+d.2.2.2.1)
    (Q:=fun d aH=>(∃g,aH=dA st g)∧∃r,d.1=some r∧oA key (a.toList++b.toList) r) ?step ?fin ⟨⟨Za st,rfl⟩,rfl,⟨by simp only;lia,by simp only;lia,m⟩,by simp only;lia⟩) ?post)
   case fin =>
    rintro d aH ⟨hs',e1,e2,e3⟩
    have:=e2.ha;have:=e2.hb;lia
   case step =>
    rintro x d aH _ hx ⟨hs',e1,e2,e3⟩
    refine W5 (H0 C R hs' kd e2) fun r Jc hr => ?_
    obtain⟨bE,hr⟩:=hr
    cases r with
    |done d'=>exact⟨bE,hr⟩
    |yield d'=>exact⟨bE,hr.1,hr.2.1,by have:=hr.2.2;lia⟩
   case post =>
    rintro d aH ⟨⟨g,rfl⟩,r,e,hr⟩
    obtain⟨dr,d'⟩:=d
    dsimp only at e ⊢
    subst e
    exact UW (fin r g hr)
end
end Hc.Ts
namespace Hc.Ts
noncomputable def p9:Array U5→Array U5→StateT U1 Sem (Array U5):=sortPriv% PySem.Builtin.mergeHi
noncomputable abbrev Gf:=Option (Array U5)×Nat×Nat×Array U5×Nat×Nat×Nat
noncomputable abbrev Jj:=Option (Array U5)×Nat×Nat×Array U5×Nat×Nat
noncomputable abbrev LZ:=Option (Array U5)×Nat×Nat×Array U5×Nat
noncomputable def gb (a b out:Array U5)(na nb:Nat):Array U5:=a.extract 0 na++b.extract 0 nb++out.reverse
noncomputable def iN (a b out:Array U5)(na nb:Nat):Array U5:=b.extract 0 nb++a.extract 0 na++out.reverse
noncomputable def Ew (a b out:Array U5)(na nb g k k1:Nat):StateT U1 Sem (ForInStep Gf):=do
 let x ←Ze a (na - 1)
 if (na - 1==0)=true then pure (.done (some (gb a b (out.push x) (na - 1) nb),na - 1,nb,out.push x,g,k,k1))
 else if (decide (k<7)&&decide (k1<7))=true then pure (.done (none,na - 1,nb,out.push x,g,k,k1))
 else pure (.yield (none,na - 1,nb,out.push x,g,k,k1))
noncomputable def Ex (a b out:Array U5)(na nb g k bc:Nat):StateT U1 Sem (ForInStep Gf):=do
 let y ←Ze b (nb - 1)
 if (nb - 1==1)=true then pure (.done (some (iN a b (out.push y) na (nb - 1)),na,nb - 1,out.push y,g,k,bc))
 else do
  let x ←Ze a (na - 1)
  let some iY ←fH true x b 0 (nb - 1) (nb - 1 - 1)|pure (.done (some (gb a b (out.push y) na (nb - 1)),na,nb - 1,out.push y,g,k,bc))
  if nb - 1 - iY>0 then
   if (iY==1)=true then pure (.done (some (iN a b (out.push y++(b.extract iY (nb - 1)).reverse) na iY),na,iY,out.push y++(b.extract iY (nb - 1)).reverse,g,k,nb - 1 - iY))
   else if (iY==0)=true then pure (.done (some (gb a b (out.push y++(b.extract iY (nb - 1)).reverse) na iY),na,iY,out.push y++(b.extract iY (nb - 1)).reverse,g,k,nb - 1 - iY))
   else Ew a b (out.push y++(b.extract iY (nb - 1)).reverse) na iY g k (nb - 1 - iY)
  else Ew a b (out.push y) na (nb - 1) g k (nb - 1 - iY)
noncomputable def Ey (a b out:Array U5)(na nb g ac bc:Nat):StateT U1 Sem (ForInStep Gf):=do
 cx g
 let y ←Ze b (nb - 1)
 let some iz ←fH false y a 0 na (na - 1)|pure (.done (some (gb a b out na nb),na,nb,out,g,ac,bc))
 if na - iz>0 then
  if (iz==0)=true then pure (.done (some (gb a b (out++(a.extract iz na).reverse) iz nb),iz,nb,out++(a.extract iz na).reverse,g,na - iz,bc))
  else Ex a b (out++(a.extract iz na).reverse) iz nb g (na - iz) bc
 else Ex a b out na nb g (na - iz) bc
noncomputable def Na (a b:Array U5)(_:Nat)(c:Gf):StateT U1 Sem (ForInStep Gf) :=
 if c.2.2.2.2.1>1 then Ey a b c.2.2.2.1 c.2.1 c.2.2.1 (c.2.2.2.2.1 - 1) c.2.2.2.2.2.1 c.2.2.2.2.2.2
 else Ey a b c.2.2.2.1 c.2.1 c.2.2.1 c.2.2.2.2.1 c.2.2.2.2.2.1 c.2.2.2.2.2.2
noncomputable def Nb (a b:Array U5)(g:Nat)(_:Nat)(c:Jj):StateT U1 Sem (ForInStep Jj):=do
 let y ←Ze b (c.2.2.1 - 1)
 let x ←Ze a (c.2.1 - 1)
 let some aWins ←lt' y x|pure (.done (some (gb a b c.2.2.2.1 c.2.1 c.2.2.1),c.2.1,c.2.2.1,c.2.2.2.1,c.2.2.2.2.1,c.2.2.2.2.2))
 if aWins=true then do
  let x ←Ze a (c.2.1 - 1)
  if (c.2.1 - 1==0)=true then pure (.done (some (gb a b (c.2.2.2.1.push x) (c.2.1 - 1) c.2.2.1),c.2.1 - 1,c.2.2.1,c.2.2.2.1.push x,c.2.2.2.2.1+1,0))
  else if c.2.2.2.2.1+1≥g then pure (.done (none,c.2.1 - 1,c.2.2.1,c.2.2.2.1.push x,c.2.2.2.2.1+1,0))
  else pure (.yield (none,c.2.1 - 1,c.2.2.1,c.2.2.2.1.push x,c.2.2.2.2.1+1,0))
 else do
  let y ←Ze b (c.2.2.1 - 1)
  if (c.2.2.1 - 1==1)=true then pure (.done (some (iN a b (c.2.2.2.1.push y) c.2.1 (c.2.2.1 - 1)),c.2.1,c.2.2.1 - 1,c.2.2.2.1.push y,0,c.2.2.2.2.2+1))
  else if c.2.2.2.2.2+1≥g then pure (.done (none,c.2.1,c.2.2.1 - 1,c.2.2.2.1.push y,0,c.2.2.2.2.2+1))
  else pure (.yield (none,c.2.1,c.2.2.1 - 1,c.2.2.2.1.push y,0,c.2.2.2.2.2+1))
noncomputable def Nc (a b:Array U5)(_:Nat)(c:LZ):StateT U1 Sem (ForInStep LZ):=do
 let d ←forIn [0:a.size+b.size] (none,c.2.1,c.2.2.1,c.2.2.2.1,0,0) (Nb a b c.2.2.2.2)
 match d.1 with
 |some r=>pure (.done (some r,d.2.1,d.2.2.1,d.2.2.2.1,c.2.2.2.2))
 |none=>do
  liftM (rule "list.sort.gallop")
  let e ←forIn [0:a.size+b.size] (none,d.2.1,d.2.2.1,d.2.2.2.1,c.2.2.2.2+1,d.2.2.2.2.1,d.2.2.2.2.2) (Na a b)
  match e.1 with
  |some r=>pure (.done (some r,e.2.1,e.2.2.1,e.2.2.2.1,e.2.2.2.2.1))
  |none=>do
   cx (e.2.2.2.2.1+1)
   pure (.yield (none,e.2.1,e.2.2.1,e.2.2.2.1,e.2.2.2.2.1+1))
theorem sX (a b:Array U5):p9 a b=(do
  liftM (rule "list.sort.merge-hi")
  let x ←Ze a (a.size - 1)
  if (a.size - 1==0)=true then pure (gb a b #[x] (a.size - 1) b.size)
  else if (b.size==1)=true then pure (iN a b #[x] (a.size - 1) b.size)
  else do
   let st ←get
   let c ←forIn [0:a.size+b.size] ((none,a.size - 1,b.size,#[x],Za st):LZ) (Nc a b)
   match c.1 with
   |some r=>pure r
   |none=>liftM (XW "internal:list.sort.merge-bound")):=by kernel_rfl
section
variable {A:VE}{O:Zy}{key:U5→O.α}{knd:XS}{D:U5→Prop}
theorem sY (a:Array U5)(n:Nat):(a.extract 0 n).toList=a.toList.take n:=by
 rw[Xc,Xb];rfl
theorem sZ (a:Array U5)(i n:Nat):(a.extract i n).toList=(a.toList.take n).drop i:=by
 rw[Xc,Xb,List.drop_take]
theorem uT (a b out:Array U5)(na nb:Nat):(gb a b out na nb).toList=(a.toList.take na++b.toList.take nb)++out.toList.reverse:=by
 unfold gb;rw[VF,VF,sY,sY,XJ]
theorem zB (a b out:Array U5)(na nb:Nat):(iN a b out na nb).toList=(b.toList.take nb++a.toList.take na)++out.toList.reverse:=by
 unfold iN;rw[VF,VF,sY,sY,XJ]
theorem mF (h0:0<n)(h:n - 1<l.length):l.take n=l.take (n - 1)++[l[n - 1]]:=by
 obtain⟨m,rfl⟩:∃m,n=m+1:=⟨n - 1,by lia⟩
 simp only[Zb] at h ⊢
 exact Wt h
theorem p_ (h:k≤n):l.take n=l.take k++(l.take n).drop k:=by
 conv=>lhs;rw[←Vr k (l.take n)]
 rw[List.take_take,Wb h]
structure HI (key:U5→O.α)(T:List U5)(a b out:Array U5)(na nb:Nat):Prop where
 a0:0<na
 a1:na≤a.size
 b0:1<nb
 b1:nb≤b.size
 mh:MH key T (a.toList.take na) (b.toList.take nb) out.toList.reverse
structure HR (key:U5→O.α)(D:U5→Prop)(a b:Array U5):Prop where
 da:∀x∈a.toList,D x
 db:∀x∈b.toList,D x
 first:∀y,b.toList[0]? = some y→∀x∈a.toList,O.kle (key y) (key x)
variable {a b out:Array U5}{na nb:Nat}
theorem HR.fin (R:HR key D a b)(h:MH key T (a.toList.take na) (b.toList.take nb) out.toList.reverse)(e:nb=1):oA key T (iN a b out na nb):=by
 unfold oA;rw[zB]
 refine h.first fun y hy x hx => ?_
 subst e
 cases hb:b.toList with
 |nil=>rw[hb] at hy;cases hy
 |cons z r =>
  rw[hb] at hy
  have:y=z:=by simpa using hy
  subst this
  exact R.first y (by rw[hb];rfl) x (V5 hx)
theorem s9 (h:MH key T (a.toList.take na) (b.toList.take nb) out.toList.reverse)(e:na=0):oA key T (gb a b out na nb):=by
 subst e
 unfold oA;rw[uT]
 rw[List.take_zero] at h ⊢;rw[Wc]
 exact h.endB
theorem H9 (h:MH key T (a.toList.take na) (b.toList.take nb) out.toList.reverse)(e:nb=0):oA key T (gb a b out na nb):=by
 subst e
 unfold oA;rw[uT]
 rw[List.take_zero] at h ⊢;rw[Vw]
 exact h.endA
theorem gD (h:gP key (l.take n))(h0:0<n)(hl:n - 1<l.length):∀x∈l.take n,O.kle (key x) (key l[n - 1]):=by
 intro x hx
 rw[mF h0 hl] at h hx
 rcases U2.mp hx with hx|hx
 ·exact (bz.mp h).2.2 x hx _ (by simp)
 ·rw[U6] at hx;subst hx;exact Wd _
theorem wH (h:MH key T (a.toList.take na) (b.toList.take nb) out.toList.reverse)(h0:0<na)(hl:na - 1<a.toList.length)(hx:∀y∈b.toList.take nb,O.kle (key y) (key a.toList[na - 1])):MH key T (a.toList.take (na - 1)) (b.toList.take nb) (out.push a.toList[na - 1]).toList.reverse:=by
 rw[Xh,XX]
 rw[mF h0 hl] at h
 exact h.stepA fun y hy x oI=>by rw[U6] at oI;subst oI;exact hx y hy
theorem B4 (h:MH key T (a.toList.take na) (b.toList.take nb) out.toList.reverse)(h0:0<nb)(hl:nb - 1<b.toList.length)(hx:∀x∈a.toList.take na,O.kle (key x) (key b.toList[nb - 1])):MH key T (a.toList.take na) (b.toList.take (nb - 1)) (out.push b.toList[nb - 1]).toList.reverse:=by
 rw[Xh,XX]
 rw[mF h0 hl] at h
 exact h.stepB fun x oI y hy=>by rw[U6] at hy;subst hy;exact hx x oI
noncomputable def HE (key:U5→O.α)(T:List U5)(a b:Array U5)(n:Nat)(cO:U1)(c:Gf)(st:U1):Prop :=
 (∃g,st=dA cO g)∧((∃r,c.1=some r∧oA key T r)∨(c.1=none∧HI key T a b c.2.2.2.1 c.2.1 c.2.2.1∧c.2.1+c.2.2.1≤n))
noncomputable def HS (key:U5→O.α)(T:List U5)(a b:Array U5)(n:Nat)(cO:U1)(r:ForInStep Gf)(st:U1):Prop :=
 match r with
 | .done c=>HE key T a b n cO c st
 | .yield c=>HE key T a b n cO c st∧c.1=none
theorem yn (R:HR key D a b){k1:Nat}{st cO:U1}(g8:∃g,st=dA cO g)(h:HI key T a b out na nb)(hn:na+nb≤n)(hx:∀(hl:na - 1<a.toList.length),∀y∈b.toList.take nb,O.kle (key y) (key a.toList[na - 1])) :
  wpS M A E s (Ew a b out na nb g k k1) (HS key T a b n cO) st:=by
 have hl:na - 1<a.toList.length:=by have:=h.a0;have:=h.a1;rw[UE];lia
 have m:=wH h.mh h.a0 hl (hx hl)
 unfold Ew
 refine UP (bH (Uv hl) ?_)
 by_cases c:na - 1=0
 ·rw[if_pos (by simpa using c)]
  exact UW ⟨g8,.inl ⟨_,rfl,s9 m c⟩⟩
 ·rw[if_neg (by simpa using c)]
  have L:HI key T a b (out.push a.toList[na - 1]) (na - 1) nb:=⟨by lia,by have:=h.a1;lia,h.b0,h.b1,m⟩
  by_cases c2:(decide (k<7)&&decide (k1<7))=true
  ·rw[if_pos c2]
   exact UW ⟨g8,.inr ⟨rfl,L,by simp only;lia⟩⟩
  ·rw[if_neg c2]
   exact UW ⟨⟨g8,.inr ⟨rfl,L,by simp only;lia⟩⟩,rfl⟩
theorem yo (C:jV M A E s O key knd D)(R:HR key D a b){st cO:U1}(g8:∃g,st=dA cO g)(kd:V0 cO=knd)(h:HI key T a b out na nb)(hn:na+nb≤n)(hx:∀(hl:nb - 1<b.toList.length),∀x∈a.toList.take na,O.kle (key x) (key b.toList[nb - 1])) :
  wpS M A E s (Ex a b out na nb g k bc) (HS key T a b n cO) st:=by
 have ko:nb - 1<b.toList.length:=by have:=h.b0;have:=h.b1;rw[UE];lia
 have oq:na - 1<a.toList.length:=by have:=h.a0;have:=h.a1;rw[UE];lia
 have b0:=h.b0;have b1:=h.b1;have a0:=h.a0;have a1:=h.a1
 have m:=B4 h.mh (by lia) ko (hx ko)
 have CY:V0 st=knd:=by obtain⟨g,rfl⟩:=g8;exact kd
 unfold Ex
 refine UP (bH (Uv ko) ?_)
 by_cases c:nb - 1=1
 ·rw[if_pos (by simpa using c)]
  exact UW ⟨g8,.inl ⟨_,rfl,R.fin m c⟩⟩
 ·rw[if_neg (by simpa using c)]
  refine UP (bH (Uv oq) ?_)
  have cY:(b.toList.take (nb - 1)).length=nb - 1:=by rw[U7,UE];lia
  have CZ:=fun Q=>j8 C (Q:=Q) (kx:=a.toList[na - 1]) (arr:=b) (base:=0) (hint:=nb - 1 - 1) (seg:=b.toList.take (nb - 1)) (st:=st) (fun i x e=>by
   rw[WZ];rw[Yd] at e;split at e
   ·exact e
   ·cases e) m.sb (fun x hx=>R.db x (V5 hx)) (R.da _ (VA oq)) CY (by rw[cY];lia)
  rw[cY] at CZ
  refine UP (CZ _ fun iY zW p1 p2 => ?_)
  dsimp only
  rw[List.take_take,Wb zW] at p1
  by_cases c1:nb - 1 - iY>0
  ·rw[if_pos c1]
   have m2:MH key T (a.toList.take na) (b.toList.take iY) (out.push b.toList[nb - 1]++(b.extract iY (nb - 1)).reverse).toList.reverse:=by
    rw[VF,XJ,XX,List.reverse_reverse,sZ]
    have m':=m
    rw[p_ (l:=b.toList) (n:=nb - 1) (k:=iY) (by lia)] at m'
    exact m'.stepB fun x oI y hy=>Vm (gD h.mh.sa a0 oq x oI) (p2 y hy)
   by_cases c2:iY=1
   ·rw[if_pos (by simpa using c2)]
    exact UW ⟨g8,.inl ⟨_,rfl,R.fin m2 c2⟩⟩
   ·rw[if_neg (by simpa using c2)]
    by_cases c3:iY=0
    ·rw[if_pos (by simpa using c3)]
     exact UW ⟨g8,.inl ⟨_,rfl,H9 m2 c3⟩⟩
    ·rw[if_neg (by simpa using c3)]
     refine yn R g8 ⟨a0,a1,by lia,by lia,m2⟩ (by lia) fun hl y hy=>VD (p1 y hy)
  ·rw[if_neg c1]
   have:iY=nb - 1:=by lia
   subst this
   refine yn R g8 ⟨a0,a1,by lia,by lia,m⟩ (by lia) fun hl y hy=>VD (p1 y hy)
theorem yp (C:jV M A E s O key knd D)(R:HR key D a b){ac:Nat}{st cO:U1}(g8:∃g,st=dA cO g)(kd:V0 cO=knd)(h:HI key T a b out na nb)(hn:na+nb≤n) :
  wpS M A E s (Ey a b out na nb g ac bc) (HS key T a b n cO) st:=by
 have ko:nb - 1<b.toList.length:=by have:=h.b0;have:=h.b1;rw[UE];lia
 have oq:na - 1<a.toList.length:=by have:=h.a0;have:=h.a1;rw[UE];lia
 have b0:=h.b0;have b1:=h.b1;have a0:=h.a0;have a1:=h.a1
 unfold Ey cx
 have vP:∃g',dA st g=dA cO g':=by obtain⟨g0,rfl⟩:=g8;exact⟨g,rfl⟩
 have CY:V0 (dA st g)=knd:=by obtain⟨g0,rfl⟩:=g8;exact kd
 refine UP (X0 ?_)
 refine UP (bH (Uv ko) ?_)
 have cY:(a.toList.take na).length=na:=by rw[U7,UE];lia
 have CZ:=fun Q=>j7 C (Q:=Q) (kx:=b.toList[nb - 1]) (arr:=a) (base:=0) (hint:=na - 1) (seg:=a.toList.take na) (st:=dA st g) (fun i x e=>by
   rw[WZ];rw[Yd] at e;split at e
   ·exact e
   ·cases e) h.mh.sa (fun x hx=>R.da x (V5 hx)) (R.db _ (VA ko)) CY (by rw[cY];lia)
 rw[cY] at CZ
 refine UP (CZ _ fun iz hk p1 p2 => ?_)
 dsimp only
 rw[List.take_take,Wb hk] at p1
 by_cases c1:na - iz>0
 ·rw[if_pos c1]
  have m2:MH key T (a.toList.take iz) (b.toList.take nb) (out++(a.extract iz na).reverse).toList.reverse:=by
   rw[VF,XJ,XX,List.reverse_reverse,sZ]
   have m':=h.mh
   rw[p_ (l:=a.toList) (n:=na) (k:=iz) (by lia)] at m'
   exact m'.stepA fun y hy x hx=>Vm (gD h.mh.sb (by lia) ko y hy) (VD (p2 x hx))
  by_cases c2:iz=0
  ·rw[if_pos (by simpa using c2)]
   exact UW ⟨vP,.inl ⟨_,rfl,s9 m2 c2⟩⟩
  ·rw[if_neg (by simpa using c2)]
   exact yo C R vP kd ⟨by lia,by lia,b0,b1,m2⟩ (by lia) fun hl x hx=>p1 x hx
 ·rw[if_neg c1]
  have:iz=na:=by lia
  subst this
  exact yo C R vP kd h hn fun hl x hx=>p1 x hx
theorem H_ (C:jV M A E s O key knd D)(R:HR key D a b){c:Gf}{st cO:U1}(g8:∃g,st=dA cO g)(kd:V0 cO=knd)(h:HI key T a b c.2.2.2.1 c.2.1 c.2.2.1)(hn:c.2.1+c.2.2.1≤n) :
  wpS M A E s (Na a b i c) (HS key T a b n cO) st:=by
 unfold Na
 split
 ·exact yp C R g8 kd h hn
 ·exact yp C R g8 kd h hn
theorem Ia (C:jV M A E s O key knd D)(R:HR key D a b){c:Jj}{st:U1}{Q:ForInStep Jj→U1→Prop}(kd:V0 st=knd)(h:HI key T a b c.2.2.2.1 c.2.1 c.2.2.1)(h1:∀d:Jj,(∃r,d.1=some r∧oA key T r)∨(d.1=none∧HI key T a b d.2.2.2.1 d.2.1 d.2.2.1∧c.2.1+c.2.2.1=d.2.1+d.2.2.1+1)→Q (.done d) st)(h2:∀d:Jj,d.1=none→HI key T a b d.2.2.2.1 d.2.1 d.2.2.1→c.2.1+c.2.2.1=d.2.1+d.2.2.1+1→Q (.yield d) st) :
  wpS M A E s (Nb a b g i c) Q st:=by
 obtain⟨r0,na,nb,out,ac,bc⟩:=c
 dsimp only at h h1 h2 ⊢
 have ko:nb - 1<b.toList.length:=by have:=h.b0;have:=h.b1;rw[UE];lia
 have oq:na - 1<a.toList.length:=by have:=h.a0;have:=h.a1;rw[UE];lia
 have b0:=h.b0;have b1:=h.b1;have a0:=h.a0;have a1:=h.a1
 unfold Nb
 dsimp only
 refine UP (bH (Uv ko) ?_)
 refine UP (bH (Uv oq) ?_)
 refine UP (C.lt _ _ st _ (R.db _ (VA ko)) (R.da _ (VA oq)) kd ?_)
 dsimp only
 cases e:O.blt (key b.toList[nb - 1]) (key a.toList[na - 1]) with
 |true =>
  rw[if_pos rfl]
  have m:=wH h.mh a0 oq fun y hy=>Vm (gD h.mh.sb (by lia) ko y hy) (VD e)
  refine UP (bH (Uv oq) ?_)
  by_cases c:na - 1=0
  ·rw[if_pos (by simpa using c)]
   exact UW (h1 _ (.inl ⟨_,rfl,s9 m c⟩))
  ·rw[if_neg (by simpa using c)]
   have L:HI key T a b (out.push a.toList[na - 1]) (na - 1) nb:=⟨by lia,by lia,b0,b1,m⟩
   split
   ·exact UW (h1 _ (.inr ⟨rfl,L,by simp only;lia⟩))
   ·exact UW (h2 _ rfl L (by simp only;lia))
 |false =>
  rw[if_neg UG]
  have m:=B4 h.mh (by lia) ko fun x hx=>Vm (gD h.mh.sa a0 oq x hx) (show O.kle _ _ from e)
  refine UP (bH (Uv ko) ?_)
  by_cases c:nb - 1=1
  ·rw[if_pos (by simpa using c)]
   exact UW (h1 _ (.inl ⟨_,rfl,R.fin m c⟩))
  ·rw[if_neg (by simpa using c)]
   have L:HI key T a b (out.push b.toList[nb - 1]) na (nb - 1):=⟨a0,a1,by lia,by lia,m⟩
   split
   ·exact UW (h1 _ (.inr ⟨rfl,L,by simp only;lia⟩))
   ·exact UW (h2 _ rfl L (by simp only;lia))
theorem Ib (C:jV M A E s O key knd D)(R:HR key D a b){c:LZ}{st cO:U1}(g8:∃g,st=dA cO g)(kd:V0 cO=knd)(h:HI key T a b c.2.2.2.1 c.2.1 c.2.2.1) :
  wpS M A E s (Nc a b i c) (fun r aH=>(∃g,aH=dA cO g)∧match r with
   | .done d=>∃r,d.1=some r∧oA key T r
   | .yield d=>d.1=none∧HI key T a b d.2.2.2.1 d.2.1 d.2.2.1∧d.2.1+d.2.2.1+1≤c.2.1+c.2.2.1) st:=by
 obtain⟨r0,na,nb,out,g0⟩:=c
 dsimp only at h ⊢
 have CY:V0 st=knd:=by obtain⟨g,rfl⟩:=g8;exact kd
 have b0:=h.b0;have b1:=h.b1;have a0:=h.a0;have a1:=h.a1
 unfold Nc
 dsimp only
 have hs:1≤a.size+b.size:=by lia
 refine UP (W5 (V1 (I:=fun x d aH=>aH=st∧d.1=none∧HI key T a b d.2.2.2.1 d.2.1 d.2.2.1∧na+nb=d.2.1+d.2.2.1+x)
  (Q:=fun d aH=>aH=st∧((∃r,d.1=some r∧oA key T r)∨(d.1=none∧HI key T a b d.2.2.2.1 d.2.1 d.2.2.1∧d.2.1+d.2.2.1+1≤na+nb))) ?step ?fin ⟨rfl,rfl,h,by simp only;lia⟩) ?post)
 case fin =>
  rintro d aH ⟨rfl,e1,e2,e3⟩
  exact⟨rfl,.inr ⟨e1,e2,by lia⟩⟩
 case step =>
  rintro x d aH _ hx ⟨rfl,e1,e2,e3⟩
  refine Ia C R CY e2 (fun d' hd => ?_) fun d' p1 p2 p3 => ?_
  ·rcases hd with hd|⟨p1,p2,p3⟩
   ·exact⟨rfl,.inl hd⟩
   ·exact⟨rfl,.inr ⟨p1,p2,by lia⟩⟩
  ·exact⟨rfl,p1,p2,by lia⟩
 case post =>
  rintro d aH ⟨rfl,hd⟩
  obtain⟨dr,dna,dnb,dout,dac,dbc⟩:=d
  dsimp only at hd ⊢
  rcases hd with⟨r,rfl,hr⟩|⟨rfl,hL,hn⟩
  ·exact UW ⟨g8,r,rfl,hr⟩
  ·dsimp only
   refine UP (wpS_lift (Xn ⟨rfl,?_⟩))
   refine UP (W5 (V1 (I:=fun x d aH=>HE key T a b (na+nb - 1) cO d aH∧d.1=none)
    (Q:=fun d aH=>HE key T a b (na+nb - 1) cO d aH) ?_ (fun d aH h=>h.1) ⟨⟨g8,.inr ⟨rfl,hL,by simp only;lia⟩⟩,rfl⟩) ?_)
   ·rintro x d aH _ hx ⟨⟨hs',hd⟩,e1⟩
    rcases hd with⟨r,e2,_⟩|⟨_,e3,e4⟩
    ·rw[e1] at e2;cases e2
    ·refine W5 (H_ C R hs' kd e3 e4) fun r Jc hr => ?_
     cases r with
     |done d'=>exact hr
     |yield d'=>exact hr
   ·rintro d aH ⟨hs',hd⟩
    obtain⟨er,ena,enb,eout,eg,eac,ebc⟩:=d
    dsimp only at hd ⊢
    rcases hd with⟨r,rfl,hr⟩|⟨rfl,hL2,GB⟩
    ·exact UW ⟨hs',r,rfl,hr⟩
    ·dsimp only
     unfold cx
     refine UP (X0 (UW ⟨?_,rfl,hL2,by simp only;lia⟩))
     obtain⟨g,rfl⟩:=hs'
     exact⟨_,rfl⟩
theorem wI (C:jV M A E s O key knd D)(R:HR key D a b){st:U1}{Q:Array U5→U1→Prop}(kd:V0 st=knd)(sa:gP key a.toList)(sb:gP key b.toList)(ha:0<a.size)(hb:0<b.size)
  (last:∀i,i+1=a.size→∀y∈b.toList,∀x,a.toList[i]? = some x→O.kle (key y) (key x))
  (h:∀r g,r.toList.Perm (a.toList++b.toList)→gP key r.toList→Q r (dA st g)):wpS M A E s (p9 a b) Q st:=by
 have oq:a.size - 1<a.toList.length:=by rw[UE];lia
 have ta:a.toList.take a.size=a.toList:=V7 (by simp)
 have tb:b.toList.take b.size=b.toList:=V7 (by simp)
 have m:MH key (a.toList++b.toList) (a.toList.take (a.size - 1)) (b.toList.take b.size) (#[a.toList[a.size - 1]]:Array U5).toList.reverse:=by
  have m0:MH key (a.toList++b.toList) (a.toList.take a.size) (b.toList.take b.size) (#[]:Array U5).toList.reverse:=by
   rw[ta,tb]
   exact⟨by simp,List.Pairwise.nil,sa,sb,fun x _ y hy=>absurd hy (by simp),fun x _ y hy=>absurd hy (by simp)⟩
  exact wH m0 ha oq (fun y hy=>last (a.size - 1) (by lia) y (V5 hy) _ (Uv oq))
 have fin:∀r g,oA key (a.toList++b.toList) r→Q r (dA st g):=fun r g hr=>h r g hr.1 hr.2
 rw[sX]
 refine UP (wpS_lift (Xn ⟨rfl,?_⟩))
 refine UP (bH (Uv oq) ?_)
 by_cases c:a.size - 1=0
 ·rw[if_pos (by simpa using c)]
  exact UW (fin _ (Za st) (s9 m c))
 ·rw[if_neg (by simpa using c)]
  by_cases c2:b.size=1
  ·rw[if_pos (by simpa using c2)]
   exact UW (fin _ (Za st) (R.fin m c2))
  ·rw[if_neg (by simpa using c2)]
   refine UP (Zg ?_)
   refine UP (W5 (V1 (I:=fun x d aH=>(∃g,aH=dA st g)∧d.1=none∧HI key (a.toList++b.toList) a b d.2.2.2.1 d.2.1 d.2.2.1∧d.2.1+d.2.2.1+x≤a.size+b.size)
    (Q:=fun d aH=>(∃g,aH=dA st g)∧∃r,d.1=some r∧oA key (a.toList++b.toList) r) ?step ?fin ⟨⟨Za st,rfl⟩,rfl,⟨by simp only;lia,by simp only;lia,by simp only;lia,by simp only;lia,m⟩,by simp only;lia⟩) ?post)
   case fin =>
    rintro d aH ⟨hs',e1,e2,e3⟩
    have:=e2.a0;have:=e2.b0;lia
   case step =>
    rintro x d aH _ hx ⟨hs',e1,e2,e3⟩
    refine W5 (Ib C R hs' kd e2) fun r Jc hr => ?_
    obtain⟨bE,hr⟩:=hr
    cases r with
    |done d'=>exact⟨bE,hr⟩
    |yield d'=>exact⟨bE,hr.1,hr.2.1,by have:=hr.2.2;lia⟩
   case post =>
    rintro d aH ⟨⟨g,rfl⟩,r,e,hr⟩
    obtain⟨dr,d'⟩:=d
    dsimp only at e ⊢
    subst e
    exact UW (fin r g hr)
end
end Hc.Ts
namespace Hc.Ts
noncomputable def jG (l:List U5)(sa:Nat)(a:Array U5):Array U5:=l.zipIdx.foldl (fun a (p,j)=>a.setIfInBounds (sa+j) p) a
noncomputable def Ic (x y:Array U5)(sa na nb:Nat):StateT U1 Sem Bool:=do
 let merged ←if na≤nb then p7 x y else p9 x y
 modify fun s=>setArr s (jG merged.toList sa (Vq s))
 let s ←get
 pure (XT s).isNone
theorem uU (i:Nat):mergeAt' i=(do
 let st ←get
 let (some (p,n,pw),some (q,m,_)):=((Vk st)[i]?,(Vk st)[i+1]?)|XW "internal:list.sort.pending"
 set (setPending st (((Vk st).setIfInBounds i (p,n+m,pw)).eraseIdxIfInBounds (i+1)))
 let some k ←fH false (←Ze (Vq st) q) (Vq st) p n 0|return false
 let (p,n):=(p+k,n - k)
 if n==0 then return true
 let some m ←fH true (←Ze (Vq st) (p+n - 1)) (Vq st) q m (m - 1)|return false
 if m==0 then return true
 Ic ((Vq st).extract p q) ((Vq st).extract q (q+m)) p n m):=by kernel_rfl
section
variable {A:VE}{O:Zy}{key:U5→O.α}{knd:XS}{D:U5→Prop}
theorem qa:∀(l m P S:List U5) (n sa:Nat) (a:Array U5),m.length=l.length→sa+n=P.length→a.toList=P++(m++S)→((l.zipIdx n).foldl (fun a (p,j)=>a.setIfInBounds (sa+j) p) a).toList=P++(l++S)
 | [],m,P,S,n,sa,a,h1,h2,h3=>by
  have:m=[]:=VJ h1
  subst this
  exact h3
 |p::l,[],P,S,n,sa,a,h1,h2,h3=>by cases h1
 |p::l,q::m,P,S,n,sa,a,h1,h2,h3=>by
  rw[List.zipIdx_cons,List.foldl_cons]
  have h4:(a.setIfInBounds (sa+n) p).toList=(P++[p])++(m++S):=by
   rw[Y3,h3,h2,List.cons_append,List.set_append_right _ _ (UK _),Y9,V6]
   simp
  have:=qa l m (P++[p]) S (n+1) sa (a.setIfInBounds (sa+n) p) (by simpa using h1) (by rw[UH,WY];lia) h4
  rw[this];simp
theorem zC {m P:List U5}{sa:Nat}{a:Array U5}(h1:m.length=l.length)(h2:sa=P.length)(h3:a.toList=P++(m++S)):(jG l sa a).toList=P++(l++S) :=
 qa l m P S 0 sa a h1 (by lia) h3
theorem Ez (C:jV M A E s O key knd D){P x:List U5}{sa:Nat}{st:U1}{Q:Bool→U1→Prop}{ax ay:Array U5}{na nb:Nat}(ex:ax.toList=x)(ey:ay.toList=y)(hf:XT st=none)(kd:V0 st=knd)(ha:(Vq st).toList=P++((x++y)++S))(hs:sa=P.length)(dx:∀p∈x,D p)(dy:∀p∈y,D p)(sx:gP key x)(sy:gP key y)(x0:0<x.length)(y0:0<y.length)(first:∀q,y[0]? = some q→∀p∈x,O.kle (key q) (key p))(last:∀i,i+1=x.length→∀q∈y,∀p,x[i]? = some p→O.kle (key q) (key p))(h:∀z g,z.Perm (x++y)→gP key z→Q true (dA (setArr st (P++(z++S)).toArray) g)):wpS M A E s (Ic ax ay sa na nb) Q st:=by
 subst ex;subst ey
 have fin:∀(r:Array U5) (g:Nat),r.toList.Perm (ax.toList++ay.toList)→gP key r.toList→wpS M A E s (do
   modify fun s=>setArr s (jG r.toList sa (Vq s))
   let s ←get
   pure (XT s).isNone) Q (dA st g):=by
  intro r g hp hr
  refine UP (X0 ?_)
  refine UP (Zg (UW ?_))
  have e1:jG r.toList sa (Vq st)=(P++(r.toList++S)).toArray:=by
   apply Array.ext'
   rw[zC (m:=ax.toList++ay.toList) hp.length_eq.symm hs ha]
  have e2:(XT (setArr (dA st g) (jG r.toList sa (Vq (dA st g))))).isNone=true:=by
   show (XT st).isNone=true
   rw[hf];rfl
  rw[e2]
  have e3:setArr (dA st g) (jG r.toList sa (Vq (dA st g)))=dA (setArr st (P++(r.toList++S)).toArray) g:=by
   rw[←e1]
  rw[e3]
  exact h r.toList g hp hr
 unfold Ic
 dsimp only
 split
 ·refine UP ?_
  exact wG C ⟨dx,dy,fun i hi=>last i (by rw[UE];exact hi)⟩ kd sx sy (by simpa using x0) (by simpa using y0) first fin
 ·refine UP ?_
  exact wI C ⟨dx,dy,first⟩ kd sx sy (by simpa using x0) (by simpa using y0) (fun i hi=>last i (by rw[UE];exact hi)) fin
theorem EA {σ:Type}{st aH:σ}{Q:PUnit→σ→Prop}(h:Q ⟨⟩ aH):wpS M A E s (set aH:StateT σ Sem PUnit) Q st:=by
 unfold wpS;rw[StateT.run_set];exact UD ⟨rfl,h⟩
theorem s_ {P x R:List U5}(h:l=P++(x++R))(i:Nat)(p:U5)(e:x[i]? = some p):l[P.length+i]? = some p:=by
 have hi:i<x.length:=by
  rcases W0 i x.length with h|h
  ·exact h
  ·rw[List.getElem?_eq_none h] at e;cases e
 rw[h,VG (We _ _),Wr,VU hi,e]
noncomputable def rK (p:Array (Nat×Nat×Nat))(i sa n pw:Nat):Array (Nat×Nat×Nat):=(p.setIfInBounds i (sa,n,pw)).eraseIdxIfInBounds (i+1)
theorem wJ (C:jV M A E s O key knd D){P x:List U5}{pw pw2:Nat}{st:U1}{Q:Bool→U1→Prop}(hf:XT st=none)(kd:V0 st=knd)(ha:(Vq st).toList=P++(x++(y++S)))(h1:(Vk st)[i]? = some (P.length,x.length,pw))(h2:(Vk st)[i+1]? = some (P.length+x.length,y.length,pw2))(dx:∀p∈x,D p)(dy:∀p∈y,D p)(sx:gP key x)(sy:gP key y)(x0:0<x.length)(y0:0<y.length)(h:∀z g,z.Perm (x++y)→gP key z→Q true (dA (setArr (setPending st (rK (Vk st) i P.length (x.length+y.length) pw)) (P++(z++S)).toArray) g)):wpS M A E s (mergeAt' i) Q st:=by
 have all:∀(hz:gP key (x++y)),Q true (setPending st (rK (Vk st) i P.length (x.length+y.length) pw)):=by
  intro hz
  have:=h (x++y) (Za st) (Wa _) hz
  have e:(P++(x++y++S)).toArray=Vq st:=by
   apply Array.ext';rw[ha,UZ]
  rw[e] at this
  exact this
 have Jr:(Vq st).toList=(P++x)++(y++S):=by rw[ha,UZ]
 rw[uU]
 refine UP (Zg ?_)
 rw[h1,h2]
 dsimp only
 refine UP (EA ?_)
 have ey:(Vq st).toList[P.length+x.length]? = some y[0]:=by
  have:=s_ Jr 0 y[0] (Uv y0)
  rw[UH] at this;exact this
 refine UP (bH ey ?_)
 refine UP (j7 C (seg:=x) (fun i p e=>s_ ha i p e) sx dx (dy _ (VA y0)) kd x0 fun k hk p1 p2 => ?_)
 dsimp only
 have yh:∀q∈y,O.kle (key y[0]) (key q):=by
  have:=ji (l:=y) (i:=0) (key:=key) (by simpa using sy) y0
  simpa using this
 by_cases c:x.length - k=0
 ·rw[if_pos (by simpa using c)]
  refine UW (all ?_)
  have:x.take k=x:=V7 (by lia)
  rw[this] at p1
  exact bz.mpr ⟨sx,sy,fun p hp q hq=>Vm (p1 p hp) (yh q hq)⟩
 ·rw[if_neg (by simpa using c)]
  have L9:x.length - 1<x.length:=by lia
  have R8:(Vq st).toList[P.length+k+(x.length - k) - 1]? = some x[x.length - 1]:=by
   have:=s_ ha (x.length - 1) _ (Uv L9)
   rw[show P.length+k+(x.length - k) - 1=P.length+(x.length - 1) by lia];exact this
  refine UP (bH R8 ?_)
  refine UP (j8 C (seg:=y) (fun i p e=>by have:=s_ Jr i p e;rw[UH] at this;exact this) sy dy (dx _ (VA L9)) kd (by lia) fun nb R9 q1 q2 => ?_)
  dsimp only
  have GJ:∀p∈x,O.kle (key p) (key x[x.length - 1]):=by
   have:=gD (l:=x) (n:=x.length) (key:=key) (by rw[WU];exact sx) x0 L9
   rw[WU] at this;exact this
  by_cases c2:nb=0
  ·rw[if_pos (by simpa using c2)]
   refine UW (all ?_)
   subst c2
   exact bz.mpr ⟨sx,sy,fun p hp q hq=>Vm (GJ p hp) (q2 q hq)⟩
  ·rw[if_neg (by simpa using c2)]
   have xs:x=x.take k++x.drop k:=(Vr k x).symm
   have ys:y=y.take nb++y.drop nb:=(Vr nb y).symm
   obtain⟨sx1,sx2,sx3⟩:=bz.mp (xs▸sx)
   obtain⟨sy1,sy2,sy3⟩:=bz.mp (ys▸sy)
   refine Ez C (P:=P++x.take k) (x:=x.drop k) (y:=y.take nb) (S:=y.drop nb++S) ?ex ?ey hf kd ?ha ?hs (fun p hp=>dx p (WD hp)) (fun p hp=>dy p (V5 hp)) sx2 sy1 (by rw[Vl];lia) (by rw[U7];lia) ?first ?last fun z g hz sz => ?_
   case ex =>
    rw[sZ,Jr]
    rw[show P.length+x.length=(P++x).length by rw[UH]]
    rw[List.take_left,List.drop_append,Xo (by lia),Wr];rfl
   case ey =>
    rw[sW,Jr]
    rw[show P.length+x.length=(P++x).length by rw[UH],List.drop_left,List.take_append_of_le_length R9]
   case ha =>
    show (Vq st).toList=_
    rw[ha]
    conv=>lhs;rw[xs,ys]
    simp only[UZ]
   case hs=>rw[UH,U7];lia
   case first =>
    intro q hq p hp
    have:(y.take nb)[0]? = y[0]? := by rw[Yd,if_pos (by lia)]
    rw[this,Uv y0] at hq
    injection hq with hq
    subst hq
    exact VD (p2 p hp)
   case last =>
    intro i hi q hq p hp
    rw[Vl] at hi
    rw[X_,show k+i=x.length - 1 by lia,Uv L9] at hp
    injection hp with hp
    subst hp
    exact VD (q1 q hq)
   have mz:∀r∈z,r∈x.drop k∨r∈y.take nb:=fun r hr=>U2.mp (hz.mem_iff.mp hr)
   have i9:(x.take k++(z++y.drop nb)).Perm (x++y):=by
    have e:x++y=x.take k++((x.drop k++y.take nb)++y.drop nb):=by
     conv=>lhs;rw[xs,ys]
     simp only[UZ]
    rw[e]
    exact VN _ (VZ _ hz)
   have R_:gP key (x.take k++(z++y.drop nb)):=by
    refine bz.mpr ⟨sx1,bz.mpr ⟨sz,sy2,fun p hp q hq => ?_⟩,fun p hp q hq => ?_⟩
    ·rcases mz p hp with hp|hp
     ·exact Vm (GJ p (WD hp)) (q2 q hq)
     ·exact sy3 p hp q hq
    ·rcases U2.mp hq with hq|hq
     ·rcases mz q hq with hq|hq
      ·exact sx3 p hp q hq
      ·exact Vm (p1 p hp) (yh q (V5 hq))
     ·exact Vm (p1 p hp) (yh q (WD hq))
   have:=h _ g i9 R_
   have e:P++(x.take k++(z++y.drop nb)++S)=P++x.take k++(z++(y.drop nb++S)):=by simp only[UZ]
   rw[e] at this
   exact this
end
end Hc.Ts
namespace Hc.Ts
noncomputable def yq (lo n m:Nat):StateT U1 Sem AscSt:=forIn [n:m] ((none,n):AscSt) fun _ c=>do
 let some sm ←ltAt' (lo+c.2) (lo+c.2 - 1)|pure (.done (some none,c.2))
 if sm=true then pure (.done (none,c.2)) else pure (.yield (none,c.2+1))
noncomputable def yr (lo n m:Nat):StateT U1 Sem (Option Nat):=do
 YL lo (lo+n)
 let c ←yq lo n m
 match c.1 with
 |some r=>pure r
 |none=>pure (some c.2)
noncomputable def Gg (lo:Nat)(c:DescSt):StateT U1 Sem (ForInStep DescSt):=do
 let some sm ←ltAt' (lo+c.2.1) (lo+c.2.1 - 1)|pure (.done (some none,c.2.1,c.2.2))
 if sm=true then
  if c.2.2>0 then do
   YL (lo+c.2.1 - (c.2.2+1)) (lo+c.2.1)
   pure (.yield (none,c.2.1+1,0))
  else pure (.yield (none,c.2.1+1,0))
 else do
  let some lg ←ltAt' (lo+c.2.1 - 1) (lo+c.2.1)|pure (.done (some none,c.2.1,c.2.2))
  if lg=true then pure (.done (none,c.2.1,c.2.2)) else pure (.yield (none,c.2.1+1,c.2.2+1))
noncomputable def B5 (lo n m:Nat):StateT U1 Sem DescSt:=forIn [n:m] ((none,n,0):DescSt) fun _ c=>Gg lo c
noncomputable def yt (lo n m:Nat):StateT U1 Sem (Option Nat):=do
 liftM (rule "list.sort.descending-run")
 let c ←B5 lo (n+1) m
 match c.1 with
 |some r=>pure r
 |none =>
  if c.2.2>0 then do
   YL (lo+c.2.1 - (c.2.2+1)) (lo+c.2.1)
   yr lo c.2.1 m
  else yr lo c.2.1 m
theorem uW (lo m:Nat):countRun' lo m=(do
  let c ←yq lo 1 m
  match c.1 with
  |some r=>pure r
  |none =>
   if (c.2==m)=true then pure (some c.2)
   else if c.2>1 then do
    let some rs ←ltAt' lo (lo+c.2 - 1)|pure none
    if rs=true then pure (some c.2)
    else do
     YL lo (lo+c.2)
     yt lo c.2 m
   else yt lo c.2 m):=by kernel_rfl
section
variable {A:VE}{O:Zy}{key:U5→O.α}{knd:XS}{D:U5→Prop}{lo:Nat}{a0:Array U5}{cO:U1}
noncomputable def kx (key:U5→O.α)(l:Array U5)(i:Nat):O.α:=key ((l[i]?).getD (Value.none,Value.none))
theorem uX {l m:Array U5}(h:l[i]? = m[j]?):kx key l i=kx key m j:=by unfold kx;rw[h]
theorem wK {l:Array U5}(hm:lo+m≤l.size)(k:Nat):kx key (mirror l (lo+n) (lo+m) ((lo+m - (lo+n)) / 2)) (lo+k)=if n≤k∧k<m then kx key l (lo+(n+m - 1 - k)) else kx key l (lo+k):=by
 have e:=getElem?_mirror_all (i:=lo+n) hm (lo+k)
 by_cases c:n≤k∧k<m
 ·rw[if_pos (by lia)] at e;rw[if_pos c];exact uX (e.trans (by congr 1;lia))
 ·rw[if_neg (by lia)] at e;rw[if_neg c];exact uX e
theorem fP {l:Array U5}(hm:lo+m≤l.size)(he:∀k,n≤k→k<m→kx key l (lo+k)=kx key l (lo+m - 1))(k:Nat):kx key (mirror l (lo+n) (lo+m) ((lo+m - (lo+n)) / 2)) (lo+k)=kx key l (lo+k):=by
 rw[wK hm]
 split
 ·rename_i c
  rw[he _ (by lia) (by lia),he k c.1 c.2]
 ·rfl
theorem B6 {l:Array U5}{p:Nat}(hp:lo+p<l.size)(hd:d≤p)(k:Nat):kx key (bubble l (lo+p) d) (lo+k)=if k=p - d then kx key l (lo+p) else if p - d<k∧k≤p then kx key l (lo+(k - 1)) else kx key l (lo+k):=by
 have e:=getElem?_bubble hp d (by lia) (lo+k)
 by_cases c:k=p - d
 ·rw[if_pos (by lia)] at e;rw[if_pos c];exact uX e
 ·rw[if_neg (by lia)] at e;rw[if_neg c]
  by_cases c2:p - d<k∧k≤p
  ·rw[if_pos (by lia)] at e;rw[if_pos c2];exact uX (e.trans (by congr 1;lia))
  ·rw[if_neg (by lia)] at e;rw[if_neg c2];exact uX e
noncomputable def zV (key:U5→O.α)(lo:Nat)(l:Array U5)(n:Nat):Prop:=∀i j,i≤j→j<n→O.kle (kx key l (lo+i)) (kx key l (lo+j))
noncomputable def Jk (key:U5→O.α)(lo:Nat)(l:Array U5)(n:Nat):Prop:=∀i j,i≤j→j<n→O.kle (kx key l (lo+j)) (kx key l (lo+i))
structure SB (lo:Nat)(a0:Array U5)(cO st:U1):Prop where
 perm:(Vq st).Perm a0
 same:∀k,k<lo→(Vq st)[k]? = a0[k]?
 rest:st=setArr cO (Vq st)
theorem SB.size {st:U1}(h:SB lo a0 cO st):(Vq st).size=a0.size:=h.perm.size_eq
theorem SB.put {st:U1}(h:SB lo a0 cO st){l:Array U5}(hp:l.Perm (Vq st))(hs:∀k,k<lo→l[k]? = (Vq st)[k]?):SB lo a0 cO (setArr st l):=by
 refine⟨hp.trans h.perm,fun k hk=>(hs k hk).trans (h.same k hk),?_⟩
 have:=h.rest
 generalize Vq st=z at this
 subst this
 rfl
theorem SB.mir {st:U1}(h:SB lo a0 cO st)(hm:lo+m≤a0.size):SB lo a0 cO (setArr st (mirror (Vq st) (lo+n) (lo+m) ((lo+m - (lo+n)) / 2))):=by
 refine h.put (mirror_perm _ _ _ _) fun k hk => ?_
 rw[getElem?_mirror_all (by rw[h.size];exact hm),if_neg (by lia)]
theorem SB.bub {st:U1}(h:SB lo a0 cO st){p:Nat}(hp:lo+p<a0.size)(hd:d≤p):SB lo a0 cO (setArr st (bubble (Vq st) (lo+p) d)):=by
 refine h.put (bubble_perm _ _ _) fun k hk => ?_
 rw[getElem?_bubble (by rw[h.size];exact hp) d (by lia),if_neg (by lia),if_neg (by lia)]
theorem SB.kind {st:U1}(h:SB lo a0 cO st)(kd:V0 cO=knd):V0 st=knd:=by rw[h.rest];exact kd
theorem qb (C:jV M A E s O key knd D){st:U1}{Q:Option Bool→U1→Prop}(kd:V0 cO=knd)(hD:∀p∈a0.toList,D p)(hB:SB lo a0 cO st)(hi:i<a0.size)(hj:j<a0.size)(h:Q (some (O.blt (kx key (Vq st) i) (kx key (Vq st) j))) st):wpS M A E s (ltAt' i j) Q st:=by
 have fd:∀i,i<a0.size→∃p,(Vq st)[i]? = some p∧D p∧kx key (Vq st) i=key p:=fun i hi=>by
  have zO:i<(Vq st).size:=by rw[hB.size];exact hi
  refine⟨(Vq st)[i],getElem?_pos _ i zO,hD _ ((Y4.mp hB.perm).mem_iff.mp (by simp)),?_⟩
  unfold kx;rw[getElem?_pos _ i zO];rfl
 obtain⟨p,e1,d1,k1⟩:=fd i hi
 obtain⟨q,e2,d2,k2⟩:=fd j hj
 rw[k1,k2] at h
 rw[ltAt'_eq]
 refine UP (Zg ?_)
 dsimp only
 rw[elem'_eq,elem'_eq,e1,e2]
 refine UP (UW (UP (UW ?_)))
 exact C.lt p q st Q d1 d2 (hB.kind kd) h
theorem td {st:U1}{Q:Unit→U1→Prop}(h:Q () (setArr st (mirror (Vq st) i j ((j - i) / 2)))):wpS M A E s (YL i j) Q st:=by
 rw[reverseSlice'_eq];exact X0 h
theorem uY (C:jV M A E s O key knd D){st:U1}{Q:AscSt→U1→Prop}(kd:V0 cO=knd)(hD:∀p∈a0.toList,D p)(hm:lo+m≤a0.size)(n1:1≤n)(nm:n≤m)(hB:SB lo a0 cO st)(ha:zV key lo (Vq st) n)(h:∀r,n≤r→r≤m→zV key lo (Vq st) r→(r=m∨O.klt (kx key (Vq st) (lo+r)) (kx key (Vq st) (lo+r - 1)))→Q (none,r) st):wpS M A E s (yq lo n m) Q st:=by
 unfold yq
 refine V1 (I:=fun x c aH=>aH=st∧c=(none,x)∧zV key lo (Vq st) x) ?go ?out ⟨rfl,rfl,ha⟩
 case out =>
  rintro c aH ⟨rfl,rfl,xf⟩
  have e:max n m=m:=by lia
  rw[e] at xf ⊢
  exact h m nm (UK _) xf (.inl rfl)
 case go =>
  rintro x c aH h1 h2 ⟨rfl,rfl,xf⟩
  dsimp only
  refine UP (qb C kd hD hB (by lia) (by lia) ?_)
  dsimp only
  cases e:O.blt (kx key (Vq aH) (lo+x)) (kx key (Vq aH) (lo+x - 1)) with
  |true =>
   rw[if_pos rfl]
   exact UW (h x h1 (by lia) xf (.inr e))
  |false =>
   rw[if_neg UG]
   refine UW ⟨rfl,rfl,fun i j vO hj => ?_⟩
   by_cases c1:j<x
   ·exact xf i j vO c1
   ·have:j=x:=by lia
    subst this
    by_cases c2:i=j
    ·subst c2;exact Wd _
    ·have:=xf i (j - 1) (by lia) (by lia)
     rw[show lo+(j - 1)=lo+j - 1 by lia] at this
     exact Vm this e
theorem uZ (C:jV M A E s O key knd D){st:U1}{Q:Option Nat→U1→Prop}(kd:V0 cO=knd)(hD:∀p∈a0.toList,D p)(hm:lo+m≤a0.size)(n1:1≤n)(nm:n≤m)(hB:SB lo a0 cO st)(hd:Jk key lo (Vq st) n)(h:∀r aH,SB lo a0 cO aH→1≤r→r≤m→zV key lo (Vq aH) r→Q (some r) aH):wpS M A E s (yr lo n m) Q st:=by
 unfold yr
 refine UP (td ?_)
 have Js:=hB.mir (n:=0) (m:=n) (by lia)
 have hz:lo+n≤(Vq st).size:=by rw[hB.size];lia
 rw[Y_] at Js
 refine UP (uY C kd hD hm n1 nm Js (fun i j vO hj => ?_) fun r r1 r2 r3 _=>UW (h r _ Js (by lia) r2 r3))
 have e1:=wK (key:=key) (lo:=lo) (n:=0) hz i
 have e2:=wK (key:=key) (lo:=lo) (n:=0) hz j
 rw[Y_,if_pos (by lia)] at e1 e2
 rw[e1,e2]
 exact hd _ _ (by lia) (by lia)
theorem B7 (C:jV M A E s O key knd D){st:U1}{Q:DescSt→U1→Prop}(kd:V0 cO=knd)(hD:∀p∈a0.toList,D p)(hm:lo+m≤a0.size)(n1:1≤n)(nm:n≤m)(hB:SB lo a0 cO st)(hd:Jk key lo (Vq st) n)(h:∀r q aH,SB lo a0 cO aH→n≤r→r≤m→Jk key lo (Vq aH) r→q+1≤r→(∀i,r - (q+1)≤i→i<r→kx key (Vq aH) (lo+i)=kx key (Vq aH) (lo+r - 1))→Q (none,r,q) aH):wpS M A E s (B5 lo n m) Q st:=by
 unfold B5
 refine V1 (I:=fun x c aH=>∃q,c=(none,x,q)∧SB lo a0 cO aH∧Jk key lo (Vq aH) x∧q+1≤x∧∀i,x - (q+1)≤i→i<x→kx key (Vq aH) (lo+i)=kx key (Vq aH) (lo+x - 1)) ?go ?out
  ⟨0,rfl,hB,hd,by lia,fun i a1 a2=>by congr 1;lia⟩
 case out =>
  rintro c aH ⟨q,rfl,b1,b2,b3,b4⟩
  have e:max n m=m:=by lia
  rw[e] at b2 b3 b4 ⊢
  exact h m q aH b1 nm (UK _) b2 b3 b4
 case go =>
  rintro x c aH h1 h2 ⟨q,rfl,b1,b2,b3,b4⟩
  have hz:lo+x≤(Vq aH).size:=by rw[b1.size];lia
  unfold Gg
  dsimp only
  refine UP (qb C kd hD b1 (by lia) (by lia) ?_)
  dsimp only
  cases e:O.blt (kx key (Vq aH) (lo+x)) (kx key (Vq aH) (lo+x - 1)) with
  |true =>
   rw[if_pos rfl]
   have nx:∀l:Array U5,(∀k,kx key l (lo+k)=kx key (Vq aH) (lo+k))→Jk key lo l (x+1):=by
    intro l hl i j vO hj
    rw[hl,hl]
    by_cases c1:j<x
    ·exact b2 i j vO c1
    ·have:j=x:=by lia
     subst this
     by_cases c2:i=j
     ·subst c2;exact Wd _
     ·have:=b2 i (j - 1) (by lia) (by lia)
      rw[show lo+(j - 1)=lo+j - 1 by lia] at this
      exact Vm (VD e) this
   by_cases c:q>0
   ·rw[if_pos c]
    refine UP (td ?_)
    have e3:lo+x - (q+1)=lo+(x - (q+1)):=by lia
    rw[e3]
    refine UW ⟨0,rfl,b1.mir (by lia),nx _ (fP hz b4),by lia,fun i a1 a2 => ?_⟩
    congr 1;lia
   ·rw[if_neg c]
    exact UW ⟨0,rfl,b1,nx _ (fun _=>rfl),by lia,fun i a1 a2=>by congr 1;lia⟩
  |false =>
   rw[if_neg UG]
   refine UP (qb C kd hD b1 (by lia) (by lia) ?_)
   dsimp only
   cases e2:O.blt (kx key (Vq aH) (lo+x - 1)) (kx key (Vq aH) (lo+x)) with
   |true =>
    rw[if_pos rfl]
    exact UW (h x q aH b1 h1 (by lia) b2 b3 b4)
   |false =>
    rw[if_neg UG]
    have eq:kx key (Vq aH) (lo+x)=kx key (Vq aH) (lo+x - 1):=KeyOrd.kle_antisymm e2 e
    refine UW ⟨q+1,rfl,b1,fun i j vO hj => ?_,by lia,fun i a1 a2 => ?_⟩
    ·by_cases c1:j<x
     ·exact b2 i j vO c1
     ·have:j=x:=by lia
      subst this
      by_cases c2:i=j
      ·subst c2;exact Wd _
      ·rw[eq]
       have:=b2 i (j - 1) (by lia) (by lia)
       rw[show lo+(j - 1)=lo+j - 1 by lia] at this
       exact this
    ·rw[show lo+(x+1) - 1=lo+x by lia]
     by_cases c1:i=x
     ·subst c1;rfl
     ·rw[eq];exact b4 i (by lia) (by lia)
theorem u3 (C:jV M A E s O key knd D){st:U1}{Q:Option Nat→U1→Prop}(kd:V0 cO=knd)(hD:∀p∈a0.toList,D p)(hm:lo+m≤a0.size)(nm:n+1≤m)(hB:SB lo a0 cO st)(hd:Jk key lo (Vq st) (n+1))(h:∀r aH,SB lo a0 cO aH→1≤r→r≤m→zV key lo (Vq aH) r→Q (some r) aH):wpS M A E s (yt lo n m) Q st:=by
 unfold yt
 refine UP (wpS_lift (Xn ⟨rfl,?_⟩))
 refine UP (B7 C kd hD hm (by lia) nm hB hd fun r q aH b1 r1 r2 b2 b3 b4 => ?_)
 dsimp only
 have hz:lo+r≤(Vq aH).size:=by rw[b1.size];lia
 by_cases c:q>0
 ·rw[if_pos c]
  refine UP (td ?_)
  have e3:lo+r - (q+1)=lo+(r - (q+1)):=by lia
  rw[e3]
  refine uZ C kd hD hm (by lia) r2 (b1.mir (by lia)) (fun i j vO hj => ?_) h
  have e1:=fP (key:=key) hz b4 i
  have e2:=fP (key:=key) hz b4 j
  rw[e1,e2]
  exact b2 i j vO hj
 ·rw[if_neg c]
  exact uZ C kd hD hm (by lia) r2 b1 b2 h
theorem u4 (C:jV M A E s O key knd D){st:U1}{Q:Option Nat→U1→Prop}(kd:V0 cO=knd)(hD:∀p∈a0.toList,D p)(hm:lo+m≤a0.size)(m1:1≤m)(hB:SB lo a0 cO st)(h:∀r aH,SB lo a0 cO aH→1≤r→r≤m→zV key lo (Vq aH) r→Q (some r) aH):wpS M A E s (countRun' lo m) Q st:=by
 rw[uW]
 refine UP (uY C kd hD hm (UK 1) m1 hB (fun i j vO hj=>by rw[show i=j by lia];exact Wd _) fun n n1 n2 ha ho => ?_)
 dsimp only
 by_cases c:n=m
 ·rw[if_pos (by simpa using c)]
  exact UW (h n st hB n1 n2 ha)
 ·rw[if_neg (by simpa using c)]
  have hl:=ho.resolve_left c
  by_cases c2:n>1
  ·rw[if_pos c2]
   refine UP (qb C kd hD hB (by lia) (by lia) ?_)
   dsimp only
   cases e:O.blt (kx key (Vq st) lo) (kx key (Vq st) (lo+n - 1)) with
   |true =>
    rw[if_pos rfl]
    exact UW (h n st hB n1 n2 ha)
   |false =>
    rw[if_neg UG]
    have hz:lo+n≤(Vq st).size:=by rw[hB.size];lia
    have al:∀k,0≤k→k<n→kx key (Vq st) (lo+k)=kx key (Vq st) (lo+n - 1):=by
     intro k _ hk
     have p1:=ha 0 k (by lia) hk
     have p2:=ha k (n - 1) (by lia) (by lia)
     rw[show lo+(n - 1)=lo+n - 1 by lia] at p2
     exact KeyOrd.kle_antisymm p2 (Vm (show O.kle _ (kx key (Vq st) lo) from e) p1)
    refine UP (td ?_)
    have Js:=hB.mir (n:=0) (m:=n) (by lia)
    rw[Y_] at Js
    refine u3 C kd hD hm (by lia) Js (fun i j vO hj => ?_) h
    have e1:=fP (key:=key) (n:=0) hz al i
    have e2:=fP (key:=key) (n:=0) hz al j
    rw[Y_] at e1 e2
    rw[e1,e2]
    by_cases c3:j<n
    ·rw[al i (by lia) (by lia),al j (by lia) c3];exact Wd _
    ·have:j=n:=by lia
     subst this
     by_cases c4:i=j
     ·subst c4;exact Wd _
     ·rw[al i (by lia) (by lia)];exact VD hl
  ·rw[if_neg c2]
   have:n=1:=by lia
   subst this
   refine u3 C kd hD hm (by lia) hB (fun i j vO hj => ?_) h
   by_cases c4:i=j
   ·subst c4;exact Wd _
   ·have NV:i=0:=by lia
    have Sa:j=1:=by lia
    subst NV;subst Sa
    exact VD hl
theorem wL (C:jV M A E s O key knd D){st:U1}{ok:Nat}{Q:Bool→U1→Prop}(kd:V0 cO=knd)(hD:∀p∈a0.toList,D p)(hn:lo+n≤a0.size)(hok:ok≤n)(hB:SB lo a0 cO st)(ha:zV key lo (Vq st) ok)(h:∀aH,SB lo a0 cO aH→zV key lo (Vq aH) n→Q true aH):wpS M A E s (binarySort' lo n ok) Q st:=by
 rw[binarySort'_eq]
 refine UP (W5 (V1 (I:=fun k c aH=>c=(none,())∧SB lo a0 cO aH∧zV key lo (Vq aH) (min k n))
  (Q:=fun c aH=>c=(none,())∧SB lo a0 cO aH∧zV key lo (Vq aH) n) ?go ?out ?iz) ?end_)
 case end_ =>
  rintro c aH ⟨rfl,b1,b2⟩
  exact UW (h aH b1 b2)
 case iz =>
  refine⟨rfl,hB,fun i j vO hj => ?_⟩
  by_cases c:ok=0
  ·rw[show i=j by lia];exact Wd _
  ·exact ha i j vO (by lia)
 case out =>
  rintro c aH ⟨e,b1,b2⟩
  have e2:min (max (max ok 1) n) n=n:=by lia
  rw[e2] at b2
  exact⟨e,b1,b2⟩
 case go =>
  rintro k c xb zW QJ ⟨rfl,b1,b2⟩
  have e1:min k n=k:=by lia
  rw[e1] at b2
  have hk:lo+k<a0.size:=by lia
  refine UP (W5 (V1 (I:=fun x c jI=>jI=xb∧∃l r,c=(none,l,r)∧l≤r∧r≤k∧r - l≤k - x ∧
    (∀i,i<l→O.kle (kx key (Vq xb) (lo+i)) (kx key (Vq xb) (lo+k)))∧∀i,r≤i→i<k→O.klt (kx key (Vq xb) (lo+k)) (kx key (Vq xb) (lo+i)))
   (Q:=fun c jI=>jI=xb∧∃l,c=(none,l,l)∧l≤k∧(∀i,i<l→O.kle (kx key (Vq xb) (lo+i)) (kx key (Vq xb) (lo+k)))∧∀i,l≤i→i<k→O.klt (kx key (Vq xb) (lo+k)) (kx key (Vq xb) (lo+i))) ?go2 ?out2 ?yF) ?end2)
  case yF=>exact⟨rfl,0,k,rfl,by lia,by lia,by lia,fun i hi=>by lia,fun i a1 a2=>by lia⟩
  case out2 =>
   rintro c jI ⟨rfl,l,r,rfl,q1,q2,q3,q4,q5⟩
   have:l=r:=by lia
   subst this
   exact⟨rfl,l,rfl,q2,q4,q5⟩
  case go2 =>
   rintro x c jI _ hx ⟨rfl,l,r,rfl,q1,q2,q3,q4,q5⟩
   dsimp only
   by_cases c:l≥r
   ·rw[if_pos c]
    have:l=r:=by lia
    subst this
    exact UW ⟨rfl,l,rfl,q2,q4,q5⟩
   ·rw[if_neg c]
    refine UP (qb C kd hD b1 hk (by lia) ?_)
    cases e:O.blt (kx key (Vq jI) (lo+k)) (kx key (Vq jI) (lo+(l+r) / 2)) with
    |true =>
     simp only[if_true]
     exact UW ⟨rfl,l,(l+r) / 2,rfl,by lia,by lia,by lia,q4,fun i a1 a2=>KeyOrd.klt_of_klt_of_kle e (b2 _ _ a1 a2)⟩
    |false =>
     simp only[Vi,if_false]
     exact UW ⟨rfl,(l+r) / 2+1,r,rfl,by lia,by lia,by lia,fun i a1=>Vm (b2 i ((l+r) / 2) (by lia) (by lia)) (show O.kle _ _ from e),q5⟩
  case end2 =>
   rintro c jI ⟨rfl,l,rfl,q2,q4,q5⟩
   dsimp only
   rw[moveDown'_eq]
   have e2:lo+k - (lo+l)=k - l:=by lia
   refine UP (X0 (UW ⟨rfl,?_,?_⟩))
   ·rw[e2];exact b1.bub hk (by lia)
   ·rw[show min (k+1) n=k+1 by lia]
    have hz:lo+k<(Vq jI).size:=by rw[b1.size];exact hk
    intro i j vO hj
    show O.kle (kx key (bubble (Vq jI) (lo+k) (lo+k - (lo+l))) (lo+i)) (kx key (bubble (Vq jI) (lo+k) (lo+k - (lo+l))) (lo+j))
    rw[e2,B6 hz (by lia),B6 hz (by lia),show k - (k - l)=l by lia]
    repeat' split
    all_goals first
     | (exfalso;lia)
     |exact Wd _
     |exact q4 _ (by lia)
     |exact VD (q5 _ (by lia) (by lia))
     |exact b2 _ _ (by lia) (by lia)
end
end Hc.Ts
namespace Hc.Ts
noncomputable def tj (lo n:Nat):StateT U1 Sem (ForInStep (Option Unit×Nat)):=do
 modify fun st=>setPending st ((Vk st).push (lo,n,0))
 pure (.yield (none,lo+n))
noncomputable def Nf (pw:Nat)(_:Nat)(_:Option Unit×Unit):StateT U1 Sem (ForInStep (Option Unit×Unit)):=do
 let st ←get
 let some (_,_,old):=(if (Vk st).size>1 then (Vk st)[(Vk st).size - 2]? else none)|pure (.done (none,()))
 if old≤pw then pure (.done (none,())) else do
  let r ←mergeAt' ((Vk st).size - 2)
  if (!r)=true then pure (.done (some (),())) else pure (.yield (none,()))
noncomputable def Ng (pw:Nat)(st:U1):U1:=setPending st ((Vk st).modify ((Vk st).size - 1) fun x=>match x with|(p,n,_)=>(p,n,pw))
noncomputable def Gh (size lo n pw:Nat):StateT U1 Sem (ForInStep (Option Unit×Nat)):=do
 let c ←forIn [0:size] ((none,()):Option Unit×Unit) (Nf pw)
 match c.1 with
 |some r=>pure (.done (some r,lo))
 |none=>do
  modify (Ng pw)
  tj lo n
noncomputable def L0 (size lo n:Nat):StateT U1 Sem (ForInStep (Option Unit×Nat)):=do
 let st ←get
 let some (p1,n1,_):=(Vk st).back? | tj lo n
 Gh size lo n (power' size (2*p1+n1) (2*p1+n1+n1+n) size)
noncomputable def Nh (size mQ:Nat)(_:Nat)(c:Option Unit×Nat):StateT U1 Sem (ForInStep (Option Unit×Nat)) :=
 if c.2≥size then pure (.done (none,c.2)) else do
  let some n ←countRun' c.2 (size - c.2)|pure (.done (some (),c.2))
  if n<mQ then do
   liftM (rule "list.sort.binary-insertion")
   let r ←binarySort' c.2 (min (size - c.2) mQ) n
   if (!r)=true then pure (.done (some (),c.2)) else L0 size c.2 (min (size - c.2) mQ)
  else L0 size c.2 n
noncomputable def Ni (p:Array (Nat×Nat×Nat)):Nat :=
 if Option.any (fun x=>decide (x<(p[p.size - 2+1]?).elim 0 fun x=>x.2.1)) (if p.size - 2>0 then Option.map (fun x=>x.2.1) p[p.size - 2 - 1]? else none)=true then p.size - 2 - 1 else p.size - 2
noncomputable def Ql (_:Nat)(_:Option Unit×Unit):StateT U1 Sem (ForInStep (Option Unit×Unit)):=do
 let st ←get
 if (Vk st).size≤1 then pure (.done (none,())) else do
  let r ←mergeAt' (Ni (Vk st))
  if (!r)=true then pure (.done (some (),())) else pure (.yield (none,()))
theorem tm:sortRuns'=(do
  let st ←get
  let c ←forIn [0:(Vq st).size] ((none,0):Option Unit×Nat) (Nh (Vq st).size (minRun' (Vq st).size (Vq st).size 0))
  match c.1 with
  |some r=>pure r
  |none=>do
   let d ←forIn [0:(Vq st).size] ((none,()):Option Unit×Unit) Ql
   match d.1 with
   |some r=>pure r
   |none=>pure ()):=by kernel_rfl
section
variable {A:VE}{O:Zy}{key:U5→O.α}{knd:XS}{D:U5→Prop}
noncomputable def qc (key:U5→O.α):Nat→List (List U5)→List (Nat×Nat×Nat)→Prop
 |_,[],[]=>True
 |p,g::gs,e::es=>e.1=p∧e.2.1=g.length∧0<g.length∧gP key g∧qc key (p+g.length) gs es
 |_,_,_=>False
theorem qc.len:∀{p:Nat} {gs:List (List U5)} {es:List (Nat×Nat×Nat)},qc key p gs es→gs.length=es.length∧gs.length≤gs.flatten.length
 |_,[],[],_=>⟨rfl,UK _⟩
 |p,g::gs,e::es,h=>by
  obtain⟨h1,h2⟩:=qc.len h.2.2.2.2
  have:=h.2.2.1
  rw[Vj,UH,UI,UI]
  lia
theorem qc.app:∀{p:Nat} {gs:List (List U5)} {es:List (Nat×Nat×Nat)} {gs2:List (List U5)} {es2:List (Nat×Nat×Nat)},qc key p gs es→qc key (p+gs.flatten.length) gs2 es2→qc key p (gs++gs2) (es++es2)
 |_,[],[],_,_,_,h2=>h2
 |p,g::gs,e::es,gs2,es2,h,h2=>by
  refine⟨h.1,h.2.1,h.2.2.1,h.2.2.2.1,qc.app h.2.2.2.2 ?_⟩
  rw[Vj,UH,←Nat.add_assoc] at h2
  exact h2
theorem qc.split:∀{i p:Nat} {gs:List (List U5)} {es:List (Nat×Nat×Nat)},qc key p gs es→i+1<es.length→∃g1 x y g2 e1 pw pw2 e2,gs=g1++x::y::g2∧es=e1++(p+g1.flatten.length,x.length,pw)::(p+g1.flatten.length+x.length,y.length,pw2)::e2∧e1.length=i∧qc key p g1 e1∧0<x.length∧gP key x∧0<y.length∧gP key y∧qc key (p+g1.flatten.length+x.length+y.length) g2 e2
 |0,p,x::y::g2,(a,b,pw)::(c,d,pw2)::e2,h,_=>by
  obtain⟨h1,h2,h3,h4,k1,k2,k3,k4,h5⟩:=h
  dsimp only at h1 h2 k1 k2
  subst h1;subst h2;subst k1;subst k2
  exact⟨[],x,y,g2,[],pw,pw2,e2,rfl,rfl,rfl,trivial,h3,h4,k3,k4,h5⟩
 |0,p,[x],[e],h,hl=>absurd hl (by simp)
 |0,p,[],[],h,hl=>absurd hl (by simp)
 |0,p,[x],_::_::_,h,hl=>h.2.2.2.2.elim
 |0,p,_::_::_,[e],h,hl=>h.2.2.2.2.elim
 |i+1,p,[],[],h,hl=>absurd hl (by simp)
 |i+1,p,g::gs,e::es,h,hl=>by
  obtain⟨g1,x,y,g2,e1,pw,pw2,e2,q1,q2,q3,q4,q5⟩:=qc.split h.2.2.2.2 (i:=i) (by simpa using hl)
  refine⟨g::g1,x,y,g2,e::e1,pw,pw2,e2,by rw[q1];rfl,?_,by rw[UI,q3],⟨h.1,h.2.1,h.2.2.1,h.2.2.2.1,q4⟩,?_⟩
  ·rw[q2,Vj,UH,←Nat.add_assoc];rfl
  ·rw[Vj,UH,←Nat.add_assoc];exact q5
theorem qc.power {f:Nat×Nat×Nat→Nat×Nat×Nat}(hf:∀e,(f e).1=e.1∧(f e).2.1=e.2.1):∀{i p:Nat} {gs:List (List U5)} {es:List (Nat×Nat×Nat)},qc key p gs es→qc key p gs (es.modify i f)
 |_,_,[],[],_=>by rw[List.modify_nil];exact trivial
 |0,p,g::gs,e::es,h=>by
  rw[List.modify_zero_cons]
  exact⟨(hf e).1.trans h.1,(hf e).2.trans h.2.1,h.2.2⟩
 |i+1,p,g::gs,e::es,h=>by
  rw[List.modify_succ_cons]
  exact⟨h.1,h.2.1,h.2.2.1,h.2.2.2.1,qc.power hf h.2.2.2.2⟩
structure SI (key:U5→O.α)(knd:XS)(a0:Array U5)(lo:Nat)(rest:List U5)(st:U1):Prop where
 failed:XT st=none
 kind:V0 st=knd
 perm:(Vq st).toList.Perm a0.toList
 segs:∃gs:List (List U5),(Vq st).toList=gs.flatten++rest∧gs.flatten.length=lo∧qc key 0 gs (Vk st).toList
variable {a0:Array U5}{lo:Nat}{rest:List U5}
theorem SI.size {st:U1}(h:SI key knd a0 lo rest st):lo+rest.length=a0.size:=by
 obtain⟨gs,e,l,_⟩:=h.segs
 have:=h.perm.length_eq
 rw[e,UH,l,UE] at this
 exact this
theorem SI.few {st:U1}(h:SI key knd a0 lo rest st):(Vk st).size≤lo:=by
 obtain⟨gs,e,l,p⟩:=h.segs
 have h1:=p.len
 have h2:(Vk st).toList.length=(Vk st).size:=UE
 lia
theorem SI.merge (C:jV M A E s O key knd D)(hD:∀p∈a0.toList,D p){st:U1}(h:SI key knd a0 lo rest st)(hi:i+1<(Vk st).size){Q:Bool→U1→Prop}(q:∀aH,SI key knd a0 lo rest aH→(Vk aH).size+1=(Vk st).size→Q true aH):wpS M A E s (mergeAt' i) Q st:=by
 obtain⟨gs,e,l,p⟩:=h.segs
 obtain⟨g1,x,y,g2,e1,pw,pw2,e2,q1,q2,q3,q4,x0,sx,y0,sy,q5⟩:=p.split (i:=i) (by rw[UE];exact hi)
 rw[WZ] at q2 q5
 subst q3
 have ea:(Vq st).toList=g1.flatten++(x++(y++(g2.flatten++rest))):=by
  rw[e,q1,WQ,Vj,Vj];simp only[UZ]
 have mem:∀p∈(Vq st).toList,D p:=fun p hp=>hD p (h.perm.mem_iff.mp hp)
 refine wJ C (pw:=pw) (pw2:=pw2) h.failed h.kind ea ?_ ?_ (fun p hp=>mem p (by rw[ea];simp[hp])) (fun p hp=>mem p (by rw[ea];simp[hp])) sx sy x0 y0 fun z g hz sz=>q _ ?_ ?_
 ·rw[←U_,q2,VG (UK _),Y9];rfl
 ·rw[←U_,q2,VG (We _ 1),Wr];rfl
 all_goals
  have ep:(rK (Vk st) e1.length g1.flatten.length (x.length+y.length) pw).toList=e1++(g1.flatten.length,x.length+y.length,pw)::e2:=by
   unfold rK
   rw[Array.toList_eraseIdxIfInBounds,Y3,q2,List.set_append_right _ _ (UK _),Y9,V6,List.eraseIdx_append_of_length_le (We _ 1),Wr]
   rfl
 ·refine⟨h.failed,h.kind,?_,g1++z::g2,?_,?_,?_⟩
  ·show (g1.flatten++(z++(g2.flatten++rest))).Perm a0.toList
   refine List.Perm.trans ?_ h.perm
   rw[ea]
   refine VN _ ?_
   rw[←UZ x]
   exact VZ _ hz
  ·show g1.flatten++(z++(g2.flatten++rest))=_
   rw[WQ,Vj];simp only[UZ]
  ·rw[←l,q1,WQ,WQ,Vj,Vj,Vj]
   have:=hz.length_eq
   rw[UH] at this
   simp only[UH]
   lia
  ·show qc key 0 _ (rK (Vk st) e1.length g1.flatten.length (x.length+y.length) pw).toList
   have hl:z.length=x.length+y.length:=by rw[hz.length_eq,UH]
   rw[ep]
   refine q4.app ⟨by rw[WZ],hl.symm,by rw[hl];lia,sz,?_⟩
   rw[WZ,hl,←Nat.add_assoc]
   exact q5
 ·show (rK (Vk st) e1.length g1.flatten.length (x.length+y.length) pw).size+1=_
  rw[←UE,ep,←UE (xs:=Vk st),q2]
  simp only[UH,UI]
  lia
theorem Ie (C:jV M A E s O key knd D)(hD:∀p∈a0.toList,D p){st:U1}(h:SI key knd a0 lo rest st){pw:Nat}{c:Option Unit×Unit}{Q:ForInStep (Option Unit×Unit)→U1→Prop}(q1:∀aH,SI key knd a0 lo rest aH→Q (.done (none,())) aH)(q2:∀aH,SI key knd a0 lo rest aH→Q (.yield (none,())) aH):wpS M A E s (Nf pw i c) Q st:=by
 unfold Nf
 refine UP (Zg ?_)
 by_cases c1:(Vk st).size>1
 ·rw[if_pos c1,getElem?_pos (Vk st) _ (by lia)]
  obtain⟨a,b,old⟩:=(Vk st)[(Vk st).size - 2]
  dsimp only
  split
  ·exact UW (q1 st h)
  ·refine UP (h.merge C hD (by lia) fun aH h' _ => ?_)
   rw[if_neg (by decide)]
   exact UW (q2 aH h')
 ·rw[if_neg c1]
  exact UW (q1 st h)
theorem rL {st:U1}(h:SI key knd a0 lo rest st){Q:ForInStep (Option Unit×Nat)→U1→Prop}(n1:1≤n)(n2:n≤rest.length)(sr:gP key (rest.take n))(q:∀aH,SI key knd a0 (lo+n) (rest.drop n) aH→Q (.yield (none,lo+n)) aH):wpS M A E s (tj lo n) Q st:=by
 unfold tj
 refine UP (X0 (UW (q _ ?_)))
 obtain⟨gs,e,l,p⟩:=h.segs
 have hl:(rest.take n).length=n:=by rw[U7];lia
 refine⟨h.failed,h.kind,h.perm,gs++[rest.take n],?_,?_,?_⟩
 ·show (Vq st).toList=_
  rw[e,WQ,UZ]
  congr 1
  rw[Vj,List.flatten_nil,Vw,Vr]
 ·rw[WQ,UH,l,Vj,List.flatten_nil,Vw,hl]
 ·show qc key 0 _ ((Vk st).push (lo,n,0)).toList
  rw[Xh]
  exact p.app ⟨by rw[WZ,l],hl.symm,by lia,sr,trivial⟩
theorem B8 (C:jV M A E s O key knd D)(hD:∀p∈a0.toList,D p){st:U1}(h:SI key knd a0 lo rest st){size:Nat}{Q:ForInStep (Option Unit×Nat)→U1→Prop}(n1:1≤n)(n2:n≤rest.length)(sr:gP key (rest.take n))(q:∀aH,SI key knd a0 (lo+n) (rest.drop n) aH→Q (.yield (none,lo+n)) aH):wpS M A E s (L0 size lo n) Q st:=by
 unfold L0
 refine UP (Zg ?_)
 cases e:(Vk st).back? with
 |none=>exact rL h n1 n2 sr q
 |some v =>
  obtain⟨p1,m1,w⟩:=v
  dsimp only
  unfold Gh
  refine UP (W5 (V1 (I:=fun x c aH=>c=(none,())∧SI key knd a0 lo rest aH) (Q:=fun c aH=>c=(none,())∧SI key knd a0 lo rest aH) ?go (fun _ _ z=>z) ⟨rfl,h⟩) ?fin)
  case go =>
   rintro x c aH _ _ ⟨rfl,h'⟩
   exact Ie C hD h' (fun jI z=>⟨rfl,z⟩) fun jI z=>⟨rfl,z⟩
  case fin =>
   rintro c aH ⟨rfl,h'⟩
   dsimp only
   refine UP (X0 (rL ?_ n1 n2 sr q))
   obtain⟨gs,e,l,p⟩:=h'.segs
   refine⟨h'.failed,h'.kind,h'.perm,gs,e,l,?_⟩
   show qc key 0 gs ((Vk aH).modify _ _).toList
   rw[Array.toList_modify]
   refine qc.power (fun e => ?_) p
   exact⟨rfl,rfl⟩
theorem EB {l:Array U5}{P R:List U5}(e:l.toList=P++R)(h:zV key P.length l n):gP key (R.take n):=by
 refine W_.mpr fun i j hi hj vO => ?_
 rw[U7] at hi hj
 have at_:∀k,(hk:k<R.length)→kx key l (P.length+k)=key R[k]:=fun k hk=>by
  unfold kx
  rw[←U_,e,VG (We _ _),Wr,Uv hk];rfl
 have:=h i j (by lia) (by lia)
 rw[at_ i (by lia),at_ j (by lia)] at this
 rw[Yq,Yq]
 exact this
theorem SI.run {cO st:U1}(h:SI key knd a0 lo rest cO)(b:SB lo (Vq cO) cO st):∃r,SI key knd a0 lo r st∧r.length=rest.length∧∀n,zV key lo (Vq st) n→gP key (r.take n):=by
 obtain⟨gs,e,l,p⟩:=h.segs
 have hp:=Y4.mp b.perm
 have hl:lo≤(Vq st).toList.length:=by rw[hp.length_eq,e,UH,l];lia
 have ht:(Vq st).toList.take lo=gs.flatten:=by
  apply Zr
  intro k
  rw[Yd]
  split
  ·rename_i c
   rw[U_,b.same k c,←U_,e,VU (by lia)]
  ·rename_i c
   rw[List.getElem?_eq_none (by lia)]
 have e2:(Vq st).toList=gs.flatten++(Vq st).toList.drop lo:=by
  conv=>lhs;rw[←Vr lo (Vq st).toList,ht]
 refine⟨(Vq st).toList.drop lo,⟨?_,?_,hp.trans h.perm,gs,e2,l,?_⟩,?_,fun n hn => ?_⟩
 ·rw[b.rest];exact h.failed
 ·rw[b.rest];exact h.kind
 ·rw[b.rest];exact p
 ·have:=hp.length_eq
  rw[e,UH,l] at this
  rw[Vl];lia
 ·subst l
  exact EB e2 hn
theorem Ig (C:jV M A E s O key knd D)(hD:∀p∈a0.toList,D p){st:U1}{mQ:Nat}{c:Option Unit×Nat}(h:SI key knd a0 c.2 rest st){Q:ForInStep (Option Unit×Nat)→U1→Prop}(q1:SI key knd a0 a0.size [] st→c.2=a0.size→Q (.done (none,a0.size)) st)(q2:∀n r aH,1≤n→SI key knd a0 (c.2+n) r aH→Q (.yield (none,c.2+n)) aH):wpS M A E s (Nh a0.size mQ i c) Q st:=by
 obtain⟨c1,lo⟩:=c
 dsimp only at h q1 q2
 have hs:=h.size
 unfold Nh
 dsimp only
 by_cases c2:lo≥a0.size
 ·rw[if_pos c2]
  have e1:lo=a0.size:=by lia
  have e2:rest=[]:=VJ (by lia)
  subst e1;subst e2
  exact UW (q1 h rfl)
 ·rw[if_neg c2]
  have QN:∀p∈(Vq st).toList,D p:=fun p hp=>hD p (h.perm.mem_iff.mp hp)
  have hz:(Vq st).size=a0.size:=by have:=h.perm.length_eq;rwa [UE,UE] at this
  have b0:SB lo (Vq st) st st:=⟨Array.Perm.refl _,fun _ _=>rfl,rfl⟩
  refine UP (u4 C h.kind QN (by lia) (by lia) b0 fun n aH b1 n1 n2 ha => ?_)
  dsimp only
  by_cases c3:n<mQ
  ·rw[if_pos c3]
   refine UP (wpS_lift (Xn ⟨rfl,?_⟩))
   refine UP (wL C h.kind QN (by lia) (by lia) b1 ha fun jI b2 Jr => ?_)
   rw[if_neg (by decide)]
   obtain⟨r,h',hl,hr⟩:=h.run b2
   exact B8 C hD h' (by lia) (by lia) (hr _ Jr) fun Dd h3=>q2 _ _ Dd (by lia) h3
  ·rw[if_neg c3]
   obtain⟨r,h',hl,hr⟩:=h.run b1
   exact B8 C hD h' n1 (by lia) (hr _ ha) fun Dd h3=>q2 _ _ Dd n1 h3
theorem Ih {p:Array (Nat×Nat×Nat)}(h:¬p.size≤1):Ni p+1<p.size:=by
 unfold Ni
 generalize (Option.any _ _)=z
 cases z with
 |true=>rw[if_pos rfl];lia
 |false=>rw[if_neg UG];lia
theorem u5 (C:jV M A E s O key knd D)(hD:∀p∈a0.toList,D p){st:U1}(hk:V0 st=knd)(hf:XT st=none)(ha:Vq st=a0)(hp:Vk st=#[]){Q:Unit→U1→Prop}
  (q:∀aH,XT aH=none→(Vq aH).toList.Perm a0.toList→gP key (Vq aH).toList→Q () aH):wpS M A E s sortRuns' Q st:=by
 rw[tm]
 refine UP (Zg ?_)
 rw[ha]
 have h0:SI key knd a0 0 a0.toList st:=⟨hf,hk,by rw[ha],[],by rw[ha];rfl,rfl,by rw[hp];exact trivial⟩
 refine UP (W5 (V1 (I:=fun x c aH=>c.1=none∧x≤c.2∧∃r,SI key knd a0 c.2 r aH) (Q:=fun c aH=>c.1=none∧SI key knd a0 a0.size [] aH) ?go ?out ⟨rfl,UK _,_,h0⟩) ?post)
 case out =>
  rintro⟨c1,lo⟩ aH ⟨e,hx,r,h⟩
  dsimp only at e hx h
  have hs:=h.size
  have e1:lo=a0.size:=by lia
  have e2:r=[]:=VJ (by lia)
  subst e1;subst e2
  exact⟨e,h⟩
 case go =>
  rintro x c aH _ hx ⟨e,hx2,r,h⟩
  refine Ig C hD h (fun h1 h2=>⟨rfl,h1⟩) fun n r jI n1 h2=>⟨rfl,?_,r,h2⟩
  show x+1≤c.2+n
  lia
 case post =>
  rintro⟨c1,lo⟩ aH ⟨e,h⟩
  dsimp only at e ⊢
  subst e
  dsimp only
  refine UP (W5 (V1 (I:=fun x c aH=>c=(none,())∧SI key knd a0 a0.size [] aH∧(Vk aH).size+x≤a0.size) (Q:=fun c aH=>c=(none,())∧SI key knd a0 a0.size [] aH∧(Vk aH).size≤1) ?_ ?_ ⟨rfl,h,by have:=h.few;lia⟩) ?_)
  ·rintro x c jI _ hx ⟨rfl,h2,h3⟩
   unfold Ql
   refine UP (Zg ?_)
   by_cases c:(Vk jI).size≤1
   ·rw[if_pos c]
    exact UW ⟨rfl,h2,c⟩
   ·rw[if_neg c]
    refine UP (h2.merge C hD (Ih c) fun Dd h4 h5 => ?_)
    rw[if_neg (by decide)]
    exact UW ⟨rfl,h4,by lia⟩
  ·rintro c jI ⟨rfl,h2,h3⟩
   exact⟨rfl,h2,by lia⟩
  ·rintro c jI ⟨rfl,h2,h3⟩
   refine UW (q jI h2.failed h2.perm ?_)
   obtain⟨gs,e,l,p⟩:=h2.segs
   rw[e,Vw]
   match gs,(Vk jI).toList,p,(show (Vk jI).toList.length≤1 by rw[UE];exact h3) with
   | [],_,_,_=>exact List.Pairwise.nil
   | [g],[e1],p,_ =>
    rw[Vj,List.flatten_nil,Vw]
    exact p.2.2.2.1
   |g::g2::gs,[e1],p,_=>exact p.2.2.2.2.elim
   |g::gs,e1::e2::es,p,hl=>exact absurd hl (by simp)
end
end Hc.Ts
namespace Hc.Ts
section
variable {A:VE}{O:Zy}{key:U5→O.α}{knd:XS}{D:U5→Prop}
theorem iH {vs:List Uz}(h:l.Perm (vs.zip vs)):(l.map (·.2)).Perm vs∧∀p∈l,p=(p.2,p.2):=by
 have e:(vs.zip vs).map (·.2)=vs:=by
  induction vs with
  |nil=>rfl
  |cons v r ih=>rw[X5,UT,List.map_snd_zip (by simp)]
 refine⟨by have:=h.map (·.2);rwa [e] at this,fun p hp => ?_⟩
 have hp:=h.mem_iff.mp hp
 clear h e
 induction vs with
 |nil=>cases hp
 |cons v r ih =>
  rw[X5,UU] at hp
  rcases hp with hp|hp
  ·subst hp;rfl
  ·exact ih hp
theorem B9 {vs:List Uz}{P:Fin→UQ→Prop}(ho:s.heap.get? a=some (seqObj "list" vs.toArray n))(hz:vs.length≤1000000)(hk:2≤vs.length→∀(h6:Xi) (Q:XS→UQ→Prop),(∀b o,b≠a→s.heap.get? b=some o→h6.get? b=some o)→Q knd {s with heap:=h6}→U4 (Vf prog w) A (keyKind' vs.toArray) Q E {s with heap:=h6})(hC:2≤vs.length→∀h6:Xi,(∀b o,b≠a→s.heap.get? b=some o→h6.get? b=some o)→jV (Vf prog w) A E {s with heap:=h6} O key knd D)(hD:∀v∈vs,D (v,v))(h:∀out:List Uz,out.Perm vs→out.Pairwise (fun x y=>O.kle (key (x,x)) (key (y,y)))→P (.done (.ret .none)) {s with heap:=sortedHeap s.heap a vs out.toArray}) :
  U4 (Vf prog w) A (Builtin.«list.sort» ⟨[.ref a],[]⟩) P E s:=by
 have Jd:vs.length≤UA:=by rw[W7];lia
 have la:a<s.heap.objs.size:=UR ho
 rw[list_sort_plain]
 refine Uw (listItems_at ho rfl (Uw (listUpdate_at ho rfl ?_ (hsz:=by rw[UC];exact Jd))))
 obtain⟨e1,o1⟩:∃e1,(s.heap.update a (XB fun _=>#[])).get? a=some (seqObj "list" #[] e1):=⟨_,get?_update_seq ho (fun _=>#[])⟩
 refine Uw (seqEpoch_at o1 rfl (Uw (wpAny_newTuple (Uw (wpAny_newList (Wl ?_))) (by simpa using Jd))))
 have kp:∀b o,b≠a→s.heap.get? b=some o→(((s.heap.update a (XB fun _=>#[])).push (seqObj "tuple" vs.toArray 0)).push (seqObj "list" #[] 0)).get? b=some o:=fun b o hb e =>
  Uy _ (Uy _ ((Heap.get?_update_ne _ _ _ _ hb).trans e))
 have o6:(((s.heap.update a (XB fun _=>#[])).push (seqObj "tuple" vs.toArray 0)).push (seqObj "list" #[] 0)).get? a=some (seqObj "list" #[] e1):=Uy _ (Uy _ o1)
 change U4 (Vf prog w) A _ P E {s with heap:=((s.heap.update a (XB fun _=>#[])).push (seqObj "tuple" vs.toArray 0)).push (seqObj "list" #[] 0)}
 dsimp only
 have fin:∀aH:U1,XT aH=none→(Vq aH).toList.Perm (pairsOf vs).toList→gP key (Vq aH).toList→U4 (Vf prog w) A (do
   let touched:=(←seqEpoch a) != e1
   Builtin.List.listUpdate (.ref a) fun _=>(Vq aH).map (·.2)
   if let some e:=XT aH then rule "list.sort.comparison-raised";throw e
   if touched then rule "list.sort.modified";raiseError "ValueError" "list modified during sort"
   ret .none) P E {s with heap:=((s.heap.update a (XB fun _=>#[])).push (seqObj "tuple" vs.toArray 0)).push (seqObj "list" #[] 0)}:=by
  intro aH f1 f2 f3
  rw[pairsOf_toList] at f2
  obtain⟨m1,m2⟩:=iH f2
  refine Uw (seqEpoch_at o6 rfl (Uw (listUpdate_at o6 rfl ?_ (hsz2:=by
   rw[Array.size_map,←UE,f2.length_eq,List.length_zip,Nat.min_self];lia))))
  rw[f1]
  simp only[bne_self_eq_false,Vi,if_false]
  refine UD ?_
  have e:(Vq aH).map (·.2)=((Vq aH).toList.map (·.2)).toArray:=by apply Array.ext';simp
  rw[e]
  refine h _ m1 (WJ.mpr (Xg (fun {x y} hx hy r => ?_) f3))
  rw[←m2 x hx,←m2 y hy]
  exact r
 by_cases h2:vs.length<2
 ·rw[if_pos (by rw[UC];exact h2),if_pos (by rw[UC];exact h2)]
  refine Uw (UD ?_)
  rw[StateT.run_pure]
  refine Uw (UD ?_)
  refine fin (SortSt.mk' general' (vs.toArray.zip vs.toArray) #[] 7 none) rfl (Wa _) ?_
  change gP key (pairsOf vs).toList
  rw[pairsOf_toList]
  match vs,h2 with
  | [],_=>exact List.Pairwise.nil
  | [v],_=>exact List.pairwise_singleton _ _
  |_::_::_,h2=>exact absurd h2 (by simp)
 ·rw[if_neg (by rw[UC];exact h2),if_neg (by rw[UC];exact h2)]
  refine Uw (hk (by lia) _ _ kp ?_)
  refine Uw (V3 (u5 (hC (by lia) _ kp) (a0:=pairsOf vs) (fun p hp => ?_) (st:=SortSt.mk' knd (vs.toArray.zip vs.toArray) #[] 7 none) rfl rfl rfl rfl
   (Q:=fun _ aH=>XT aH=none∧(Vq aH).toList.Perm (pairsOf vs).toList∧gP key (Vq aH).toList) fun aH a1 a2 a3=>⟨a1,a2,a3⟩) ?_ fun _ _ e=>e)
  ·rw[pairsOf_toList] at hp
   obtain⟨m1,m2⟩:=iH (Wa (vs.zip vs))
   rw[m2 p hp]
   exact hD _ (m1.mem_iff.mp (WR hp))
  ·rintro⟨⟨⟩,aH⟩ s' ⟨rfl,f1,f2,f3⟩
   exact fin aH f1 f2 f3
end
end Hc.Ts
namespace Hc.Ts
open PySem.W
noncomputable def fz:List Int→List Int→Bool
 | [],[]=>false
 | [],_::_=>true
 |_::_,[]=>false
 |x::xs,y::ys=>if x=y then fz xs ys else decide (x<y)
theorem jj:∀a,fz a a=false
 | []=>rfl
 |x::xs=>by unfold fz;rw[if_pos rfl];exact jj xs
theorem qd:∀a b c,fz a b=true→fz b c=true→fz a c=true
 | [],[],_,h,_=>by cases h
 | [],_::_,[],_,h=>by cases h
 | [],_::_,_::_,_,_=>rfl
 |_::_,[],_,h,_=>by cases h
 |_::_,_::_,[],_,h=>by cases h
 |x::xs,y::ys,z::zs,h1,h2=>by
  unfold fz at h1 h2 ⊢
  by_cases e1:x=y
  ·subst e1
   rw[if_pos rfl] at h1
   by_cases e2:x=z
   ·subst e2
    rw[if_pos rfl] at h2 ⊢
    exact qd xs ys zs h1 h2
   ·rw[if_neg e2] at h2 ⊢;exact h2
  ·rw[if_neg e1] at h1
   have h1:=of_decide_eq_true h1
   by_cases e2:y=z
   ·subst e2
    rw[if_neg e1];exact decide_eq_true h1
   ·rw[if_neg e2] at h2
    have h2:=of_decide_eq_true h2
    rw[if_neg (by lia)]
    exact decide_eq_true (by lia)
theorem u6:∀a b c,fz a c=true→fz a b=true∨fz b c=true
 | [],[],_::_,_=>.inr rfl
 | [],_::_,_::_,_=>.inl rfl
 | [],_,[],h=>by cases h
 |_::_,_,[],h=>by cases h
 |_::_,[],_::_,_=>.inr rfl
 |x::xs,y::ys,z::zs,h=>by
  unfold fz at h ⊢
  by_cases e:x=z
  ·subst e
   rw[if_pos rfl] at h
   by_cases e2:x=y
   ·subst e2
    rw[if_pos rfl,if_pos rfl]
    exact u6 xs ys zs h
   ·rw[if_neg e2,if_neg (fun q=>e2 q.symm),decide_eq_true_eq,decide_eq_true_eq]
    lia
  ·rw[if_neg e] at h
   have h:=of_decide_eq_true h
   by_cases e2:x=y
   ·subst e2
    exact .inr (by rw[if_neg e];exact decide_eq_true h)
   ·by_cases e3:y=z
    ·subst e3
     exact .inl (by rw[if_neg e];exact decide_eq_true h)
    ·rw[if_neg e2,if_neg e3,decide_eq_true_eq,decide_eq_true_eq]
     lia
theorem j_:∀a b,fz a b=false→fz b a=false→a=b
 | [],[],_,_=>rfl
 | [],_::_,h,_=>by cases h
 |_::_,[],_,h=>by cases h
 |x::xs,y::ys,h1,h2=>by
  unfold fz at h1 h2
  by_cases e:x=y
  ·subst e
   rw[if_pos rfl] at h1 h2
   rw[j_ xs ys h1 h2]
  ·rw[if_neg e] at h1
   rw[if_neg (fun q=>e q.symm)] at h2
   have h1:=of_decide_eq_false h1
   have h2:=of_decide_eq_false h2
   lia
noncomputable def wM:Zy:=⟨List Int,fz,jj,qd,u6,j_⟩
noncomputable def tq (h:Xi)(v:Uz):List Int:=match v with
 | .ref a=>match h.get? a with
  |some o=>match o.data with
   | .seq ar _=>ar.toList.map numOf
   |_=>[]
  |none=>[]
 |_=>[]
noncomputable def u7 (h:Xi)(v:Uz):Prop:=∃a ar ns,v=.ref a∧h.IsTuple a ar∧W8 ar.toList ns∧ns≠[]
theorem u9:∀{vs:List Uz} {ns:List Int},W8 vs ns→vs.map numOf=ns
 |_,_,.nil=>rfl
 |_,_,.cons n t r=>by rw[UT,u9 r];rfl
theorem ll {ar:Array Uz}(t:h.IsTuple a ar)(i:W8 ar.toList ns):tq h (.ref a)=ns:=by
 obtain⟨o,e,_,n,d⟩:=t
 unfold tq
 dsimp only
 rw[e]
 dsimp only
 rw[d]
 exact u9 i
section
variable {A:VE}{b fin:Bool}{Q:Bool→UQ→Prop}
theorem u_:∀{xs ys:List Uz} {ns ms:List Int} {i:Nat},W8 xs ns→W8 ys ms→fin=decide (ns.length<ms.length)→Q (fz ns ms) s→KatLex prog w A b fin Q (xs.zip ys) i s
 |_,_,_,_,i,.nil,.nil,hf,h=>by subst hf;exact kat_nil h
 |_,_,_,_,i,.nil,.cons m t r,hf,h=>by subst hf;exact kat_nil (by rw[show decide (([]:List Int).length<(m::_).length)=true from decide_eq_true (by simp)];exact h)
 |_,_,_,_,i,.cons n t r,.nil,hf,h=>by subst hf;exact kat_nil (by rw[show decide ((n::_).length<([]:List Int).length)=false from decide_eq_false (by simp)];exact h)
 |_,_,_,_,i,.cons n t r,.cons m u q,hf,h=>by
  refine kat_cons (wpAny_eqBool_int ?_)
  unfold fz at h
  by_cases e:n=m
  ·subst e
   rw[if_pos rfl] at h
   rw[beq_self_eq_true]
   refine kat_yes (u_ r q ?_ h)
   rw[hf]
   simp
  ·rw[if_neg e] at h
   rw[show (n==m)=false from beq_eq_false_iff_ne.mpr e]
   refine kat_no ?_
   cases hb:(b&&i==0) with
   |true=>exact oneLt_int h
   |false=>exact kat_one _ _ (lt_int h)
theorem EC {hp:Xi}(keep:∀v,u7 hp v→u7 s.heap v∧tq s.heap v=tq hp v):jV (Vf prog w) A E s wM (fun x=>tq hp x.1) (tuples' true) (fun x=>u7 hp x.1) where
 lt:=fun x y st Q dx dy kd q=>by
  obtain⟨k1,k2⟩:=keep _ dx
  obtain⟨k3,k4⟩:=keep _ dy
  obtain⟨a,xs,ns,e1,t1,i1,_⟩:=k1
  obtain⟨c,ys,ms,e2,t2,i2,_⟩:=k3
  rw[←k2,←k4,e1,e2,ll t1 i1,ll t2 i2] at q
  rw[lt'_eq]
  refine UP (Zg ?_)
  rw[kd,e1,e2]
  obtain⟨o1,g1,_,n1,d1⟩:=t1
  obtain⟨o2,g2,_,n2,d2⟩:=t2
  refine UP (wpS_lift (Yc (kat_lt g1 d1 g2 d2 (u_ i1 i2 ?_ ⟨rfl,?_⟩))))
  ·rw[←i1.length,←i2.length,UE,UE]
  ·exact UW q
end
end Hc.Ts
namespace Hc.Dw
open PySem.W PySem.Calls
section
variable {A:VE}{d r I:UY}{ds:Array DictEntry}
theorem va {T:String}{P:Nat→Uz→Prop}{OK:Xi→Prop}(K:KdlSrc prog w T r d n P OK)(hh:A.handled=none)(hok:OK s.heap)(hn:n≤UA){Q:List Uz→UQ→Prop}(q:∀h' tk bY,(∀b o,s.heap.get? b=some o→h'.get? b=some o)→ItemsOf P bY n→Q bY.toList {s with heap:=h',toks:=tk}):U4 (Vf prog w) A (collect (.ref r)) Q E s:=by
 have lt:=K.there _ hok
 unfold collect
 refine Uw (wpAny_runValue (WN PySem.F.entry_proto_collect ?_))
 rw[Ws PySem.F.plain_proto_collect _]
 change U4 _ A.in1 (newList [] >>= fun l=>again (.builtin "list.__iadd__" ⟨[l,.ref r],[]⟩)) _ _ s
 refine Uw (VI (UD ⟨plainId_quiet PySem.F.plain_list_iadd _,WN PySem.F.entry_list_iadd ?_⟩))
 rw[Ws PySem.F.plain_list_iadd _]
 have hS:(s.heap.push {cls:=.type "list",data:=.seq ([]:List Uz).toArray}).get? s.heap.objs.size=some {cls:=.type "list",data:=.seq #[] 0}:=UN _ rfl
 change U4 _ A.in1 (YR (.ref s.heap.objs.size) (.ref r) (.ref s.heap.objs.size)) _ _ _
 refine kdl_extend (A:=A) (R:=fun x s'=>match x with
  | .ok (.ret v)=>U4 (Vf prog w) A (match v with
   | .ref a=>do match (←load a).data with
    | .seq xs _=>pure xs.toList
    |_=>XW "internal:collect"
   |_=>XW "internal:collect") Q E s'
  | .ok _=>False
  | .error e=>E e s') (s:={s with heap:=s.heap.push {cls:=.type "list",data:=.seq ([]:List Uz).toArray}}) K hh (K.keep _ _ hok fun b _ o e=>Uy _ e) _ (XY lt.1) (XY lt.2) _ 0 hS (fun h' tk bY c' k' IV oj => ?_) hn
 change U4 _ A (load s.heap.objs.size >>= _) _ _ _
 refine Uw (wpAny_load IV ?_)
 exact UD (q h' tk bY (fun b o e=>k' b o (Ve (UR e)) (Uy _ e)) oj)
end
end Hc.Dw
namespace Hc.Sy
open PySem.SetTable Hc.Sx
theorem Jl:Slot "set_iterator" "__next__" "set_iterator.__next__":=by
 refine .of (owner:="set_iterator") (n:="__next__") ?_ (by decide +kernel) (by decide +kernel) (by decide +kernel) ?_ ?_
 ·rw[typeLookup_type,builtinLookup_eq_fast];kernel_rfl
 ·first|exact .inl (by decide +kernel)|exact .inr (by decide +kernel)
 ·rw[isSubtype_type];kernel_rfl
theorem Qm:entryFor table "set_iterator.__next__"=some Builtin.«set_iterator.__next__»:=entryFor_of_tree (by kernel_rfl)
theorem Qn (a:Uz):argsOk "set_iterator.__next__" ⟨[a],[]⟩:=by unfold argsOk;kernel_rfl
theorem Qo:Slot "set_iterator" "__iter__" "set_iterator.__iter__":=by
 refine .of (owner:="set_iterator") (n:="__iter__") ?_ (by decide +kernel) (by decide +kernel) (by decide +kernel) ?_ ?_
 ·rw[typeLookup_type,builtinLookup_eq_fast];kernel_rfl
 ·first|exact .inl (by decide +kernel)|exact .inr (by decide +kernel)
 ·rw[isSubtype_type];kernel_rfl
theorem Ro:entryFor table "set_iterator.__iter__"=some Builtin.«dict_keyiterator.__iter__»:=entryFor_alias (id':="dict_keyiterator.__iter__") (by kernel_rfl) rfl (by decide +kernel) (by kernel_rfl)
theorem Rq (a:Uz):argsOk "set_iterator.__iter__" ⟨[a],[]⟩:=by unfold argsOk;kernel_rfl
theorem Rr:entryFor table "set.__iter__"=some Builtin.«frozenset.__iter__»:=entryFor_alias (id':="frozenset.__iter__") (by kernel_rfl) rfl (by decide +kernel) (by kernel_rfl)
theorem Rt (a:Uz):argsOk "set.__iter__" ⟨[a],[]⟩:=by unfold argsOk;kernel_rfl
noncomputable def jO (w:Xx)(h:Xi)(a:UY)(es:Array (Int×Uz))(ep:Nat)(t:XQ):Prop :=
 ∃o,h.get? a=some o∧o.ExactSet∧o.data=.set es ep t∧t.fits es.size=true∧t.plain=true∧(vS w=true∨t.led=true)∧Ka t.place∧t.place.size=es.size
theorem jO.at (x:jO w h a es ep t)(e:∀o,h.get? a=some o→h'.get? a=some o):jO w h' a es ep t:=by
 obtain⟨o,q,r⟩:=x;exact⟨o,e o q,r⟩
theorem jO.ty (x:jO w s.heap a es ep t):s.TypeIs (.ref a) "set":=by
 obtain⟨o,e,c,_⟩:=x;exact⟨o,e,c.1⟩
theorem jO.lt (x:jO w h a es ep t):a<h.objs.size:=by
 obtain⟨o,e,_⟩:=x;exact UR e
noncomputable def qH (w:Xx)(a:UY)(ep:Nat)(es:Array (Int×Uz)):Array (Int×Uz):=if vS w=true then Zz (w.params.setOrder a ep) es else es
noncomputable def eC (w:Xx)(t:XQ):Nat→Nat
 |0=>0
 |i+1=>if vS w=true then 0 else t.place.getD i 0+1
noncomputable def Ii (w:Xx)(a:UY)(n ep:Nat)(t:XQ)(i:Nat):Array Uz:=#[.int (eC w t i:Nat) 0,.int i 0,.ref a,.int n 0,.int ep 0]
noncomputable def wN (w:Xx)(h:Xi)(it a:UY)(n ep:Nat)(t:XQ)(i:Nat):Prop:=∃o,h.get? it=some o∧o.cls=.type "set_iterator"∧o.data=.fields (Ii w a n ep t i)
theorem wN.at (x:wN w h it a n ep t i)(e:∀o,h.get? it=some o→h'.get? it=some o):wN w h' it a n ep t i:=by
 obtain⟨o,q,r⟩:=x;exact⟨o,e o q,r⟩
theorem eJ {A:VE}{α:Type}{b:Bool}{x y:Sem α}{Q:α→UQ→Prop}(h:b=false)(q:U4 M A y Q E s):U4 M A (if b=true then x else y) Q E s:=by
 rw[h,if_neg UG];exact q
section
variable {A:VE}
theorem Kv (x:jO w s.heap a es ep t)(q:Q (.ref s.heap.objs.size) {s with heap:=s.heap.push {cls:=.type "set_iterator",data:=.fields (Ii w a es.size ep t 0)}}):U4 (Vf prog w) A (pyIter (.ref a)) Q E s:=by
 have ty:=x.ty
 obtain⟨o,e1,e2,e3,e4,e5,e6,e7,e8⟩:=x
 refine wpAny_pyIter_slot ty PySem.F.slot_set_iter (V2 PySem.F.slot_set_iter ty Rr ?_ (Rt _))
 unfold Builtin.«frozenset.__iter__» Builtin.Frozenset.slot0 slotArgs
 simp only[List.isEmpty_nil,Ya,Vi,↓reduceIte,bind_assoc,WM,bne_self_eq_false]
 unfold Builtin.Frozenset.addrOf Builtin.Frozenset.sizeOf
 refine Uw (UD ?_)
 try dsimp only
 refine Uw (UD ?_)
 refine Uw (Uw (YV e1 e3 e4 (UD ?_)))
 unfold setDrawn setsByText
 refine Uw (Uw (VY e1 e3 e4 ?_))
 dsimp only
 refine Uw (Uw (WA (UD (UD ?_))))
 have nd:(!(w.params.followText "set-order")&&(!t.plain&&decide (es.size>1)))=false:=by rw[e5];simp
 refine eJ nd ?_
 refine Uw (UD ?_)
 unfold setEpoch
 refine Uw (Uw (VY e1 e3 e4 (UD ?_)))
 refine Uw (VI (UD ⟨_,rfl,"set_iterator",_,⟨_,UN _ rfl,rfl⟩,Jl.lookup,?_⟩))
 simpa [rawInt,Ii,eC] using q
theorem tv {Q:Option (Uz×Nat)→UQ→Prop}(x:jO w s.heap a es ep t)(hi:i<es.size){e:Int×Uz}(he:(qH w a ep es)[i]? = some e)(q:Q (some (e.2,eC w t (i+1))) s) :
  U4 (Vf prog w) A (setNext a (eC w t i) i ep) Q E s:=by
 obtain⟨o,e1,e2,e3,e4,e5,e6,e7,e8⟩:=x
 unfold setNext
 refine Uw (VY e1 e3 e4 ?_)
 dsimp only
 unfold setsByText
 refine Uw (Uw (WA (UD ?_)))
 unfold qH at he
 by_cases b:vS w=true
 ·rw[if_pos b] at he
  rw[if_pos (show (Vf prog w).w.params.followText "set-order"=true from b),if_neg (by simp)]
  unfold setWalk setsByText
  refine Uw (Uw (VY e1 e3 e4 ?_))
  dsimp only
  refine Uw (Uw (WA (UD ?_)))
  rw[if_pos (show (Vf prog w).w.params.followText "set-order"=true from b)]
  refine Uw (WA (UD (UD ?_)))
  have Sb:(Zz ((Vf prog w).w.params.setOrder a ep) es)[i]? = some e:=he
  rw[Sb]
  have z:eC w t i=0:=by
   cases i with
   |zero=>rfl
   |succ i=>show (if vS w=true then 0 else _)=0;rw[if_pos b]
  have z':eC w t (i+1)=0:=by show (if vS w=true then 0 else _)=0;rw[if_pos b]
  rw[z'] at q
  rw[z]
  exact q
 ·rw[if_neg b] at he
  rw[if_neg (show ¬(Vf prog w).w.params.followText "set-order"=true from b)]
  have led:t.led=true:=e6.resolve_left b
  have nd:(!t.plain&&decide (es.size>1))=false:=by rw[e5];rfl
  refine eJ nd ?_
  refine Uw (YS (a:=()) (by show (if (!t.led && !es.isEmpty)=true then _ else _)=_;rw[led];rfl) (UD ?_))
  have hb:below t.place (eC w t i)=i:=by
   obtain⟨b1,b2,b3⟩:=kQ (j:=eC w t i) e7
   rcases Yp (below t.place (eC w t i)) i with z|z|z
   ·exfalso
    cases i with
    |zero=>lia
    |succ i =>
     have hs:eC w t (i+1)=t.place.getD i 0+1:=by show (if vS w=true then 0 else _)=_;rw[if_neg b]
     have g:t.place.getD i 0=t.place[i]'(by lia):=by simp[Yo,show i<t.place.size from by lia]
     have:=b2 i (by lia) (by lia)
     rw[hs,g] at this
     lia
   ·exact z
   ·exfalso
    have:=b1 i (by lia) z
    cases i with
    |zero=>exact absurd this (Nat.not_lt_zero _)
    |succ i =>
     have hs:eC w t (i+1)=t.place.getD i 0+1:=by show (if vS w=true then 0 else _)=_;rw[if_neg b]
     have g:t.place.getD i 0=t.place[i]'(by lia):=by simp[Yo,show i<t.place.size from by lia]
     have r:=(show t.place[i]'(by lia)<t.place[i+1]'(by lia) from e7 i (i+1) (by lia) (by lia) (by lia))
     rw[hs,g] at this
     lia
  rw[hb,he,getElem?_pos t.place i (by lia)]
  have hs:eC w t (i+1)=t.place.getD i 0+1:=by show (if vS w=true then 0 else _)=_;rw[if_neg b]
  have g:t.place.getD i 0=t.place[i]'(by lia):=by simp[Yo,show i<t.place.size from by lia]
  rw[hs,g] at q
  exact q
theorem Kw {Q:Option Uz→UQ→Prop}(k:wN w s.heap it a es.size ep t i)(x:jO w s.heap a es ep t)(ne:it≠a)(hi:i<es.size){e:Int×Uz}(he:(qH w a ep es)[i]? = some e)
  (q:∀h',wN w h' it a es.size ep t (i+1)→Xs it s.heap h'→Q (some e.2) {s with heap:=h'}):U4 (Vf prog w) A (pyNext (.ref it)) Q E s:=by
 obtain⟨oi,i1,i2,i3⟩:=k
 have ty:s.TypeIs (.ref it) "set_iterator":=⟨oi,i1,i2⟩
 have x0:=x
 obtain⟨o,e1,e2,e3,e4,e5,e6,e7,e8⟩:=x
 unfold pyNext
 refine Uw (Yc (VQ (name:=UO "__next__") ty Jl (V2 Jl ty Qm ?_ (Qn _))))
 unfold Builtin.«set_iterator.__next__»
 refine Uw (UD ?_)
 refine Uw (wpAny_fieldsOf i1 i3 ?_)
 change U4 _ _ (setEntries a >>= _) _ _ s
 refine Uw (YV e1 e3 e4 ?_)
 rw[if_neg (by simp)]
 change U4 _ _ (setNext a (eC w t i:Int).toNat (i:Int).toNat (ep:Int).toNat >>= _) _ _ s
 rw[VX,VX,VX]
 refine Uw (tv x0 hi he ?_)
 dsimp only
 change U4 _ _ (setField (.ref it) 0 _ >>= _) _ _ s
 refine Uw (Yx i1 i3 (by simp[Ii]) ?_)
 have QO:=WX (Obj.mapFields (·.setIfInBounds 0 (rawInt (eC w t (i+1):Nat)))) i1 (YC (W3 i3 _))
 have NW:=W3 i3 (·.setIfInBounds 0 (rawInt (eC w t (i+1):Nat)))
 change U4 _ _ (setField (.ref it) 1 _ >>= _) _ _ _
 refine Uw (Yx QO NW (by simp[Ii]) ?_)
 refine UD ⟨_,rfl,UD (q _ ⟨_,WX _ QO (YC (W3 NW _)),(Zu ..).trans ((Zu ..).trans i2),?_⟩ ((Wv ..).trans (Wv ..)))⟩
 rw[W3 NW]
 simp[Ii,rawInt]
end
end Hc.Sy
namespace Hc.Sy
open PySem.SetTable Hc.Sx PySem.W
section
variable {A:VE}
theorem yu {α:Type}(next:Nat→Nat):∀(n k:Nat) (left:List α) (out:Array α),left.length=n→(pickOrder.go next n k left out).toList.Perm (out.toList++left)
 |0,k,left,out,h=>by
  have:left=[]:=VJ h
  subst this
  unfold pickOrder.go;rw[Vw]
 |n+1,k,left,out,h=>by
  have hl:next k % left.length<left.length:=XD _ (by lia)
  unfold pickOrder.go
  rw[Uv hl]
  dsimp only
  refine (yu next n (k+1) _ _ (by rw[List.length_eraseIdx_of_lt hl];lia)).trans ?_
  rw[Xh,UZ]
  refine VN _ ?_
  rw[List.eraseIdx_eq_take_drop_succ,List.singleton_append]
  refine List.perm_middle.symm.trans ?_
  rw[←V9 hl,Vr]
theorem rM {α:Type}(next:Nat→Nat)(xs:Array α):(Zz next xs).toList.Perm xs.toList:=by
 have:=yu next xs.size 0 xs.toList #[] (by simp)
 simpa [Zz] using this
theorem vb:(qH w a ep es).toList.Perm es.toList:=by
 unfold qH
 split
 ·exact rM _ _
 ·exact Wa _
theorem vc:(qH w a ep es).size=es.size:=by
 have:=(vb (w:=w) (a:=a) (ep:=ep) (es:=es)).length_eq
 simpa using this
theorem tw {Q:Option (Uz×Nat)→UQ→Prop}(x:jO w s.heap a es ep t)(q:Q none s):U4 (Vf prog w) A (setNext a (eC w t es.size) es.size ep) Q E s:=by
 obtain⟨o,e1,e2,e3,e4,e5,e6,e7,e8⟩:=x
 unfold setNext
 refine Uw (VY e1 e3 e4 ?_)
 dsimp only
 unfold setsByText
 refine Uw (Uw (WA (UD ?_)))
 by_cases b:vS w=true
 ·rw[if_pos (show (Vf prog w).w.params.followText "set-order"=true from b),if_neg (by simp)]
  unfold setWalk setsByText
  refine Uw (Uw (VY e1 e3 e4 ?_))
  dsimp only
  refine Uw (Uw (WA (UD ?_)))
  rw[if_pos (show (Vf prog w).w.params.followText "set-order"=true from b)]
  refine Uw (WA (UD (UD ?_)))
  have hz:(Zz ((Vf prog w).w.params.setOrder a ep) es)[es.size]? = none:=by
   have:=(rM ((Vf prog w).w.params.setOrder a ep) es).length_eq
   rw[Array.getElem?_eq_none (by simpa using Nat.le_of_eq this)]
  rw[hz];exact q
 ·rw[if_neg (show ¬(Vf prog w).w.params.followText "set-order"=true from b)]
  have led:t.led=true:=e6.resolve_left b
  have nd:(!t.plain&&decide (es.size>1))=false:=by rw[e5];rfl
  refine eJ nd ?_
  refine Uw (YS (a:=()) (by show (if (!t.led && !es.isEmpty)=true then _ else _)=_;rw[led];rfl) (UD ?_))
  have hb:es.size≤below t.place (eC w t es.size):=by
   obtain⟨b1,b2,b3⟩:=kQ (j:=eC w t es.size) e7
   rcases W0 (below t.place (eC w t es.size)) es.size with z|z
   ·exfalso
    obtain⟨m,hm⟩:∃m,es.size=m+1:=⟨es.size - 1,by lia⟩
    have hs:eC w t es.size=t.place.getD m 0+1:=by rw[hm];show (if vS w=true then 0 else _)=_;rw[if_neg b]
    have g:t.place.getD m 0=t.place[m]'(by lia):=by simp[Yo,show m<t.place.size from by lia]
    have:=b2 m (by lia) (by lia)
    rw[hs,g] at this
    lia
   ·exact z
  rw[Array.getElem?_eq_none hb];exact q
theorem Kx {Q:Option Uz→UQ→Prop}(hh:A.handled=none)(k:wN w s.heap it a es.size ep t es.size)(x:jO w s.heap a es ep t)
  (q:∀h',Heap.ExtBut it s.heap h'→Q none {s with heap:=h'}):U4 (Vf prog w) A (pyNext (.ref it)) Q E s:=by
 obtain⟨oi,i1,i2,i3⟩:=k
 have ty:s.TypeIs (.ref it) "set_iterator":=⟨oi,i1,i2⟩
 have x0:=x
 obtain⟨o,e1,e2,e3,e4,e5,e6,e7,e8⟩:=x
 unfold pyNext
 refine Uw (Yc (VQ (name:=UO "__next__") ty Jl (V2 Jl ty Qm ?_ (Qn _))))
 unfold Builtin.«set_iterator.__next__»
 refine Uw (UD ?_)
 refine Uw (wpAny_fieldsOf i1 i3 ?_)
 change U4 _ _ (setEntries a >>= _) _ _ s
 refine Uw (YV e1 e3 e4 ?_)
 rw[if_neg (by simp)]
 change U4 _ _ (setNext a (eC w t es.size:Int).toNat (es.size:Int).toNat (ep:Int).toNat >>= _) _ _ s
 rw[VX,VX,VX]
 refine Uw (tw x0 ?_)
 dsimp only
 change U4 _ _ (setField (.ref it) 2 .none >>= _) _ _ s
 refine Uw (Yx i1 i3 (by simp[Ii]) ?_)
 change U4 _ _ (newExc (.type "StopIteration") [] >>= _) _ _ _
 refine Uw ?_
 simp only[newExc,newTuple]
 refine Uw (VI (hd:=by size_fits) ?_)
 refine Uw (m:=Zc _ _) (YS (a:=Value.none) (by first|rfl|(simp only[Zc];rfl)) (VI (hd:=by size_fits) ?_))
 simp only[raiseNew]
 refine Uw (wpAny_handled ?_)
 rw[show A.in1.handled=none from hh]
 refine Uw (UD (wpAny_throw ?_))
 refine Uw (wpAny_isInstance (b:=true) (T:="StopIteration") ⟨_,UN _ rfl,rfl⟩ isSubtype_stop ?_)
 exact UD (q _ (((Wv ..).extBut.push _).push _))
theorem Ij (hh:A.handled=none)(Jp:a≠it):Walks prog w A it [it,a] [it] es.size (fun i v=>∃e,(qH w a ep es)[i]? = some e∧v=e.2) (fun i h=>wN w h it a es.size ep t i∧jO w h a es ep t) where
 sub:=fun b hb=>by simp at hb;simp[hb]
 frame:=fun _ _ _ st hk=>⟨st.1.at fun o e=>hk it (by simp) o e,st.2.at fun o e=>hk a (by simp) o e⟩
 item:=fun i s Q E hi st hQ=>by
  have zO:i<(qH w a ep es).size:=by rw[vc];exact hi
  exact Kw st.1 st.2 (Ne.symm Jp) hi (getElem?_pos _ i zO) fun h' t' sb=>hQ _ h' s.toks ⟨_,getElem?_pos _ i zO,rfl⟩ ⟨t',st.2.at fun o e=>sb.extBut _ _ Jp e⟩ fun b o hb e=>sb.extBut b o (fun h=>hb (by simp[h])) e
 done:=fun s Q E st hQ=>Kx hh st.1 st.2 fun h' eb=>hQ h' s.toks fun b o hb e=>eb b o (fun h=>hb (by simp[h])) e
 self:=fun i s Q E st hQ=>by
  obtain⟨oi,i1,i2,i3⟩:=st.1
  have ty:s.TypeIs (.ref it) "set_iterator":=⟨oi,i1,i2⟩
  refine wpAny_pyIter_slot ty Qo (V2 Qo ty Ro ?_ (Rq _))
  change U4 _ _ (ret (.ref it)) _ _ s
  exact UD ⟨_,rfl,"set_iterator",_,ty,Jl.lookup,hQ⟩
theorem Ky {Q:Bool→UQ→Prop}(hT:s.TypeIs (.ref a) "set")(h:Q false s):U4 (Vf prog w) A (YW (.ref a)) Q E s:=by
 unfold YW
 refine Uw (wpAny_specialOf hT PySem.F.slot_set_len.lookup ?_)
 generalize hid:("set.__len__":String)=id0
 wp_delta
 rw[show splitId id0=some ("set","__len__") from by subst hid;decide +kernel]
 subst hid
 refine Uw (wpAny_isInstance (T:="set") (b:=true) hT (by rw[isSubtype_type];kernel_rfl) ?_)
 refine wpAny_ite_split (fun vN=>absurd vN (by decide)) (fun _ => ?_)
 refine wpAny_ite_split (fun _ => ?_) (fun vN=>absurd (by decide +kernel) vN)
 refine Uw (YB hT ?_)
 exact UD h
theorem Nj:KdlSrc prog w "set" a a es.size (fun i v=>∃e,(qH w a ep es)[i]? = some e∧v=e.2) (fun h=>jO w h a es ep t) where
 type:=fun _ hm=>hm.ty
 there:=fun _ hm=>⟨hm.lt,hm.lt⟩
 keep:=fun _ _ hm hk=>hm.at fun o e=>hk a (.inl rfl) o e
 notList:=by decide
 notTuple:=by decide
 hint:=fun _ _ _ _ hm hq=>Ky hm.ty hq
 iter:=fun _ s hh hm=>⟨_,_,(fun _ _ hq=>Kv hm hq),Ij hh (Ve hm.lt),⟨⟨_,UN _ rfl,rfl,rfl⟩,hm.at fun o e=>Uy _ e⟩⟩
end
end Hc.Sy
namespace Hc.Sy
open PySem.SetTable Hc.Sx PySem.W
noncomputable abbrev tI (prog:XI)(w:Xx):Yv prog w (List Int):=tupleKind (intKind prog w)
section
variable {A:VE}
theorem qe {α β:Type}(f:α→β→Sem (ForInStep β))(b:β)(xs:Array α)(h:∀x∈xs.toList,f x b=pure (.yield b)):forIn xs b f=pure b:=by
 rw[←Array.forIn_toList]
 generalize xs.toList=l at h
 induction l with
 |nil=>rfl
 |cons x l ih =>
  rw[X8,h x UL,pure_bind]
  exact ih fun y hy=>h y (UM _ hy)
theorem Gi {ar:Array Uz}{o:Obj}{Q:Option (Array Uz)→UQ→Prop}(e1:s.heap.get? a=some o)(e3:o.data=.seq ar n)(q:Q (some ar) s):U4 (Vf prog w) A (seqItems? (.ref a)) Q E s:=by
 unfold seqItems?
 refine Uw (wpAny_load e1 ?_)
 rw[e3]
 exact UD q
theorem qf {ks:List Int}{vs:List Uz}(h:ItemsAre (intKind prog w) ks vs):∀v∈vs,∃n t,v=.int n t:=by
 induction h with
 |nil=>intro v hv;cases hv
 | @cons k v' ks vs h1 _ ih =>
  intro v hv
  rcases UU.mp hv with rfl|hv
  ·obtain⟨t,rfl⟩:=Value.isInt_shape h1
   exact⟨k,t,rfl⟩
  ·exact ih v hv
theorem Ru:mV (tI prog w) where
 cls:=fun {A E s k a Q} hk q=>by
  obtain⟨o,ar,n,e1,e2,e3,e4⟩:=hk
  have ty:s.TypeIs (.ref a) "tuple":=⟨o,e1,e2⟩
  unfold ofAClassStatement
  refine Uw (YB ty ?_)
  change U4 _ _ (pure true >>= _) _ _ s
  refine Uw (UD ?_)
  change U4 _ _ (seqItems? (.ref a) >>= _) _ _ s
  refine Uw (Gi e1 e3 ?_)
  dsimp only
  rw[qe]
  ·exact Uw (UD (UD q))
  ·intro x hx
   obtain⟨n,t,rfl⟩:=qf e4 x hx
   rfl
 byv:=fun {A E s k a Q} hk q=>by
  obtain⟨o,ar,n,e1,e2,e3,e4⟩:=hk
  have ty:s.TypeIs (.ref a) "tuple":=⟨o,e1,e2⟩
  unfold hashByValue
  refine Uw (wpAny_specialOf ty PySem.F.slot_tuple_hash.lookup ?_)
  change U4 _ _ (seqItems? (.ref a) >>= _) _ _ s
  refine Uw (Gi e1 e3 ?_)
  dsimp only[Option.getD]
  rw[qe]
  ·exact Uw (UD (UD q))
  ·intro x hx
   obtain⟨n,t,rfl⟩:=qf e4 x hx
   rfl
 kept:=fun {h h' k a d o es ep t} hk ho hd hs=>by
  obtain⟨o1,ar,n,e1,e2,e3,e4⟩:=hk
  have ne:a≠d:=fun z=>by
   subst z
   rw[e1] at ho;cases ho
   rw[e3] at hd;cases hd
  exact⟨o1,ar,n,hs.extBut _ _ ne e1,e2,e3,e4⟩
end
end Hc.Sy
namespace L2
open Hc.Dw Hc.Ts
noncomputable def Kz:V→Int
 | .int i=>i
 |_=>0
noncomputable def dH (H:Hp)(b:UY):List Int:=match H b with
 |some (.tup xs)=>xs.map Kz
 |_=>[]
theorem vd (ns:List Int):(ns.map V.int).map Kz=ns:=by
 induction ns with
 |nil=>rfl
 |cons n r ih=>rw[UT,UT,ih];rfl
theorem mG:∀{bs:List UY} {ar:List Uz},aU (bs.map V.ref) ar→ar=bs.map Value.ref
 | [],_,.nil=>rfl
 |b::bs,_,.cons r t=>by rw[UT,mG t];cases r;rfl
theorem rN:∀(bs:List UY),aU (bs.map V.ref) (bs.map Value.ref)
 | []=>.nil
 |b::bs=>.cons rfl (rN bs)
theorem rO {bs:List UY}{out:List Uz}(h:out.Perm (bs.map Value.ref)):∃i_:List UY,out=i_.map Value.ref∧i_.Perm bs:=by
 let g:Uz→UY:=fun v=>match v with
  | .ref a=>a
  |_=>0
 refine⟨out.map g,?_,?_⟩
 ·rw[VL]
  conv=>lhs;rw[←List.map_id out]
  apply WO
  intro v hv
  obtain⟨b,_,rfl⟩:=Vg.mp (h.mem_iff.mp hv)
  rfl
 ·have:=h.map g
  rw[VL] at this
  have e:bs.map (g∘Value.ref)=bs:=by
   conv=>rhs;rw[←List.map_id bs]
   apply WO
   intro b _;rfl
  rw[e] at this;exact this
theorem ED (I:aF X pins σ H s)(h:H b=some (.tup (ns.map V.int)))(n:ns≠[]):u7 s.heap (.ref b)∧tq s.heap (.ref b)=dH H b:=by
 obtain⟨_,ar,rv,it,_⟩:=I.hok b _ h
 have ia:=gw rv
 refine⟨⟨b,ar.toArray,ns,rfl,it,by simpa using ia,n⟩,?_⟩
 rw[ll it (by simpa using ia)]
 unfold dH;rw[h]
 exact (vd ns).symm
theorem rP {v:Uz}(t:u7 h v)(k:∀b ar,h.IsTuple b ar→h'.IsTuple b ar):u7 h' v∧tq h' v=tq h v:=by
 obtain⟨a,ar,ns,rfl,q,i,n⟩:=t
 refine⟨⟨a,ar,ns,rfl,k a ar q,i,n⟩,?_⟩
 rw[ll q i,ll (k a ar q) i]
theorem yv {h:Xi}:∀{vs:List Uz},(∀v∈vs,u7 h v)→∃fs,PySem.W.KatTups h vs fs∧fs.length=vs.length∧∀f∈fs,∃n t,f=.int n t
 | [],_=>⟨[],.nil,rfl,fun f hf=>by cases hf⟩
 |v::vs,hv=>by
  obtain⟨fs,k1,k2,k3⟩:=yv (vs:=vs) fun u hu=>hv u (UM _ hu)
  obtain⟨a,ar,ns,rfl,⟨o,e,c,n,d⟩,i,ne⟩:=hv v UL
  have:∃m t r,ar.toList=.int m t::r:=by
   generalize ar.toList=l at i
   cases i with
   |nil=>exact absurd rfl ne
   |cons m t r=>exact⟨m,t,_,rfl⟩
  obtain⟨m,t,r,el⟩:=this
  refine⟨.int m t::fs,.cons e c d (by rw[←U_,el];rfl) k1,by rw[UI,UI,k2],fun f hf => ?_⟩
  rcases UU.mp hf with rfl|hf
  ·exact⟨m,t,rfl⟩
  ·exact k3 f hf
noncomputable def KA:Uz→UY
 | .ref a=>a
 |_=>0
theorem qg {p:UY}{bs:List UY}{Q:VK}(kf:UY→List Int)(knd:XS)(I:aF X pins σ H s)(hz:bs.length≤1000000)(hu:X.A.units+64<Xu)
  (kk:∀(A:VE) (E:Uz→UQ→Prop) (jJ:List UY) (s6:UQ) (Q6:XS→UQ→Prop),jJ.Perm bs→2≤jJ.length→(∀b o,s.heap.get? b=some o→s6.heap.get? b=some o)→Q6 knd s6→U4 (Vf X.prog X.w) A (keyKind' (jJ.map Value.ref).toArray) Q6 E s6)
  (kc:∀(A:VE) (E:Uz→UQ→Prop) (s6:UQ),A.units<Xu→(∀b o,s.heap.get? b=some o→s6.heap.get? b=some o)→jV (Vf X.prog X.w) A E s6 wM (fun x=>kf (KA x.1)) knd (fun x=>∃b∈bs,x.1=.ref b))
  (NY:∀(Q:List Uz→UQ→Prop) (E:Uz→UQ→Prop),(∀h1 tk (jJ:List UY),jJ.Perm bs→(∀b o,s.heap.get? b=some o→h1.get? b=some o)→Q (jJ.map Value.ref) {s with heap:=h1,toks:=tk})→U4 (Vf X.prog X.w) X.A.in1 (collect (.ref p)) Q E s)
  (q:∀(l:UY) (i_:List UY),H l=none→i_.Perm bs→i_.Pairwise (fun x y=>fz (kf y) (kf x)=false)→Q (.ref l) (eB H l (.lst (i_.map V.ref)))) :
  U4 (Vf X.prog X.w) X.A (call (.builtin "sorted") [.ref p]) (EP X pins σ Q) X.xe s:=by
 refine Calls.call_function_entry kind_sorted plain_sorted entry_sorted (args_sorted1 _) ?_
 unfold Builtin.«sorted»
 refine Uw (m:=checkCount "sorted" 1 1 _) (UD ?_)
 refine Uw (NY _ _ fun h1 tk jJ De k1 => ?_)
 have hz:jJ.length≤1000000:=by rw[De.length_eq];exact hz
 have Jd:jJ.length≤UA:=by rw[W7];lia
 have I1:aF X pins σ H {s with heap:=h1,toks:=tk}:=I.kept (t':=tk) k1
 refine Uw (wpAny_newList ?_ (by rw[Ux];exact Jd))
 have Ll:(h1.push {cls:=.type "list",data:=.seq (jJ.map Value.ref).toArray}).get? h1.objs.size=some (seqObj "list" (jJ.map Value.ref).toArray 0):=UN _ rfl
 have kt:∀(h6:Xi),(∀b o,b≠h1.objs.size→(h1.push {cls:=.type "list",data:=.seq (jJ.map Value.ref).toArray}).get? b=some o→h6.get? b=some o)→∀b o,s.heap.get? b=some o→h6.get? b=some o:=fun h6 k6 b o e =>
  k6 b o (Ve (UR (k1 b o e))) (Uy _ (k1 b o e))
 refine Uw (Wl (V2 slot_list_sort ⟨_,Ll,rfl⟩ entry_list_sort (B9 (s:={s with heap:=h1.push {cls:=.type "list",data:=.seq (jJ.map Value.ref).toArray},toks:=tk}) (O:=wM) (key:=fun x=>kf (KA x.1)) (knd:=knd) (D:=fun x=>∃b∈bs,x.1=.ref b) Ll (by rw[Ux];exact hz)
  (fun h2 h6 Q6 k6 q6=>kk _ _ jJ _ _ De (by rw[Ux] at h2;exact h2) (kt h6 k6) q6) (fun h2 h6 k6=>kc _ _ _ (by show X.A.units+1+1<Xu;lia) (kt h6 k6)) (fun v hv=>by
   obtain⟨b,hb,rfl⟩:=Vg.mp hv
   exact⟨b,De.mem_iff.mp hb,rfl⟩) fun out hp hw=>⟨_,rfl,?_⟩) (args_list_sort _)))
 obtain⟨i_,e,C6⟩:=rO hp
 subst e
 obtain⟨ee,he⟩:=sortedHeap_at (out:=(i_.map Value.ref).toArray) Ll
 have keep:∀b o,h1.get? b=some o→(sortedHeap (h1.push {cls:=.type "list",data:=.seq (jJ.map Value.ref).toArray}) h1.objs.size (jJ.map Value.ref) (i_.map Value.ref).toArray).get? b=some o:=fun b o e=>by
  have hb:=UR e
  rw[sortedHeap_old (Ve hb) (by rw[WE];exact Ym hb)]
  exact Uy _ e
 have IW:(i_.map V.ref).length≤UA:=by rw[Ux,C6.length_eq];exact Jd
 refine UD ⟨_,rfl,.ref h1.objs.size,_,I1.laid (t':=tk) keep (UK _) (show cU X.prog X.w _ _ _ (.lst _) from ⟨IW,i_.map Value.ref,ee,rN i_,by simpa using he⟩),rfl,q _ i_ (I1.hok.fresh (UK _)) (C6.trans De) ?_⟩
 exact WJ.mp hw
theorem vf {p:UY}{bs:List UY}{Q:VK}(I:aF X pins σ H s)(hz:bs.length≤1000000)(hu:X.A.units+64<Xu)(tu:∀b∈bs,∃ns:List Int,H b=some (.tup (ns.map V.int))∧ns≠[])
  (NY:∀(Q:List Uz→UQ→Prop) (E:Uz→UQ→Prop),(∀h1 tk (jJ:List UY),jJ.Perm bs→(∀b o,s.heap.get? b=some o→h1.get? b=some o)→Q (jJ.map Value.ref) {s with heap:=h1,toks:=tk})→U4 (Vf X.prog X.w) X.A.in1 (collect (.ref p)) Q E s)
  (q:∀(l:UY) (i_:List UY),H l=none→i_.Perm bs→i_.Pairwise (fun x y=>fz (dH H y) (dH H x)=false)→Q (.ref l) (eB H l (.lst (i_.map V.ref)))) :
  U4 (Vf X.prog X.w) X.A (call (.builtin "sorted") [.ref p]) (EP X pins σ Q) X.xe s:=by
 have tI:∀b∈bs,u7 s.heap (.ref b)∧tq s.heap (.ref b)=dH H b:=fun b hb=>by
  obtain⟨ns,e,ne⟩:=tu b hb
  exact ED I e ne
 have kt:∀(h6:Xi),(∀b o,s.heap.get? b=some o→h6.get? b=some o)→∀b ar,s.heap.IsTuple b ar→h6.IsTuple b ar:=fun h6 k6 b ar ⟨o,e,z⟩=>⟨o,k6 b o e,z⟩
 refine qg (dH H) (tuples' true) I hz hu (fun A E jJ s6 Q6 De h2 k6 q6 => ?_) (fun A E s6 hA k6 => ?_) NY q
 ·obtain⟨fs,f1,f2,f3⟩:=yv (h:=s6.heap) (vs:=jJ.map Value.ref) fun v hv=>by
   obtain⟨b,hb,rfl⟩:=Vg.mp hv
   exact (rP (tI b (De.mem_iff.mp hb)).1 (kt _ k6)).1
  exact PySem.W.kat_kind (T:=.type "int") f1 (by rw[f2,Ux];lia) (fun v hv=>by
   obtain⟨n,t,rfl⟩:=f3 v hv
   exact PySem.W.Looks.of_pure rfl) (by decide) q6
 ·have c:=EC (prog:=X.prog) (w:=X.w) (A:=A) (E:=E) (s:=s6) (hp:=s.heap) fun v hv=>rP hv (kt _ k6)
  refine⟨fun x y st Q dx dy kd qq => ?_⟩
  obtain⟨b,hb,e1⟩:=dx
  obtain⟨d,hd,e2⟩:=dy
  refine c.lt x y st Q (by rw[e1];exact (tI b hb).1) (by rw[e2];exact (tI d hd).1) kd ?_
  rw[e1,e2,(tI b hb).2,(tI d hd).2]
  rw[e1,e2] at qq
  exact qq
end L2
namespace L2
open Hc.Dw Hc.Ts
noncomputable def aB (ns:List Int):U:=.tup (ns.map .int)
noncomputable def B_:U→Option (List Int)
 | .tup xs=>match iF xs with
  |some (n::ns)=>some (n::ns)
  |_=>none
 |_=>none
noncomputable def rQ:List U→Option (List (List Int))
 | []=>some []
 |u::us=>match B_ u,rQ us with
  |some ns,some vT=>some (ns::vT)
  |_,_=>none
noncomputable def zD (x:List Int):List (List Int)→List (List Int)
 | []=>[x]
 |y::r=>if fz y x=true then y::zD x r else x::y::r
noncomputable def nD (l:List (List Int)):List (List Int):=l.foldr zD []
theorem mH (x:List Int):∀l,(zD x l).Perm (x::l)
 | []=>.refl _
 |y::r=>by
  unfold zD
  split
  ·exact ((mH x r).cons y).trans (.swap x y r)
  ·exact .refl _
theorem dQ:∀l,(nD l).Perm l
 | []=>.refl _
 |x::l=>(mH x _).trans ((dQ l).cons x)
noncomputable def KC (l:List (List Int)):Prop:=l.Pairwise fun x y=>fz y x=false
theorem yw (x:List Int):∀{l},KC l→KC (zD x l)
 | [],_=>List.pairwise_singleton _ _
 |y::r,h=>by
  obtain⟨h1,h2⟩:=Xr.mp h
  unfold zD
  split
  ·rename_i c
   refine Xr.mpr ⟨fun z hz => ?_,yw x h2⟩
   rcases UU.mp ((mH x r).mem_iff.mp hz) with rfl|hz
   ·exact KeyOrd.klt_asymm (O:=wM) c
   ·exact h1 z hz
  ·rename_i c
   have c:fz y x=false:=by simpa using c
   refine Xr.mpr ⟨fun z hz => ?_,h⟩
   rcases UU.mp hz with rfl|hz
   ·exact c
   ·exact Vm (O:=wM) (a:=x) (b:=y) (c:=z) c (h1 z hz)
theorem qh:∀l,KC (nD l)
 | []=>List.Pairwise.nil
 |x::l=>yw x (qh l)
theorem tx:∀{l m:List (List Int)},l.Perm m→KC l→KC m→l=m
 | [],m,p,_,_=>(List.nil_perm.mp p).symm
 |x::l,[],p,_,_=>absurd p.length_eq (by simp)
 |x::l,y::m,p,h1,h2=>by
  obtain⟨a1,a2⟩:=Xr.mp h1
  obtain⟨b1,b2⟩:=Xr.mp h2
  have e:x=y:=by
   have hx:x∈y::m:=p.mem_iff.mp UL
   have hy:y∈x::l:=p.mem_iff.mpr UL
   rcases UU.mp hx with rfl|hx
   ·rfl
   ·rcases UU.mp hy with rfl|hy
    ·rfl
    ·exact j_ x y (b1 x hx) (a1 y hy)
  subst e
  rw[tx (p.cons_inv) a2 b2]
theorem EE (h:B_ u=some ns):u=aB ns∧ns≠[]:=by
 unfold B_ at h
 split at h
 ·split at h
  ·rename_i xs n r e
   cases h
   rw[kO e];exact⟨rfl,by simp⟩
  ·cases h
 ·cases h
theorem vg:∀{us:List U} {vT:List (List Int)},rQ us=some vT→us=vT.map aB∧∀ns∈vT,ns≠[]
 | [],_,h=>by cases h;exact⟨rfl,fun ns hn=>by cases hn⟩
 |u::us,vT,h=>by
  unfold rQ at h
  split at h
  ·rename_i ns r e1 e2
   cases h
   obtain⟨e3,n3⟩:=EE e1
   obtain⟨e4,n4⟩:=vg e2
   refine⟨by rw[UT,←e3,←e4],fun z hz => ?_⟩
   rcases UU.mp hz with rfl|hz
   ·exact n3
   ·exact n4 z hz
  ·cases h
theorem Ca (h:Rp K H A (aB ns) v):∃b,v=.ref b∧H b=some (.tup (ns.map V.int))∧ns.length≤UA:=by
 unfold aB Rp at h
 obtain⟨b,ys,e,q,l,r⟩:=h
 rw[r.toI] at q
 exact⟨b,e,q,by simpa using l⟩
theorem Ik (q:H b=some (.tup (ns.map V.int)))(l:ns.length≤UA):Rp K H A (aB ns) (.ref b):=by
 unfold aB Rp
 exact⟨b,_,rfl,q,by simpa using l,pH ns⟩
theorem oB (q:H b=some (.tup (ns.map V.int))):dH H b=ns:=by unfold dH;rw[q];exact vd ns
theorem vh:∀{vT:List (List Int)} {xs:List V},aG K H A (vT.map aB) xs→∃bs:List UY,xs=bs.map V.ref∧bs.map (dH H)=vT∧∀b∈bs,H b=some (.tup ((dH H b).map V.int))∧(dH H b).length≤UA
 | [],xs,h=>by rw[WW] at h;unfold aG at h;subst h;exact⟨[],rfl,rfl,fun b hb=>by cases hb⟩
 |ns::vT,xs,h=>by
  rw[UT] at h
  unfold aG at h
  obtain⟨x,r,rfl,h1,h2⟩:=h
  obtain⟨b,rfl,q,l⟩:=Ca h1
  obtain⟨bs,rfl,e,z⟩:=vh h2
  refine⟨b::bs,rfl,by rw[UT,e,oB q],fun c hc => ?_⟩
  rcases UU.mp hc with rfl|hc
  ·rw[oB q];exact⟨q,l⟩
  ·exact z c hc
theorem Cb {bs:List UY}(h:∀b∈bs,H b=some (.tup ((dH H b).map V.int))∧(dH H b).length≤UA):aG K H A ((bs.map (dH H)).map aB) (bs.map V.ref):=by
 induction bs with
 |nil=>exact aG.nil
 |cons b bs ih=>exact aG.cons (Ik (h b UL).1 (h b UL).2) (ih fun c hc=>h c (UM _ hc))
end L2
namespace L2
open Hc.Dw Hc.Ts Hc.Sx Hc.Sy
noncomputable def qi (bY:List (List Int))(x:List Int):List (List Int):=if x∈bY then bY else bY++[x]
noncomputable def fQ (l:List (List Int)):List (List Int):=l.foldl qi []
noncomputable def zE (w:Xx)(l:UY)(bs:List UY)(h:Xi):Prop:=∃es ep t,jO w h l es ep t∧(es.toList.map (·.2)).Perm (bs.map Value.ref)
theorem Cc {vs:List Uz}(h:W8 vs ns):ItemsAre (intKind prog w) ns vs:=by
 induction h with
 |nil=>exact .nil
 |cons n t _ ih=>exact .cons (intKind_is _ _ _ _) ih
section
variable {G:Gm}{e:WI}{lP p1:Pos}{b1:Bool}{ga:Ev→R (List U×Ev)}
noncomputable def lq (H:Hp)(bs:List UY)(i:Nat):List Int×UY:=(dH H (bs.getD i 0),bs.getD i 0)
theorem rR (H:Hp)(bs:List UY):∀n,n≤bs.length→(eh (lq H bs) n).map (·.1)=fQ ((bs.take n).map (dH H))
 |0,_=>by simp[eh,fQ]
 |n+1,h=>by
  have hn:n<bs.length:=by lia
  have ih:=rR H bs n (by lia)
  have e1:bs.take (n+1)=bs.take n++[bs[n]]:=Wt hn
  have e2:lq H bs n=(dH H bs[n],bs[n]):=by unfold lq;simp[X9,Uv hn]
  rw[e1,Va]
  unfold fQ at ih ⊢
  rw[List.foldl_append,←ih]
  show (jU (eh (lq H bs) n) (lq H bs n).1 (lq H bs n).2).map (·.1)=qi ((eh (lq H bs) n).map (·.1)) (dH H bs[n])
  rw[e2]
  unfold jU qi
  dsimp only
  by_cases c:dH H bs[n]∈(eh (lq H bs) n).map (·.1)
  ·rw[if_pos c,if_pos c]
  ·rw[if_neg c,if_neg c,Va];rfl
theorem vi (H:Hp)(bs:List UY):(eh (lq H bs) bs.length).map (·.1)=fQ (bs.map (dH H)):=by
 rw[rR H bs _ (UK _),WU]
noncomputable def Gj (w:Xx)(K:UB):List V→Hp→VK→Prop:=fun xs H Q=>∃(p:UY) (bs:List UY),xs=[.ref p]∧fq K H p (bs.map V.ref)∧(∀b∈bs,H b=some (.tup ((dH H b).map V.int)))∧(fQ (bs.map (dH H))).length<1023 ∧
 ∀(l:UY) (jJ:List UY),H l=none→jJ.map (dH H)=fQ (bs.map (dH H))→(∀b∈jJ,b∈bs)→Q (.ref l) (eB H l (.ext (zE w l jJ)))
theorem zF (hc:X.calm=true)(hu:X.A.units+64<Xu):eM X (.type "set") (Gj X.w X.K):=by
 intro pins s σ H xs us Q I r h
 obtain⟨p,bs,rfl,hs,tu,hb,q⟩:=h
 obtain⟨u,rfl,rx⟩:=iA r
 cases rx
 obtain⟨ar,rv,pl,_⟩:=I.list hs
 have e2:=mG rv
 subst e2
 have sz:(bs.map Value.ref).toArray.size=bs.length:=by simp
 refine uN (knd:=tI X.prog X.w) (val:=lq H bs) Ru (fun {h h' k a} hk m => ?_) (show X.A.units+1+1+1<Xu by lia) (I.ok.hd hc) pl.isList (fun i v hv => ?_) (fun j hj => ?_) ?_ fun h' tk hS hk => ?_
 ·obtain⟨o,ar,n,e1,e2,e3,e4⟩:=hk
  obtain⟨o',xc,E5,n',e3'⟩:=m a ar ⟨o,e1,e2,n,e3⟩
  exact⟨o',ar,n',xc,E5,e3',e4⟩
 ·rw[←U_] at hv
  rw[U8] at hv
  unfold lq
  cases z:bs[i]? with
  |none=>rw[z] at hv;cases hv
  |some b=>rw[z] at hv;simp only[X9,z,YG];exact (U0 hv).symm
 ·have hj:j<bs.length:=by rw[sz] at hj;exact hj
  have em:bs.getD j 0=bs[j]:=by simp[X9,Uv hj]
  unfold lq
  rw[em]
  obtain⟨_,ar,rv,it,_⟩:=I.hok _ _ (tu _ (VA hj))
  obtain⟨o,h1,h2,n,h3⟩:=it
  exact⟨o,_,n,h1,h2,h3,by simpa using Cc (gw rv)⟩
 ·rw[sz]
  have:=congrArg XU (vi H bs)
  rw[Ux] at this
  lia
 ·rw[sz] at hS
  obtain⟨o,es,ep,t,C,g1,g2,g3,g4,g5⟩:=hS
  have NZ:jO X.w h' s.heap.objs.size es ep t:=⟨o,g1,g2,g3,g4.fits,g4.pl,g5,g4.tab.ris,g4.tab.sz⟩
  have mem:∀x∈eh (lq H bs) bs.length,x.1=dH H x.2∧x.2∈bs:=fun x hx=>by
   obtain⟨j,hj,rfl⟩:=jD _ _ x hx
   refine⟨rfl,?_⟩
   have em:bs.getD j 0=bs[j]:=by simp[X9,Uv hj]
   show bs.getD j 0∈bs
   rw[em];exact VA hj
  refine⟨.ref s.heap.objs.size,_,I.laid (a:=s.heap.objs.size) (o:=.ext (zE X.w s.heap.objs.size ((eh (lq H bs) bs.length).map (·.2)))) (t':=tk) hk (UK _)
   ⟨⟨es,ep,t,NZ,?_⟩,⟨o,g1⟩,fun h1 h2 ⟨es,ep,t,r,z⟩ k=>⟨es,ep,t,r.at k,z⟩⟩,rfl,q _ _ (I.hok.fresh (UK _)) ?_ fun b hb => ?_⟩
  ·refine (g4.per.map (·.2)).trans (List.Perm.of_eq ?_)
   rw[VL,VL];rfl
  ·rw[←vi H bs,VL]
   exact WO fun x hx=>(mem x hx).1.symm
  ·obtain⟨x,hx,rfl⟩:=Vg.mp hb
   exact (mem x hx).2
noncomputable def Cd (w:Xx):List V→Hp→VK→Prop:=fun xs H Q=>∃(p:UY) (bs:List UY),xs=[.ref p]∧H p=some (.ext (zE w p bs))∧bs.length≤1000000∧(∀b∈bs,∃ns:List Int,H b=some (.tup (ns.map V.int))∧ns≠[]) ∧
  ∀(l:UY) (i_:List UY),H l=none→i_.Perm bs→i_.Pairwise (fun x y=>fz (dH H y) (dH H x)=false)→Q (.ref l) (eB H l (.lst (i_.map V.ref)))
theorem wO (hc:X.calm=true)(hu:X.A.units+64<Xu):eM X (.builtin "sorted") (Cd X.w):=by
 intro pins s σ H xs us Q I r h
 obtain⟨p,bs,rfl,hs,hz,tu,q⟩:=h
 obtain⟨u,rfl,rx⟩:=iA r
 cases rx
 obtain⟨⟨es,ep,t,NZ,per⟩,_,_⟩:=I.hok p _ hs
 refine vf I hz hu tu (fun Q E hq => ?_) q
 have n:es.size=bs.length:=by have:=per.length_eq;simpa using this
 refine va (A:=X.A.in1) Nj (I.ok.hd hc) NZ (by rw[n,W7];lia) fun h1 tk bY k1 ia => ?_
 have e:bY.toList=(qH X.w p ep es).toList.map (·.2):=by
  apply Zr
  intro i
  rw[U_,U8,U_]
  by_cases hi:i<bY.size
  ·rw[getElem?_pos bY i hi]
   obtain⟨en,e1,e2⟩:=ia.2 i _ (getElem?_pos bY i hi)
   rw[e1,e2];rfl
  ·rw[getElem?_neg bY i hi,getElem?_neg _ i (by rw[vc,←ia.1];exact hi)];rfl
 obtain⟨jJ,e3,e4⟩:=rO ((vb.map (·.2)).trans per)
 rw[e,e3]
 exact hq h1 tk jJ e4 k1
noncomputable def dR:List U→R U:=fun us=>match us with
 | [.lst xs]=>match rQ xs with
  |some vT=>if (fQ vT).length<1023 then .ok (.lst ((nD (fQ vT)).map aB)) else .stk
  |none=>.stk
 |_=>.stk
theorem lr:∀(l bY:List (List Int)) (x:List Int),x∈l.foldl qi bY→x∈bY∨x∈l
 | [],bY,x,h=>.inl h
 |y::l,bY,x,h=>by
  rcases lr l _ x h with z|z
  ·unfold qi at z
   split at z
   ·exact .inl z
   ·rcases U2.mp z with z|z
    ·exact .inl z
    ·exact .inr (by rw[U6.mp z];exact UL)
  ·exact .inr (UM _ z)
theorem vj:md K (fun vs H Q=>Gj w K vs H fun x H2=>Cd w [x] H2 Q) .O dR:=fun A H vs us z Q h mu e q=>by
 unfold dR at e
 split at e
 ·rename_i xs
  split at e
  ·rename_i vT e1
   split at e
   ·rename_i hl
    cases e
    obtain⟨v,rfl,p⟩:=h.one
    unfold Pk at p
    obtain⟨a,ys,rfl,h1,l1,r1⟩:=p
    obtain⟨e2,ne⟩:=vg e1
    subst e2
    obtain⟨bs,rfl,e4,e5⟩:=vh r1
    refine⟨a,bs,rfl,fq.of h1,fun b hb=>(e5 b hb).1,by rw[e4];exact hl,fun l jJ hn k2 sub => ?_⟩
    have sm:=cZ hn (.ext (zE w l jJ))
    have kb:∀b∈bs,dH (eB H l (.ext (zE w l jJ))) b=dH H b:=fun b hb=>by
     rw[oB (sm _ _ (e5 b hb).1)]
    have ln:jJ.length=(fQ vT).length:=by rw[←e4,←k2,Ux]
    refine⟨l,jJ,rfl,cC,by lia,fun b hb=>⟨_,sm _ _ (e5 b (sub b hb)).1,?_⟩,fun l' i_ Jo hp hw => ?_⟩
    ·have:dH H b∈fQ (bs.map (dH H)):=by rw[←k2];exact WR hb
     rcases lr _ _ _ this with z|z
     ·cases z
     ·rw[e4] at z;exact ne _ z
    ·have Sd:(i_.map (dH H)).Pairwise fun x y=>fz y x=false:=by
      refine WJ.mpr (Xg (fun {x y} hx hy z => ?_) hw)
      rw[kb x (sub x (hp.mem_iff.mp hx)),kb y (sub y (hp.mem_iff.mp hy))] at z
      exact z
     have e7:i_.map (dH H)=nD (fQ vT):=tx ((hp.map (dH H)).trans (by rw[k2,e4];exact (dQ _).symm)) Sd (qh _)
     have Se:=sm.trans (cZ Jo (.lst (i_.map V.ref)))
     have na:H l'=none:=by
      cases z:H l' with
      |none=>rfl
      |some o=>rw[sm _ _ z] at Jo;cases Jo
     refine q _ _ Se ⟨l',rfl,na,?_⟩
     rw[←e7]
     refine cE (fun b hb => ?_) ?_ Jo ?_
     ·have m:=mu b hb
      obtain⟨o,z⟩:=m.ex
      rw[sm b o z,←z];exact m
     ·have k3:i_.map (dH H)=i_.map (dH (eB H l (.ext (zE w l jJ)))):=WO fun b hb=>(kb b (sub b (hp.mem_iff.mp hb))).symm
      rw[k3]
      refine Cb fun b hb => ?_
      have yO:=sub b (hp.mem_iff.mp hb)
      rw[kb b yO]
      exact⟨sm _ _ (e5 b yO).1,(e5 b yO).2⟩
     ·have:UA=16777216:=rfl
      rw[Ux,Ux,hp.length_eq];lia
   ·cases e
  ·cases e
 ·cases e
theorem gE (hc:X.calm=true)(hu:X.A.units+64<Xu)(ha:DA X G [e] b1 true ga)(hm:X.mg "sorted"=none)(Sf:X.mg "set"=none)(hg:Gl X "sorted":=by rfl)(Le:Gl X "set":=by rfl)
  (he:UX [e] X.env=(false,Yg e X.env)::UX [] X.env:=by rfl) (kv:(XF lP (UX [] X.env)).any (·.1)=false:=by rfl)
  (QP:UX [.Call (.Name "set" p2) [e] [] lP] X.env=(false,Yg (.Call (.Name "set" p2) [e] [] lP) X.env)::UX [] X.env:=by rfl) (CT:(XF pos (UX [] X.env)).any (·.1)=false:=by rfl) :
  DE X G (.Call (.Name "sorted" p1) [.Call (.Name "set" p2) [e] [] lP] [] pos) b1 .O (fL dR ga):=⟨(kz (wO hc hu) hg hm q9 (fg (gu (zF hc hu) Le Sf HK ha.un (by decide) (by decide) he kv) j2 QP) (by decide) (by decide) QP CT).to fun _ _ _ h=>sI (p:=true) (vj (K:=X.K)) h⟩
end
end L2
namespace L2
open Hc.Dw Hc.Ts
section
variable {G:Gm}
noncomputable def Gk:R2:=fun x y H Q=>∃(p:UY) (xs:List V) (n:Int),x=.ref p∧y=.int n∧H p=some (.lst xs)∧0≤n∧n≤100000∧xs≠[]∧xs.length*n.toNat≤100000∧∀l,H l=none→Q (.ref l) (eB H l (.lst (VT n.toNat xs).flatten))
theorem EF:jK X (Xq .Mult) Gk:=by
 intro pins s σ H x y v u Q I rx ry h
 obtain⟨p,xs,n,rfl,rfl,hp,h0,h1,Jp,hs,q⟩:=h
 obtain rfl:v=Value.ref p:=rx
 obtain⟨tk,rfl⟩:∃t,u=.int n t:=ry
 obtain⟨_,ar,n0,rv,hl,ho⟩:=I.lstM hp
 have hl:xs.length=ar.length:=rv.length
 have he:ar.toArray.isEmpty=false:=by cases ar with
  |nil=>cases xs with
   |nil=>exact absurd rfl Jp
   |cons=>simp at hl
  |cons=>simp
 have sl:UA=16777216:=rfl
 refine wpAny_binaryOp_repeat_ref (T:="list") (U:="int") (by decide) ⟨_,ho,rfl⟩ (fun s'=>typeIs_int s' n tk) noFill_list_mul PySem.F.fills_int_mul PySem.F.slot_int_rmul repeat_list PySem.F.slot_int_index.lookup
  (Zn PySem.F.slot_int_rmul (typeIs_int s n tk) PySem.F.entry_int_rmul (PySem.F.args_int_rmul_2 _ _) (int___rmul___int_list n tk p ar.toArray n0)
   ⟨ho,rfl,⟨_,ho,rfl⟩,Zn PySem.F.slot_list_mul ⟨_,ho,rfl⟩ PySem.F.entry_list_mul (PySem.F.args_list_mul_2 _ _)
    (AutoListH.list___mul___list_int_3 p ar.toArray n0 n tk ?c0 ?c1 ?c2) ⟨ho,?_⟩⟩)
 case c0=>unfold Builtin.List.listFitsIndex;simp;lia
 case c1=>rw[UC,←hl];lia
 case c2=>rw[UC,←hl,oU (by rw[sl];lia)];exact UG
 rw[he,if_neg UG,listMul_foldl]
 have el:(#[]:Array Uz).toList=[]:=rfl
 simp only[el,Wc]
 have z2:(VT n.toNat xs).flatten.length≤UA:=by rw[xN,sl];lia
 exact⟨.ref s.heap.objs.size,_,I.laid (a:=s.heap.objs.size) (o:=.lst (VT n.toNat xs).flatten) (t':=s.toks) (fun _ _ e=>Uy _ e) (UK _) ⟨z2,_,0,uO rv n.toNat,by
  have:=UN s.heap (o:={cls:=Value.type "list",data:=Data.seq (VT n.toNat ar.toArray.toList).flatten.toArray}) rfl
  simpa using this⟩,rfl,q _ (I.hok.fresh (UK _))⟩
noncomputable def nE:U→U→R U:=fun u w=>match u,w with
 | .lst us,.int n=>if 0≤n∧n≤100000∧us.length*n.toNat≤100000∧us.isEmpty=false then .ok (.lst (VT n.toNat us).flatten) else .stk
 |_,_=>.stk
theorem Ce:gx K Gk .O nE:=fun A H x y u w z Q hx hy mu e q=>by
 unfold nE at e
 split at e
 ·rename_i us n
  split at e
  ·rename_i c
   cases e
   unfold Pk at hx hy
   obtain⟨a,xs,rfl,h1,l1,r1⟩:=hx
   subst hy
   have hl:=r1.length
   refine⟨a,xs,n,rfl,rfl,h1,c.1,c.2.1,fun z => ?_,by rw[←hl];exact c.2.2.1,fun l hn => ?_⟩
   ·have:us=[]:=VJ (by rw[hl,z];rfl)
    have c4:=c.2.2.2
    rw[this] at c4;cases c4
   ·refine q _ _ (cZ hn _) ⟨l,rfl,hn,cE mu (xO r1 _) hn ?_⟩
    rw[xN];have:UA=16777216:=rfl;lia
  ·cases e
 ·cases e
end
section
variable {G:Gm}{e:WI}{tl:TE}{vM cpos p1:Pos}{b1:Bool}{m1:Md}{g1:Ev→R (U×Ev)}
noncomputable def qj (ns:List Int):Bool:=decide (ns.length≤1000000)&&ns.all fun n=>decide (0≤n∧n≤1000000000)
theorem jk (ns:List Int):∀j,j≤ns.length→preSum (fun i=>ns.getD i 0) j=(ns.take j).sum
 |0,_=>rfl
 |j+1,h=>by
  unfold preSum
  rw[jk ns j (by lia),Wt (show j<ns.length by lia),List.sum_append]
  simp[X9,Uv (show j<ns.length by lia)]
theorem rS:∀{ns:List Int},(ns.all fun n=>decide (0≤n∧n≤1000000000))=true→0≤ns.sum∧ns.sum≤ns.length*1000000000
 | [],_=>by simp
 |n::ns,h=>by
  rw[List.all_cons,Vu] at h
  obtain⟨a,b⟩:=rS h.2
  have:=of_decide_eq_true h.1
  rw[List.sum_cons,UI]
  constructor
  ·lia
  ·push_cast;lia
end
end L2
namespace L2
open Hc.Dw Hc.Ts
noncomputable def qk:Uz→Int×Tok
 | .int n t=>(n,t)
 |_=>(0,0)
theorem rT (h:W8 ar ns):intItems (ar.map qk).toArray=ar.toArray∧∀i,numAt (ar.map qk).toArray i=ns.getD i 0:=by
 constructor
 ·unfold intItems
  rw[List.map_toArray,VL]
  congr 1
  induction h with
  |nil=>rfl
  |cons n t _ ih=>rw[UT,ih];rfl
 ·induction h with
  |nil=>intro i;unfold numAt;simp
  |cons n t _ ih =>
   intro i
   cases i with
   |zero=>unfold numAt;simp[qk]
   |succ i =>
    have:=ih i
    unfold numAt at this ⊢
    simpa [X9] using this
section
variable {G:Gm}
noncomputable def Gn (K:UB):List V→Hp→VK→Prop:=fun xs H Q=>∃p ns,xs=[.ref p]∧fq K H p (ns.map V.int)∧qj ns=true∧Q (.int ns.sum) H
theorem zG (hc:X.calm=true):eM X (.builtin "sum") (Gn X.K):=by
 intro pins s σ H xs us Q I r h
 obtain⟨p,ns,rfl,hs,sm,q⟩:=h
 obtain⟨u,rfl,rx⟩:=iA r
 cases rx
 obtain⟨ar,rv,pl,_⟩:=I.list hs
 have hI:=gw rv
 obtain⟨t1,t2⟩:=rT hI
 have sz:(ar.map qk).toArray.size=ns.length:=by simp[hI.length]
 unfold qj at sm
 rw[Vu] at sm
 have s1:=of_decide_eq_true sm.1
 have fe:numAt (ar.map qk).toArray=fun i=>ns.getD i 0:=funext t2
 refine sum_intList (xs:=(ar.map qk).toArray) (I.ok.hd hc) (by rw[t1];exact pl.isList) (fun j hj => ?_) fun h' tk t' k => ?_
 ·rw[sz] at hj
  have al:=sm.2
  rw[fe]
  refine⟨?_,?_⟩
  ·have:=VM.mp al ns[j] (VA hj)
   have:=of_decide_eq_true this
   unfold InLong
   simp only[X9,Uv hj,YG]
   lia
  ·rw[jk ns (j+1) (by lia)]
   have Sg:((ns.take (j+1)).all fun n=>decide (0≤n∧n≤1000000000))=true:=VM.mpr fun x hx=>VM.mp al x (V5 hx)
   obtain⟨p1,p2⟩:=rS Sg
   have:(ns.take (j+1)).length≤1000000:=by rw[U7];lia
   unfold InLong
   lia
 ·have e:preSum (numAt (ar.map qk).toArray) (ar.map qk).toArray.size=ns.sum:=by rw[fe,sz,jk ns ns.length (UK _),WU]
  rw[e]
  exact⟨.int ns.sum,H,I.kept (t':=tk) k,⟨t',rfl⟩,q⟩
noncomputable def vn:List U→R U:=fun us=>match us with
 | [.lst xs]=>match iF xs with
  |some ns=>if qj ns=true then .ok (.int ns.sum) else .stk
  |none=>.stk
 |_=>.stk
theorem Cf:md K (Gn K) .S vn:=fun A H vs us z Q h mu e q=>by
 unfold vn at e
 split at e
 ·rename_i xs
  split at e
  ·rename_i ns hb
   split at e
   ·rename_i hl
    cases e
    obtain⟨v,rfl,p⟩:=h.one
    unfold Pk at p
    obtain⟨a,ys,rfl,h1,l1,r1⟩:=p
    rw[kO hb] at r1
    rw[r1.toI] at h1
    exact⟨a,ns,rfl,fq.of h1,hl,q _ H (aM.refl _) (show Rp K H A _ _ from ez)⟩
   ·cases e
  ·cases e
 ·cases e
noncomputable def tE:Int→List Int→Int
 |m,[]=>m
 |m,n::ns=>tE (if m<n then n else m) ns
theorem vo (ns:List Int)(n0:Int):∀j,j≤ns.length→(n0::ns).getD (argBest (fun i j=>decide ((n0::ns).getD i 0>(n0::ns).getD j 0)) j) 0=tE n0 (ns.take j)
 |0,_=>by simp[argBest,tE]
 |j+1,h=>by
  have ih:=vo ns n0 j (by lia)
  have hj:j<ns.length:=by lia
  have app:∀(l:List Int) (m x:Int),tE m (l++[x])=if tE m l<x then x else tE m l:=by
   intro l
   induction l with
   |nil=>intro m x;rfl
   |cons y l ih=>intro m x;exact ih _ x
  rw[Wt hj,app,←ih]
  have g:(n0::ns).getD (j+1) 0=ns[j]:=by simp[X9,Uv hj]
  rw[argBest]
  by_cases c:(n0::ns).getD (argBest (fun i j=>decide ((n0::ns).getD i 0>(n0::ns).getD j 0)) j) 0<ns[j]
  ·rw[if_pos c,if_pos (by rw[g];exact decide_eq_true c),g]
  ·rw[if_neg c,if_neg (by rw[g,decide_eq_true_eq];exact c)]
noncomputable def Gp (K:UB):List V→Hp→VK→Prop:=fun xs H Q=>∃p n0 ns,xs=[.ref p]∧fq K H p ((n0::ns).map V.int)∧Q (.int (tE n0 ns)) H
theorem rV (hc:X.calm=true):eM X (.builtin "max") (Gp X.K):=by
 intro pins s σ H xs us Q I r h
 obtain⟨p,n0,ns,rfl,hs,q⟩:=h
 obtain⟨u,rfl,rx⟩:=iA r
 cases rx
 obtain⟨ar,rv,pl,_⟩:=I.list hs
 have hI:=gw rv
 obtain⟨t1,t2⟩:=rT hI
 have sz:(ar.map qk).toArray.size=ns.length+1:=by simp[hI.length]
 have fe:numAt (ar.map qk).toArray=fun i=>(n0::ns).getD i 0:=funext t2
 refine max_intList (xs:=(ar.map qk).toArray) (I.ok.hd hc) (by rw[t1];exact pl.isList) (by rw[sz];lia) fun v h' tk hv k => ?_
 obtain⟨t,rfl⟩:=intItems_at hv
 rw[sz,Zb,fe]
 dsimp only
 rw[vo ns n0 _ (UK _),WU]
 exact⟨.int _,H,I.kept (t':=tk) k,⟨t,rfl⟩,q⟩
noncomputable def ql:List U→R U:=fun us=>match us with
 | [.lst xs]=>match iF xs with
  |some (n::ns)=>.ok (.int (tE n ns))
  |_=>.stk
 |_=>.stk
theorem vp:md K (Gp K) .S ql:=fun A H vs us z Q h mu e q=>by
 unfold ql at e
 split at e
 ·rename_i xs
  split at e
  ·rename_i n ns hb
   cases e
   obtain⟨v,rfl,p⟩:=h.one
   unfold Pk at p
   obtain⟨a,ys,rfl,h1,l1,r1⟩:=p
   rw[kO hb] at r1
   rw[r1.toI] at h1
   exact⟨a,n,ns,rfl,fq.of h1,q _ H (aM.refl _) (show Rp K H A _ _ from ez)⟩
  ·cases e
 ·cases e
end
end L2
namespace L2
section
variable {G:Gm}{e:WI}{p3 p4:Pos}{kk:Nat}{b1:Bool}{m1:Md}{g1:Ev→R (U×Ev)}
theorem Cg:∀{xs:List V} {ar:List Uz},aU xs ar→aU xs.reverse ar.reverse:=by
 intro xs ar h
 induction h with
 |nil=>exact .nil
 |cons r t ih=>rw[Yr,Yr];exact ih.append (.cons r .nil)
noncomputable def Nk (K:UB)(te:TE):TE:=fun σ H Q=>te σ H fun x H1=>∃a xs,x=.ref a∧fq K H1 a xs∧∀p,H1 p=none→Q (.ref p) (eB H1 p (.lst xs.reverse))
theorem Il (he:PE X e te):PE X (.Subscript e (.Slice none none (some (.UnaryOp .USub (.Constant (.int 1) kk p3) p4)) p2) pos) (Nk X.K te):=by
 intro pins s σ H Q I h
 refine Subscript_ (e_ (he pins s σ H _ I h) fun v s1 ⟨x,H1,I1,r1,a,xs,ex,hx,q1⟩ => ?_)
 subst ex
 cases r1
 refine wpAny_Slice ?_
 rw[evalPart_none]
 refine UD (UD ?_)
 refine e_ (xk (JF G_ zZ) pins s1 σ H1 (fun o H'=>o=some (-1)∧H'=H1) I1 ⟨1,rfl,-1,rfl,rfl,rfl⟩) fun vk s3 ⟨o,H3,I3,pk,e1,e2⟩ => ?_
 subst e1 e2
 have I4:aF X pins σ H3 {s3 with heap:=s3.heap.push {cls:=.type "slice",data:=.fields #[.none,.none,vk]}}:=I3.kept (t':=s3.toks) fun b ob q=>Uy _ q
 obtain⟨ar,r,ht,hz⟩:=I4.list hx
 have cY:=r.length
 refine tail_any (T:="list") (ops:=[.ref a,.ref s3.heap.objs.size]) ht.isList.typeIs slot_list_getitem.lookup ?_ (by with_unfolding_all rfl)
 refine wpAny_getItem_list_slice ht.isList (Heap.IsSliceOf.new ..) .none .none pk (by simp) ?_ (by rw[UC];lia)
 rw[PySem.W.krv_pick]
 refine⟨.ref _,_,I4.laid (t':=s3.toks) (o:=.lst xs.reverse) (fun b ob q=>Uy _ q) (UK _) ?_,rfl,q1 _ (I4.hok.fresh (UK _))⟩
 exact⟨by rw[YX];exact hz,ar.reverse,0,Cg r,UN _ rfl⟩
noncomputable def EG (g:Ev→R (U×Ev)):Ev→R (U×Ev):=fun ρ=>(g ρ).bind fun x=>match x.1 with
 | .lst us=>.ok (.lst us.reverse,x.2)
 |_=>.stk
theorem yx {K:UB}{H:Hp}{A:UY→Prop}:∀{us:List U} {vs:List V},aG K H A us vs→aG K H A us.reverse vs.reverse
 | [],_,h=>by unfold aG at h;subst h;exact aG.nil
 |u::us,_,h=>by
  unfold aG at h
  obtain⟨x,r,rfl,p,q⟩:=h
  rw[Yr,Yr]
  exact (yx q).append (aG.cons p aG.nil)
theorem Im (h:DE X G e b1 m1 g1):DE X G (.Subscript e (.Slice none none (some (.UnaryOp .USub (.Constant (.int 1) kk p3) p4)) p2) pos) b1 .O (EG g1):=⟨(Il h.un).to fun σ H Q h00=>by
 obtain⟨Z,A,ρ,q,f⟩:=h00
 obtain⟨⟨u,ρ1⟩,e1,f⟩:=f.bind
 refine⟨Z,A,ρ,q,?_⟩
 rw[e1]
 intro v H1 q1 x1 s1 vm
 dsimp only at f
 split at f
 ·rename_i us
  have pk:=vm.pk
  unfold Pk at pk
  obtain⟨a,xs,rfl,d,l,r⟩:=pk
  refine⟨a,xs,rfl,fq.of d,fun p hn => ?_⟩
  have sm:=cZ hn (.lst xs.reverse)
  exact f _ _ (q1.same sm) (x1.trans (ff.same sm)) (lZ s1 sm) (zQ.e q1 sm ⟨p,rfl,hn,cE q1.mu (yx r) hn (by rw[YX];exact l)⟩)
 ·exact f.elim⟩
end
end L2
namespace Hc.Ts
open PySem.W
theorem vq:∀a b,HT.lexLt a b=fz a b
 | [],[]=>rfl
 | [],_::_=>rfl
 |_::_,[]=>rfl
 |x::xs,y::ys=>by
  rw[HT.lexLt_cons,fz,vq xs ys]
noncomputable def ka (h:Xi)(a t b:UY)(ar:Array Uz)(ns:List Int):Prop:=h.IsTuple a #[.ref t,.ref b]∧h.IsTuple t ar∧W8 ar.toList ns
theorem ka.keep {t:UY}{ar:Array Uz}(x:ka h a t b ar ns)(k:∀b o,h.get? b=some o→h'.get? b=some o):ka h' a t b ar ns:=by
 obtain⟨⟨o1,e1,r1⟩,⟨o2,e2,r2⟩,i⟩:=x
 exact⟨⟨o1,k _ _ e1,r1⟩,⟨o2,k _ _ e2,r2⟩,i⟩
section
variable {A:VE}
theorem items_int {vs:List Uz}(h:W8 vs ns):ItemsAre (intKind prog w) ns vs:=by
 induction h with
 |nil=>exact .nil
 |cons n t _ ih=>exact .cons (intKind_is _ _ _ _) ih
theorem KD {t:UY}{ar:Array Uz}(h:s.heap.IsTuple t ar)(i:W8 ar.toList ns):IsTupleKey (intKind prog w) s.heap ns t:=by
 obtain⟨o,e,c,n,d⟩:=h
 exact⟨o,ar,n,e,c,d,items_int i⟩
theorem EH {Q:Bool→UQ→Prop}(q:Q true s):U4 (Vf prog w) A (eqBool (.ref b) (.ref b)) Q E s:=by
 unfold eqBool
 refine Wl ?_
 rw[if_pos (by simp)]
 exact Uw (Xn (UD q))
theorem Ci {h0:Xi}{bs:List UY}{kf:UY→List Int}(hu:A.units<Xu)(at_:∀a∈bs,∃t b ar,ka h0 a t b ar (kf a))(inj:∀a∈bs,∀c∈bs,kf a=kf c→a=c)(keep:∀b o,h0.get? b=some o→s.heap.get? b=some o)
  {key:U5→List Int} (E7:∀x:U5,∀a∈bs,x.1=.ref a→key x=kf a):jV (Vf prog w) A E s wM key (tuples' false) (fun x=>∃a∈bs,x.1=.ref a) where
 lt:=fun x y st Q dx dy kd q=>by
  obtain⟨a,ha,e1⟩:=dx
  obtain⟨c,hc,e2⟩:=dy
  rw[E7 x a ha e1,E7 y c hc e2] at q
  obtain⟨t1,b1,i1,p1⟩:=at_ a ha
  obtain⟨t2,b2,i2,p2⟩:=at_ c hc
  obtain⟨u1,v1,w1⟩:=p1.keep keep
  obtain⟨u2,v2,w2⟩:=p2.keep keep
  rw[lt'_eq]
  refine UP (Zg ?_)
  rw[kd,e1,e2]
  have Si:=u1
  have Sj:=u2
  obtain⟨o1,g1,_,n1,d1⟩:=u1
  obtain⟨o2,g2,_,n2,d2⟩:=u2
  refine UP (wpS_lift (Yc (kat_lt g1 d1 g2 d2 ?_)))
  refine kat_cons (wpAny_eqBool_tuple (knd:=intKind prog w) hu (KD v1 w1) (KD v2 w2) ?_)
  by_cases hk:kf a=kf c
  ·have Sk:=inj a ha c hc hk
   subst Sk
   rw[decide_eq_true hk]
   refine kat_yes ?_
   obtain⟨_,z1,_,_,z2⟩:=Si
   obtain⟨_,z3,_,_,z4⟩:=Sj
   rw[z1] at z3;cases z3
   rw[z2] at z4
   cases z4
   refine kat_cons (EH (kat_yes (kat_nil ⟨rfl,?_⟩)))
   rw[show wM.blt (kf a) (kf a)=false from jj _] at q
   exact UW q
  ·rw[decide_eq_false hk]
   refine kat_no (kat_one _ _ (HT.lt_tupInts v1 v2 w1 w2 hu ?_))
   rw[vq]
   exact⟨rfl,UW q⟩
theorem zH {bs:List UY}{Q:XS→UQ→Prop}(h2:2≤bs.length)(at_:∀a∈bs,∃t b ar ns,ka s.heap a t b ar ns)(q:Q (tuples' false) s):U4 (Vf prog w) A (keyKind' (bs.map Value.ref).toArray) Q E s:=by
 have kt:∀l:List UY,(∀a∈l,∃t b ar ns,ka s.heap a t b ar ns)→∃fs,KatTups s.heap (l.map Value.ref) fs∧fs.length=l.length∧∀f∈fs,∃t ar,f=.ref t∧s.heap.IsTuple t ar:=by
  intro l
  induction l with
  |nil=>exact fun _=>⟨[],.nil,rfl,fun f hf=>by cases hf⟩
  |cons a l ih =>
   intro h
   obtain⟨fs,k1,k2,k3⟩:=ih fun c hc=>h c (UM _ hc)
   obtain⟨t,b,ar,ns,⟨o,e,c,n,d⟩,v,_⟩:=h a UL
   refine⟨.ref t::fs,.cons e c d rfl k1,by rw[UI,UI,k2],fun f hf => ?_⟩
   rcases UU.mp hf with rfl|hf
   ·exact⟨t,ar,rfl,v⟩
   ·exact k3 f hf
 obtain⟨fs,k1,k2,k3⟩:=kt bs at_
 refine kat_kind (T:=.type "tuple") k1 (by lia) (fun v hv => ?_) (by decide) q
 obtain⟨t,ar,rfl,o,e,c,_⟩:=k3 v hv
 rw[←c]
 exact (Looks.ld e).andThen .now
end
end Hc.Ts
namespace L2
open Hc.Dw Hc.Ts
noncomputable def gF (H:Hp)(b:UY):List Int:=match H b with
 |some (.tup [.ref t,_])=>dH H t
 |_=>[]
noncomputable def yy (H:Hp)(b:UY):Prop:=∃t x,H b=some (.tup [.ref t,.ref x])∧H t=some (.tup ((gF H b).map V.int))
section
variable {G:Gm}
noncomputable def Cj (K:UB):List V→Hp→VK→Prop:=fun xs H Q=>∃(p:UY) (bs:List UY),xs=[.ref p]∧fq K H p (bs.map V.ref)∧bs.length≤1000000∧(∀b∈bs,yy H b)∧(bs.map (gF H)).Nodup ∧
  ∀(l:UY) (i_:List UY),H l=none→i_.Perm bs→i_.Pairwise (fun x y=>fz (gF H y) (gF H x)=false)→Q (.ref l) (eB H l (.lst (i_.map V.ref)))
theorem rW {α β:Type}{f:α→β}:∀{l:List α},(l.map f).Nodup→∀a∈l,∀b∈l,f a=f b→a=b
 | [],_,a,ha,_,_,_=>by cases ha
 |x::l,h,a,ha,b,hb,e=>by
  rw[UT] at h
  obtain⟨h1,h2⟩:=WL.mp h
  rcases UU.mp ha with ea|xf
  ·rcases UU.mp hb with eb|yO
   ·rw[ea,eb]
   ·exact absurd (by rw[←ea,e];exact WR yO) h1
  ·rcases UU.mp hb with eb|yO
   ·exact absurd (by rw[←eb,←e];exact WR xf) h1
   ·exact rW h2 a xf b yO e
theorem rX (I:aF X pins σ H s)(h:yy H b):∃t x ar,ka s.heap b t x ar (gF H b):=by
 obtain⟨t,x,h1,h2⟩:=h
 obtain⟨_,ar,rv,it,_⟩:=I.hok b _ h1
 obtain⟨_,its2,rv2,it2,_⟩:=I.hok t _ h2
 cases rv with
 |cons r1 rv =>
  cases rv with
  |cons r2 rv =>
   cases rv
   cases r1
   cases r2
   exact⟨t,x,_,it,it2,by simpa using gw rv2⟩
theorem wQ (hc:X.calm=true)(hu:X.A.units+64<Xu):eM X (.builtin "sorted") (Cj X.K):=by
 intro pins s σ H xs us Q I r h
 obtain⟨p,bs,rfl,hs,hz,tu,nd,q⟩:=h
 obtain⟨u,rfl,rx⟩:=iA r
 cases rx
 have Jd:bs.length≤UA:=by rw[W7];lia
 refine qg (gF H) (tuples' false) I hz hu (fun A E jJ s6 Q6 De h2 k6 q6 => ?_) (fun A E s6 hA k6 => ?_) (fun Q E hq => ?_) q
 ·refine zH h2 (fun a ha => ?_) q6
  obtain⟨t,x,ar,z⟩:=rX I (tu a (De.mem_iff.mp ha))
  exact⟨t,x,ar,_,z.keep k6⟩
 ·exact Ci (h0:=s.heap) (kf:=gF H) hA (fun a ha=>rX I (tu a ha)) (rW nd) k6 (fun x a _ e=>by rw[e];rfl)
 ·obtain⟨ar,rv,pl,_⟩:=I.list hs
  obtain⟨o,e,c,n,d⟩:=pl.isList
  have e2:=mG rv
  subst e2
  exact wpAny_collect_seq p (.inl rfl) e c d (fun h1 k1=>by simpa using hq h1 s.toks bs (Wa _) k1) (by rw[UC,Ux];exact Jd)
noncomputable def iW (p:List Int×U):U:=.tup [aB p.1,p.2]
noncomputable def yz:U→Option (List Int×U)
 | .tup [.tup ks,.tup us]=>(iF ks).map fun ns=>(ns,.tup us)
 |_=>none
noncomputable def ke:List U→Option (List (List Int×U))
 | []=>some []
 |u::us=>match yz u,ke us with
  |some p,some ps=>some (p::ps)
  |_,_=>none
noncomputable def jl (ps:List (List Int×U))(k:List Int):U:=(ps.lookup k).getD .non
noncomputable def vt (ps:List (List Int×U)):List (List Int×U):=(nD (ps.map (·.1))).map fun k=>(k,jl ps k)
noncomputable def qm:List U→R U:=fun us=>match us with
 | [.lst xs]=>match ke xs with
  |some ps=>if ps.length≤1000000∧(ps.map (·.1)).Nodup then .ok (.lst ((vt ps).map iW)) else .stk
  |none=>.stk
 |_=>.stk
theorem Ck {p:List Int×U}(h:yz u=some p):u=iW p∧∃us,p.2=.tup us:=by
 unfold yz at h
 split at h
 ·rename_i ks us
  cases e:iF ks with
  |none=>rw[e] at h;cases h
  |some ns =>
   rw[e] at h;cases h
   unfold iW aB
   rw[kO e]
   exact⟨rfl,us,rfl⟩
 ·cases h
theorem rY:∀{us:List U} {ps:List (List Int×U)},ke us=some ps→us=ps.map iW∧∀p∈ps,∃us,p.2=.tup us
 | [],ps,h=>by unfold ke at h;cases h;exact⟨rfl,fun p hp=>by cases hp⟩
 |u::us,ps,h=>by
  unfold ke at h
  split at h
  ·rename_i p Uu e1 e2
   cases h
   obtain⟨a1,a2⟩:=Ck e1
   obtain⟨b1,b2⟩:=rY e2
   refine⟨by rw[UT,←a1,←b1],fun q hq => ?_⟩
   rcases UU.mp hq with rfl|hq
   ·exact a2
   ·exact b2 q hq
  ·cases h
theorem EI {p:List Int×U}(h:Rp K H A (iW p) v)(t:∃us,p.2=.tup us):∃b,v=.ref b∧yy H b∧gF H b=p.1:=by
 obtain⟨us,e⟩:=t
 unfold iW at h
 unfold Rp at h
 obtain⟨b,xs,rfl,q,l,r⟩:=h
 unfold aG at r
 obtain⟨v1,r1,rfl,p1,r⟩:=r
 unfold aG at r
 obtain⟨v2,r2,rfl,p2,r⟩:=r
 unfold aG at r
 subst r
 obtain⟨t,rfl,ht,_⟩:=Ca p1
 rw[e] at p2
 unfold Rp at p2
 obtain⟨x,ys,rfl,_⟩:=p2
 have k:gF H b=p.1:=by unfold gF;rw[q];exact oB ht
 exact⟨b,rfl,⟨t,x,q,by rw[k];exact ht⟩,k⟩
theorem rZ {H:Hp}{A:UY→Prop}:∀{ps:List (List Int×U)} {xs:List V},aG K H A (ps.map iW) xs→(∀p∈ps,∃us,p.2=.tup us)→∃bs:List UY,xs=bs.map V.ref∧bs.map (gF H)=ps.map (·.1)∧(∀b∈bs,yy H b) ∧
  ((ps.map (·.1)).Nodup→∀b∈bs,Rp K H A (iW (gF H b,jl ps (gF H b))) (.ref b))
 | [],xs,h,_=>by rw[WW] at h;unfold aG at h;subst h;exact⟨[],rfl,rfl,⟨fun b hb=>(nomatch hb),fun _ b hb=>(nomatch hb)⟩⟩
 |p::ps,xs,h,t=>by
  rw[UT] at h
  unfold aG at h
  obtain⟨x,r,rfl,h1,h2⟩:=h
  obtain⟨b,rfl,b2,b3⟩:=EI h1 (t p UL)
  obtain⟨bs,rfl,c2,c3,c4⟩:=rZ h2 fun q hq=>t q (UM _ hq)
  refine⟨b::bs,rfl,by rw[UT,UT,b3,c2],fun c hc => ?_,fun nd c hc => ?_⟩
  ·rcases UU.mp hc with rfl|hc
   ·exact b2
   ·exact c3 c hc
  ·rw[UT] at nd
   obtain⟨n1,n2⟩:=WL.mp nd
   rcases UU.mp hc with rfl|hc
   ·have e:jl (p::ps) (gF H c)=p.2:=by unfold jl;rw[b3,VS,beq_self_eq_true];rfl
    rw[e,b3]
    exact h1
   ·have ne:gF H c≠p.1:=fun z=>n1 (by rw[←z,←c2];exact WR hc)
    have e:jl (p::ps) (gF H c)=jl ps (gF H c):=by unfold jl;rw[VS,beq_eq_false_iff_ne.mpr ne]
    rw[e]
    exact c4 n2 c hc
theorem zI:md K (Cj K) .O qm:=fun A H vs us z Q h mu e q=>by
 unfold qm at e
 split at e
 ·rename_i xs
  split at e
  ·rename_i ps e1
   split at e
   ·rename_i hl
    cases e
    obtain⟨v,rfl,p⟩:=h.one
    unfold Pk at p
    obtain⟨a,ys,rfl,h1,l1,r1⟩:=p
    obtain⟨e2,tp⟩:=rY e1
    subst e2
    obtain⟨bs,rfl,c2,c3,c4⟩:=rZ r1 tp
    have ln:bs.length=ps.length:=by have:=congrArg XU c2;simpa using this
    refine⟨a,bs,rfl,fq.of h1,by lia,c3,by rw[c2];exact hl.2,fun l i_ hn hp hw => ?_⟩
    have e7:i_.map (gF H)=nD (ps.map (·.1)):=tx ((hp.map (gF H)).trans (by rw[c2];exact (dQ _).symm)) (WJ.mpr hw) (qh _)
    refine q _ _ (cZ hn _) ⟨l,rfl,hn,?_⟩
    have e8:(vt ps).map iW=i_.map fun b=>iW (gF H b,jl ps (gF H b)):=by
     unfold vt
     rw[←e7,VL,VL];rfl
    rw[e8]
    refine cE mu ?_ hn ?_
    ·have all:∀b∈i_,Rp K H A (iW (gF H b,jl ps (gF H b))) (.ref b):=fun b hb=>c4 hl.2 b (hp.mem_iff.mp hb)
     clear hw e7 e8 hp
     induction i_ with
     |nil=>exact aG.nil
     |cons b i_ ih=>exact aG.cons (all b UL) (ih fun c hc=>all c (UM _ hc))
    ·have:UA=16777216:=rfl
     rw[Ux,hp.length_eq];lia
   ·cases e
  ·cases e
 ·cases e
end
end L2
namespace L2
section
variable {G:Gm}
noncomputable def Io (K:UB)(f:Bool→Bool):R2:=fun x y H Q=>∃p xs ds dx,y=.ref p∧(fq K H p xs∨gT K H p xs)∧aN K H dx x∧ft K H ds xs∧(∀d∈ds,cm d≤30)∧Q (.bl (f (ds.any fun d=>fE d dx))) H
open Classical in
noncomputable def i7 (ar:List Uz)(ds:List D)(dx:D)(u:Uz):Bool:=decide (∃(i:Nat) (d:D),ar[i]? = some u∧ds[i]? = some d∧fE d dx=true)
open Classical in
theorem oC {u:Uz}:i7 ar ds dx u=true↔∃(i:Nat) (d:D),ar[i]? = some u∧ds[i]? = some d∧fE d dx=true:=by
 unfold i7;exact decide_eq_true_iff
theorem oD (hl:ar.length=ds.length):ar.any (i7 ar ds dx)=ds.any fun d=>fE d dx:=by
 rw[Xe,YH,YH]
 constructor
 ·rintro⟨u,_,h⟩
  obtain⟨i,d,_,h2,h3⟩:=oC.mp h
  exact⟨d,Vt h2,h3⟩
 ·rintro⟨d,hd,h⟩
  obtain⟨i,hi,e⟩:=WC.mp hd
  have GF:i<ar.length:=by lia
  exact⟨ar[i],VA GF,oC.mpr ⟨i,d,Uv GF,by rw[Uv hi,e],h⟩⟩
theorem lu (I:aF X pins σ H s){A:VE}(hA:A.units+30<Xu){x:V}{v:Uz}(rx:bN x v)(hx:aN X.K H dx x)(rv:aU xs ar)(hs:ft X.K H ds xs)(hd:∀d∈ds,cm d≤30) :
  ∀u∈ar,XA A s u v (i7 ar ds dx u):=fun u hu=>by
 have l1:=rv.length
 have l2:=hs.length
 have at_:∀(i:Nat) (d:D),ar[i]? = some u→ds[i]? = some d→XA A s u v (fE d dx):=fun i d h1 h2=>by
  have hi:i<ar.length:=(UJ.mp h1).1
  have h3:xs[i]? = some (xs[i]'(by lia)):=Uv _
  obtain⟨u',g1,g2⟩:=rv.get h3
  rw[h1] at g1
  cases g1
  exact oZ I 30 d dx _ x u v A (hd d (Vt h2)) hA (hs.get h2 h3) hx g2 rx
 by_cases c:∃(i:Nat) (d:D),ar[i]? = some u∧ds[i]? = some d∧fE d dx=true
 ·obtain⟨i,d,h1,h2,h3⟩:=c
  have e:i7 ar ds dx u=true:=oC.mpr ⟨i,d,h1,h2,h3⟩
  rw[e,←h3]
  exact at_ i d h1 h2
 ·have e:i7 ar ds dx u=false:=XC.mpr fun z=>c (oC.mp z)
  obtain⟨i,hi,eu⟩:=WC.mp hu
  have h1:ar[i]? = some u:=by rw[Uv hi,eu]
  have h2:ds[i]? = some (ds[i]'(by lia)):=Uv _
  have e2:fE (ds[i]'(by lia)) dx=false:=by
   cases z:fE (ds[i]'(by lia)) dx with
   |false=>rfl
   |true=>exact absurd ⟨i,_,h1,h2,z⟩ c
  rw[e,←e2]
  exact at_ i _ h1 h2
theorem mI (hu:X.A.units+64<Xu):jK X (WV .In) (Io X.K id):=by
 intro pins s σ H x y v u Q I rx ry h
 obtain⟨p,xs,ds,dx,rfl,hq,hx,hs,hd,q⟩:=h
 cases ry
 rcases hq with hq|hq
 ·obtain⟨ar,r,pl,hz⟩:=I.list hq
  refine SeqAt.in_listAt (i7 ar ds dx) pl.isList (fun w hw=>lu I (by show X.A.units+1+30<Xu;lia) rx hx r hs hd w (by simpa using hw)) ⟨.bl _,H,I,rfl,?_⟩
  rw[show ar.toArray.any (i7 ar ds dx)=ar.any (i7 ar ds dx) by simp,oD (by rw[←r.length,←hs.length])]
  exact q
 ·obtain⟨ar,r,pl,hz⟩:=I.tuple hq
  refine SeqAt.in_tupleAt (i7 ar ds dx) pl (fun w hw=>lu I (by show X.A.units+1+30<Xu;lia) rx hx r hs hd w (by simpa using hw)) ⟨.bl _,H,I,rfl,?_⟩
  rw[show ar.toArray.any (i7 ar ds dx)=ar.any (i7 ar ds dx) by simp,oD (by rw[←r.length,←hs.length])]
  exact q
theorem zJ (hu:X.A.units+64<Xu):jK X (WV .NotIn) (Io X.K not):=by
 intro pins s σ H x y v u Q I rx ry h
 obtain⟨p,xs,ds,dx,rfl,hq,hx,hs,hd,q⟩:=h
 cases ry
 rcases hq with hq|hq
 ·obtain⟨ar,r,pl,hz⟩:=I.list hq
  refine SeqAt.notIn_listAt (i7 ar ds dx) pl.isList (fun w hw=>lu I (by show X.A.units+1+30<Xu;lia) rx hx r hs hd w (by simpa using hw)) ⟨.bl _,H,I,rfl,?_⟩
  rw[show ar.toArray.any (i7 ar ds dx)=ar.any (i7 ar ds dx) by simp,oD (by rw[←r.length,←hs.length])]
  exact q
 ·obtain⟨ar,r,pl,hz⟩:=I.tuple hq
  refine SeqAt.notIn_tupleAt (i7 ar ds dx) pl (fun w hw=>lu I (by show X.A.units+1+30<Xu;lia) rx hx r hs hd w (by simpa using hw)) ⟨.bl _,H,I,rfl,?_⟩
  rw[show ar.toArray.any (i7 ar ds dx)=ar.any (i7 ar ds dx) by simp,oD (by rw[←r.length,←hs.length])]
  exact q
noncomputable def tF:U→Option (List U)
 | .lst us=>some us
 | .tup us=>some us
 |_=>none
noncomputable def qz (f:Bool→Bool):U→U→R U:=fun u w=>match gO u,(tF w).bind fx with
 |some dx,some ds=>if (ds.all fun d=>decide (cm d≤30))=true then .ok (.bl (f (ds.any fun d=>fE d dx))) else .stk
 |_,_=>.stk
theorem kg {f:Bool→Bool}:gx K (Io K f) .S (qz f):=fun A H x y u w z Q hx hy mu e q=>by
 unfold qz at e
 split at e
 ·rename_i dx ds h1 h2
  split at e
  ·rename_i hd
   cases e
   cases w with
   |lst us =>
    unfold Pk at hy
    obtain⟨a,xs,rfl,h3,l1,r1⟩:=hy
    exact⟨a,xs,ds,dx,rfl,.inl (fq.of h3),sQ hx h1,jB r1 h2,fun d m=>of_decide_eq_true (VM.mp hd d m),q _ H (aM.refl _) (show Rp K H A _ _ from jd)⟩
   |tup us =>
    unfold Pk at hy
    obtain⟨a,xs,rfl,h3,l1,r1⟩:=hy
    exact⟨a,xs,ds,dx,rfl,.inr (gT.of h3),sQ hx h1,jB r1 h2,fun d m=>of_decide_eq_true (VM.mp hd d m),q _ H (aM.refl _) (show Rp K H A _ _ from jd)⟩
   |_=>cases h2
  ·cases e
 ·cases e
end
end L2
namespace L2
noncomputable def EJ (j:Nat)(p:U→U→R U)(g2:Ev→R (U×Ev)):Ev→R (U×Ev):=fun ρ=>if live ρ j=true then (g2 ρ).bind fun y=>match y.2[j]? with
 |some (some u)=>(p u y.1).bind fun z=>.ok (z,y.2)
 |_=>.stk else .stk
section
variable {G:Gm}{b:WI}{p1:Pos}{b2:Bool}{m2 mr:Md}{g2:Ev→R (U×Ev)}
theorem Iq {op:Operator}(ho:jK X (Xq op) r)(hp:gx X.K r mr p)(hb:DE X G b b2 m2 g2)(hN:X.N[j]? = some x:=by rfl)(hv:Di X.env.scope x:=by first|exact Or.inl rfl|exact Or.inr (Or.inl rfl)|exact Or.inr (Or.inr rfl))(hd:(x==("__debug__":Str))=false:=by decide)(qv:(x==("__classdict__":Str))=false:=by decide)(c:G.is j=true:=by rfl):DE X G (.BinOp (.Name x p1) op b pos) b2 mr (EJ j p g2):=⟨(E_ ho (j0 hN hv hd qv) hb.un).to fun σ H Q h00=>by
 obtain⟨Z,A,ρ,q,f⟩:=h00
 unfold EJ at f
 by_cases hl:live ρ j=true
 ·rw[if_pos hl] at f
  obtain⟨u0,hu0⟩:=sJ hl
  obtain⟨a0,h0,_⟩:=q.own c hu0
  obtain⟨⟨w,ρ2⟩,e2,f⟩:=f.bind
  refine⟨.ref a0,h0,Z,A,ρ,q,?_⟩
  rw[e2]
  intro v2 H2 q2 x2 s2 vL
  dsimp only at f
  split at f
  ·rename_i u hu
   obtain⟨a1,k1,_,_,_,k5⟩:=q2.own c hu
   rw[h0] at k1;cases k1
   obtain⟨z,e3,f⟩:=f.bind
   refine hp A H2 _ v2 u w z Q k5.pk vL.pk q2.mu e3 fun v H' sm vm => ?_
   exact f v H' (q2.same sm) (x2.trans (ff.same sm)) (lZ s2 sm) (vm.e q2 sm)
  ·exact f.elim
 ·rw[if_neg hl] at f;exact f.elim⟩
end
end L2
namespace L2
open Hc.Dw Hc.Ts
noncomputable def Jm:U→U→R Bool
 | .int a,.int b=>.ok (a==b)
 | .bl a,.bl b=>.ok (a==b)
 | .str a,.str b=>.ok (a==b)
 |_,_=>.stk
noncomputable def fR (f:Bool→Bool):U→U→R U:=fun u w=>(Jm u w).bind fun b=>.ok (.bl (f b))
theorem bJ:gx K P7 .S (fR id):=fun A H x y u w z Q hx hy mu e q=>by
 unfold fR at e
 obtain⟨b,e1,e2⟩:=R.bind_ok e
 unfold Jm at e1
 split at e1
 ·cases e1;cases e2;rw[hx.int,hy.int]
  refine⟨rfl,?_⟩
  rw[xh]
  exact q _ H (aM.refl _) (show Rp K H A _ _ from jd)
 ·cases e1;cases e2;rw[hx.bl,hy.bl]
  refine⟨rfl,?_⟩
  rw[Ag]
  exact q _ H (aM.refl _) (show Rp K H A _ _ from jd)
 ·cases e1;cases e2;rw[hx.str,hy.str]
  refine⟨rfl,?_⟩
  rw[xi]
  exact q _ H (aM.refl _) (show Rp K H A _ _ from jd)
 ·cases e1
end L2
namespace Hc
open L2
theorem Gq {f:Bool→Bool}{u w:U}:fR f u w=(Jm u w).bind fun b=>.ok (.bl (f b)):=nr rfl
theorem bA {a b:Int}:Jm (.int a) (.int b)=.ok (a==b):=nr rfl
theorem Cm {a b:Bool}:Jm (.bl a) (.bl b)=.ok (a==b):=nr rfl
theorem b_ {a b:Str}:Jm (.str a) (.str b)=.ok (a==b):=nr rfl
theorem dg:type_of% @UT.{0,0}∧type_of% @WW.{0,0}∧type_of% @UI.{0}∧type_of% @WM.{0}∧type_of% @List.cons_append.{0}∧type_of% @Wc.{0}∧type_of% @Wf.{0}∧type_of% @List.replicate_zero.{0}∧type_of% @List.getElem?_cons_zero.{0}∧type_of% @VR.{0}∧type_of% @V6.{0}∧type_of% @W6.{0}∧type_of% @YG.{0}∧type_of% @YD.{0}∧type_of% @if_true.{1}∧type_of% @if_false.{1}∧type_of% @Vi∧type_of% @Fx∧type_of% @Ya∧type_of% @Yw∧type_of% @Gq∧type_of% @bA∧type_of% @Cm∧type_of% @b_ :=
 ⟨@UT.{0,0},@WW.{0,0},@UI.{0},@WM.{0},@List.cons_append.{0},@Wc.{0},@Wf.{0},@List.replicate_zero.{0},@List.getElem?_cons_zero.{0},@VR.{0},@V6.{0},@W6.{0},@YG.{0},@YD.{0},@if_true.{1},@if_false.{1},@Vi,@Fx,@Ya,@Yw,@Gq,@bA,@Cm,@b_⟩
end Hc
noncomputable section
namespace Hc
open PySem L2
noncomputable abbrev qo:Gm:=⟨[false,false,false,false],false,fun _=>False⟩
noncomputable def fA:Nat→Ev→SR
 |0=>fun _=>.stk
 |n+1=>let r_depth_in:=fZ .S 4 (fA n)
  (aJ (iV (gB (aL (fR id) (aL fF (ag 0) (gC (.int 0))) (gC (.str "end")))) (bV (gC (.int 0))) bT)
 (aJ (iV (uw (gB (aL (fR id) (aL fF (ag 0) (gC (.int 0))) (gC (.str "mix")))) (gB (aL (qz id) (aL fF (ag 0) (gC (.int 1))) (ag 1)))) (bu 2 (cD (ae (aL fF (ag 0) (gC (.int 2))) ak))) (iV (uw (gB (aL (fR id) (aL fF (ag 0) (gC (.int 0))) (gC (.str "look")))) (gB (aL (fR id) (fL iE (ae (aL fF (ag 0) (gC (.int 1))) ak)) (gC (.int 1))))) (bu 2 (gy (fM (aL fF (ag 0) (gC (.int 2)))) [none] (dw 0) du (aL fF (ag 0) (gC (.int 1))))) (bV (gC .non))))
 (aJ (bu 3 (gy (fM (ag 2)) [none,some 1] (dw 0) du (iU 2 r_depth_in (ae (ag 0) (ae (ag 1) ak)))))
 (aJ (iV (gB (aL (qz id) (gC .non) (ag 3))) (bV (gC .non)) bT)
 (bV (aL b9 (gC (.int 1)) (fL ql (ae (ag 3) ak))))))))
noncomputable def cI (n:Nat):List U→R U:=fZ .S 4 (fA n)
noncomputable abbrev qp:Gm:=⟨[false,false],false,fun _=>False⟩
noncomputable def fi:Ev→SR:=(aJ (iV (gB (aL D9 (ag 1) (fL iE (ae (ag 0) ak)))) (bV (aL fF (ag 0) (ag 1))) bT)
 (bV (gC (.int 0))))
noncomputable def dh:List U→R U:=fZ .S 2 fi
noncomputable abbrev tG:Gm:=⟨[false,false,false],false,fun _=>False⟩
noncomputable def gp:Ev→SR:=(aJ (bu 2 (iU 2 dh (ae (ag 0) (ae (ag 1) ak))))
 (aJ (iV (gB (aL MZ (ag 2) (aL D8 (gC (.int 10)) (gC (.int 18))))) (bV (cD (ae (aL mf (ag 2) (aL D8 (gC (.int 10)) (gC (.int 18)))) (ae (gC (.bl true)) ak)))) bT)
 (bV (cD (ae (aL uD (ag 2) (gC (.int 2147483647))) (ae (gC (.bl false)) ak))))))
noncomputable def d5:List U→R U:=fZ .O 3 gp
noncomputable abbrev vv:Gm:=⟨[true,false,false,false],true,fun _=>False⟩
noncomputable def gY:Ev→SR:=(aJ (iV (gB (aL fF (ag 0) (gC (.int 1)))) (aJ (bu 2 (aL uD (aL fF (ag 0) (gC (.int 0))) (ag 1)))
 (aJ (xw 0 (aL uC (aL fF (ag 0) (gC (.int 0))) (ag 1)) (gC (.int 0)))
 (bV (ag 2)))) bT)
 (aJ (xw 0 (aL uD (aL b9 (aL jR (aL fF (ag 0) (gC (.int 0))) (gC (.int 48271))) (gC (.int 29))) (gC (.int 2147483647))) (gC (.int 0)))
 (aJ (bu 3 (aL uD (aL b9 (aL b9 (aL jR (aL fF (ag 0) (gC (.int 0))) (aL fF (ag 0) (gC (.int 0)))) (aL jR (gC (.int 39373)) (aL fF (ag 0) (gC (.int 0))))) (gC (.int 7))) (gC (.int 2147483629))))
 (aJ (bu 3 (aL uD (aL b9 (aL jR (ag 3) (ag 3)) (aL jR (gC (.int 16807)) (ag 3))) (gC (.int 2147483587))))
 (bV (aL uD (aL uC (ag 3) (gC (.int 8))) (ag 1)))))))
noncomputable def aq:List U→R (U×U):=iD 4 gY
noncomputable abbrev fB:Gm:=⟨[true,false,false],true,fun _=>False⟩
noncomputable def iO:Ev→SR:=(aJ (bu 2 (eZ 2 0 aq (ae (gC (.int 4)) ak)))
 (aJ (iV (gB (aL D9 (ag 2) (gC (.int 2)))) (bV (fL df (ae (pE fB (fN (ae (ag 1) ak)) [none,some 0] (dw 0) du (eZ 2 1 aq (ae (gC (.int 2)) ak))) ak))) bT)
 (bV (fL df (ae (pE fB (fN (ae (ag 1) ak)) [none,some 0,some 2] (dw 0) du (eZ 2 1 aq (ae (aL fF (cD (ae (gC (.int 3)) (ae (gC (.int 10)) ak))) (aL mf (ag 2) (gC (.int 2)))) ak))) ak)))))
noncomputable def eK:List U→R (U×U):=iD 3 iO
noncomputable abbrev iP:Gm:=⟨[true,false,true],true,fun _=>False⟩
noncomputable def iQ:Ev→SR:=(aJ (bu 2 (AU (ae (ag 1) ak)))
 (bV (fL df (ae (pE iP (fN (ae (ag 1) ak)) [none,some 2,some 0] (dw 0) du (gM "list" 1 mn (ae (eZ 2 2 aq (ae (fL iE (ae (ag 1) ak)) ak)) ak))) ak))))
noncomputable def aI:List U→R (U×U):=iD 3 iQ
noncomputable abbrev vw:Gm:=⟨[false,false],false,fun _=>False⟩
noncomputable def jn:Ev→SR:=(bV (fL df (ae (gy (fM (ag 1)) [none,some 0] (dw 0) du (aL fF (ag 1) (ag 0))) ak)))
noncomputable def bF:List U→R U:=fZ .S 2 jn
noncomputable abbrev gG:Gm:=⟨[true,false,false,false,false,false,false,false,false,true],true,fun _=>False⟩
noncomputable def cJ:Ev→SR:=(aJ (bu 2 (AV (ae (ag 1) ak)))
 (aJ (bu 3 (eZ 2 0 aq (ae (gC (.int 6)) ak)))
 (aJ (iV (gB (aL (fR id) (ag 3) (gC (.int 0)))) (bV (fL df (ae (gy (fN (ae (ag 1) ak)) [none,some 2] (dw 0) du (aL b9 (jx i6 (ag 1) (bS (ag 0)) cn) (jx i6 (ag 1) cn (bS (ag 0))))) ak))) bT)
 (aJ (iV (gB (aL (fR id) (ag 3) (gC (.int 1)))) (aJ (bu 4 (eZ 2 0 aI (ae (ag 1) ak)))
 (bV (bR (ae (ag 2) (ae (ag 4) ak))))) bT)
 (aJ (iV (gB (aL (fR id) (ag 3) (gC (.int 2)))) (aJ (bu 5 (aL uC (ag 1) (gC (.int 2))))
 (bV (bR (ae (ag 2) (ae (aL b9 (aL b9 (jx i6 (ag 2) (bS (ag 5)) (bS (aL jR (gC (.int 2)) (ag 5)))) (jx i6 (ag 2) cn (bS (ag 5)))) (jx i6 (ag 2) (bS (aL jR (gC (.int 2)) (ag 5))) cn)) ak))))) bT)
 (aJ (iV (gB (aL (fR id) (ag 3) (gC (.int 3)))) (aJ (bu 6 (cD (ae (bR ak) ak)))
 (aJ (bu 7 (fL rm (ae (ag 1) (ae (aL b9 (gC (.int 2)) (eZ 2 0 aq (ae (gC (.int 3)) ak))) ak))))
 (aJ (kF (fN (ae (ag 7) ak)) (dw 8)
 (aJ (bu 9 (cD ak))
 (aJ (kF (fM (ag 6)) (dw 4)
 (jQ (gM "list" 9 gj (ae (gy (fN (ae (aL b9 (ag 8) (gC (.int 1))) ak)) [none,some 4,some 8] (dw 0) du (aL b9 (aL b9 (jx i6 (ag 1) cn (bS (ag 0))) (bR (ae (ag 2) ak))) (jx i6 (ag 1) (bS (ag 0)) cn))) ak))))
 (ux 6 9))))
 (bV (fL df (ae (gy (fM (ag 6)) [none,some 2,some 7] (dw 0) du (aL b9 (ag 0) (jx i6 (ag 1) (bS (ag 2)) cn))) ak)))))) bT)
 (bV (fL df (ae (pE gG (fN (ae (aL b9 (gC (.int 1)) (eZ 2 0 aq (ae (gC (.int 4)) ak))) ak)) [none,some 0,some 1] (dw 0) du (eZ 2 1 aI (ae (ag 2) ak))) ak)))))))))
noncomputable def aO:List U→R (U×U):=iD 10 cJ
noncomputable abbrev wR:Gm:=⟨[true,false,false],true,fun _=>False⟩
noncomputable def kh:Ev→SR:=(aJ (bu 2 (eZ 2 0 aI (ae (ag 1) ak)))
 (bV (bR (ae (gC (.str "end")) (ae (jx i6 (ag 2) cn (bS (aL b9 (gC (.int 1)) (eZ 2 0 aq (ae (aL fF (cD (ae (gC (.int 2)) (ae (ag 1) ak))) (eZ 2 0 aq (ae (gC (.int 2)) ak))) ak))))) ak)))))
noncomputable def eL:List U→R (U×U):=iD 3 kh
noncomputable abbrev gZ:Gm:=⟨[true,false,false,false,false,false,false,true,false,false,false],true,fun _=>False⟩
noncomputable abbrev nF:Gm:=⟨[true,false,false,false,false,false,false,false,true],true,fun _=>False⟩
mutual
noncomputable def eO:Nat→Ev→SR
 |0=>fun _=>.stk
 |n+1=>let r__law_plan:=iD 9 (bG n)
  (aJ (bu 4 (fL iE (ae (aL fF (ag 1) (gC (.int 0))) ak)))
 (aJ (bu 5 (jx i6 (eZ 2 0 aI (ae (ag 4) ak)) cn (bS (aL b9 (gC (.int 1)) (aL jR (eZ 2 0 aq (ae (gC (.int 2)) ak)) (fL AS (ae (aL LN (ag 4) (gC (.int 1))) ak)))))))
 (aJ (bu 6 (fL dR (ae (gy (fM (ag 1)) [none,some 5] (dw 0) du (iU 2 bF (ae (ag 0) (ae (ag 1) ak)))) ak)))
 (aJ (iV (gB (aL LN (fL iE (ae (ag 6) ak)) (gC (.int 4)))) (bV (eZ 2 0 eL (ae (ag 4) ak))) bT)
 (aJ (bu 7 (cD ak))
 (aJ (kF (fM (ag 6)) (dw 8)
 (aJ (bu 9 (gy (fM (ag 1)) [none,some 8,some 5] (dw 0) (gB (aL (zU id) (iU 2 bF (ae (ag 0) (ae (ag 2) ak))) (ag 1))) (ag 0)))
 (jQ (gM "list" 7 kP (ae (bR (ae (ag 8) (ae (eZ 4 0 r__law_plan (ae (ag 9) (ae (aL mf (ag 2) (gC (.int 1))) (ae (ag 3) ak)))) ak))) ak)))))
 (aJ (iV (gB (aL (fR id) (eZ 2 0 aq (ae (gC (.int 6)) ak)) (gC (.int 0)))) (aJ (bu 10 (fL df (ae (pE gZ (fM (ag 5)) [none,some 0] (dw 0) du (eZ 2 1 aq (ae (gC (.int 10)) ak))) ak)))
 (iV (gB (aL (qz not) (ag 10) (ag 6))) (bu 7 (fL qm (ae (EJ 7 b9 (cD (ae (bR (ae (ag 10) (ae (eZ 2 0 eL (ae (ag 4) ak)) ak))) ak))) ak))) bT)) bT)
 (bV (bR (ae (gC (.str "look")) (ae (ag 5) (ae (fL df (ae (ag 7) ak)) ak))))))))))))
noncomputable def bG:Nat→Ev→SR
 |0=>fun _=>.stk
 |n+1=>let r__law_look:=iD 11 (eO n)
  let r__law_plan:=iD 9 (bG n)
  (aJ (bu 4 (fL iE (ae (aL fF (ag 1) (gC (.int 0))) ak)))
 (aJ (bu 5 (eZ 2 0 aq (ae (gC (.int 12)) ak)))
 (aJ (iV (Hs (gB (aL D9 (ag 2) (gC (.int 2)))) (gB (aL (fR id) (ag 5) (gC (.int 0))))) (bV (eZ 2 0 eL (ae (ag 4) ak))) bT)
 (aJ (iV (uw (gB (aL (fR id) (ag 5) (gC (.int 1)))) (gB (ag 3))) (bV (bR (ae (gC (.str "again")) ak))) bT)
 (aJ (iV (gB (aL D9 (ag 5) (gC (.int 4)))) (aJ (bu 6 (eZ 2 0 aI (ae (ag 4) ak)))
 (bV (bR (ae (gC (.str "lay")) (ae (ag 6) (ae (eZ 4 0 r__law_plan (ae (fL dR (ae (gy (fM (ag 1)) [none,some 6] (dw 0) du (iU 2 bF (ae (ag 0) (ae (ag 1) ak)))) ak)) (ae (aL mf (ag 2) (gC (.int 1))) (ae (ag 3) ak)))) ak)))))) bT)
 (aJ (iV (gB (aL D9 (ag 5) (gC (.int 8)))) (aJ (bu 7 (eZ 2 0 aO (ae (ag 4) ak)))
 (aJ (bu 8 (cD ak))
 (aJ (kF (fM (ag 7)) (dw 6)
 (jQ (gM "list" 8 gj (ae (gy (fM (ag 1)) [none,some 6] (dw 0) du (iU 2 bF (ae (ag 0) (ae (ag 1) ak)))) ak))))
 (bV (bR (ae (gC (.str "mix")) (ae (ag 7) (ae (eZ 4 0 r__law_plan (ae (fL dR (ae (ag 8) ak)) (ae (aL mf (ag 2) (gC (.int 1))) (ae (ag 3) ak)))) ak)))))))) bT)
 (bV (eZ 4 0 r__law_look (ae (ag 1) (ae (ag 2) (ae (ag 3) ak)))))))))))
end
noncomputable def g6 (n:Nat):List U→R (U×U):=iD 11 (eO n)
noncomputable def bo (n:Nat):List U→R (U×U):=iD 9 (bG n)
noncomputable abbrev nG:Gm:=⟨[false],false,fun _=>False⟩
noncomputable def eP:Nat→Ev→SR
 |0=>fun _=>.stk
 |n+1=>let r__law_size:=fZ .S 1 (eP n)
  (aJ (iV (gB (aL (qz id) (aL fF (ag 0) (gC (.int 0))) (bR (ae (gC (.str "lay")) (ae (gC (.str "mix")) ak))))) (bV (aL b9 (gC (.int 1)) (iU 1 r__law_size (ae (aL fF (ag 0) (gC (.int 2))) ak)))) bT)
 (aJ (iV (gB (aL (fR id) (aL fF (ag 0) (gC (.int 0))) (gC (.str "look")))) (bV (aL b9 (gC (.int 1)) (fL vn (ae (gy (fM (aL fF (ag 0) (gC (.int 2)))) [none] (dw 0) du (iU 1 r__law_size (ae (aL fF (ag 0) (gC (.int 1))) ak))) ak)))) bT)
 (bV (gC (.int 1)))))
noncomputable def dU (n:Nat):List U→R U:=fZ .S 1 (eP n)
noncomputable abbrev tH:Gm:=⟨[true,false,false,false,false],true,fun _=>False⟩
noncomputable def gq:Ev→SR:=(aJ (bu 4 (eZ 4 0 (bo 8) (ae (fL dR (ae (ag 1) ak)) (ae (ag 2) (ae (ag 3) ak)))))
 (bV (MP (gB (aL D9 (iU 1 (dU 20) (ae (ag 4) ak)) (gC (.int 61)))) (ag 4) (bR (ae (gC (.str "end")) (ae (bR (ae (gC (.int 0)) ak)) ak))))))
noncomputable def d6:List U→R (U×U):=iD 5 gq
noncomputable abbrev jo:Gm:=⟨[true,false,false,false],true,fun _=>False⟩
noncomputable def jq:Ev→SR:=(aJ (bu 2 (aL b9 (gC (.int 1)) (eZ 2 0 aq (ae (gC (.int 5)) ak))))
 (aJ (bu 3 (pE jo (fN (ae (aL b9 (gC (.int 1)) (eZ 2 0 aq (ae (ag 1) ak))) ak)) [none,some 0,some 2] (dw 0) du (eZ 2 1 eK (ae (ag 2) ak))))
 (bV (fL dR (ae (ag 3) ak)))))
noncomputable def fS:List U→R (U×U):=iD 4 jq
noncomputable abbrev lB:Gm:=⟨[false,false,false,false],false,fun _=>False⟩
noncomputable def d7:Nat→Ev→SR
 |0=>fun _=>.stk
 |n+1=>let r__law_depth:=fZ .S 4 (d7 n)
  (aJ (iV (gB (aL (fR id) (aL fF (ag 0) (gC (.int 0))) (gC (.str "end")))) (bV (gC (.int 0))) bT)
 (aJ (bu 2 (cD ak))
 (aJ (iV (uw (gB (aL (fR id) (aL fF (ag 0) (gC (.int 0))) (gC (.str "look")))) (gB (aL (fR id) (fL iE (ae (aL fF (ag 0) (gC (.int 1))) ak)) (gC (.int 1))))) (bu 2 (gy (fM (aL fF (ag 0) (gC (.int 2)))) [none] (dw 0) du (aL fF (ag 0) (gC (.int 1))))) bT)
 (aJ (iV (uw (gB (aL (fR id) (aL fF (ag 0) (gC (.int 0))) (gC (.str "mix")))) (gB (aL (qz id) (aL fF (ag 0) (gC (.int 1))) (ag 1)))) (bu 2 (cD (ae (aL fF (ag 0) (gC (.int 2))) ak))) bT)
 (aJ (bu 3 (gy (fM (ag 2)) [none,some 1] (dw 0) du (iU 2 r__law_depth (ae (ag 0) (ae (ag 1) ak)))))
 (aJ (iV (Hs (gB (aL (zU id) (ag 3) (cD ak))) (gB (aL (qz id) (gC .non) (ag 3)))) (bV (gC .non)) bT)
 (bV (aL b9 (gC (.int 1)) (fL ql (ae (ag 3) ak))))))))))
noncomputable def bB (n:Nat):List U→R U:=fZ .S 4 (d7 n)
noncomputable abbrev nH:Gm:=⟨[false,false],false,fun _=>False⟩
noncomputable def eQ:Nat→Ev→SR
 |0=>fun _=>.stk
 |n+1=>let r__law_same:=fZ .S 2 (eQ n)
  (aJ (iV (gB (wC "tuple" "list" (ag 1))) (aJ (iV (Hs (gB (aL (zU not) (mT "tuple" (ag 0)) (mT "tuple" (ag 1)))) (gB (aL (zU not) (mT "list" (ag 0)) (mT "list" (ag 1))))) (bV (gC (.bl false))) bT)
 (aJ (iV (gB (aL (zU not) (fL iE (ae (ag 0) ak)) (fL iE (ae (ag 1) ak)))) (bV (gC (.bl false))) bT)
 (bV (fL HF (ae (gy (HP (ae (ag 0) (ae (ag 1) ak))) [none,none] (rh 2 (g_ (dw 0) (g_ (dw 1) rg))) du (iU 2 r__law_same (ae (ag 0) (ae (ag 1) ak)))) ak))))) bT)
 (bV (D1 (aL (zU id) (ag 0) (ag 1)) (aL (zU id) (mT "bool" (ag 0)) (mT "bool" (ag 1))))))
noncomputable def dq (n:Nat):List U→R U:=fZ .S 2 (eQ n)
noncomputable abbrev iX:Gm:=⟨[false,false,false,false],false,fun _=>False⟩
noncomputable def cP:Nat→Ev→SR
 |0=>fun _=>.stk
 |n+1=>let r__law_shuffles:=fZ .S 4 (cP n)
  (aJ (iV (gB (aL (qz id) (aL fF (ag 0) (gC (.int 0))) (bR (ae (gC (.str "end")) (ae (gC (.str "again")) ak))))) (bV (cD ak)) bT)
 (aJ (iV (gB (aL (fR id) (aL fF (ag 0) (gC (.int 0))) (gC (.str "look")))) (aJ (bu 1 (cD ak))
 (aJ (kF (fM (aL fF (ag 0) (gC (.int 2)))) (rh 2 (g_ (dw 2) (g_ (dw 3) rg)))
 (bu 1 (aL b9 (ag 1) (iU 1 r__law_shuffles (ae (ag 3) ak)))))
 (bV (ag 1)))) bT)
 (bV (aL b9 (aL nE (cD (ae (aL fF (ag 0) (gC (.int 1))) ak)) (fL AS (ae (D1 (aL (fR id) (aL fF (ag 0) (gC (.int 0))) (gC (.str "mix"))) (aL D9 (fL iE (ae (aL fF (ag 0) (gC (.int 1))) ak)) (gC (.int 7)))) ak))) (iU 1 r__law_shuffles (ae (aL fF (ag 0) (gC (.int 2))) ak))))))
noncomputable def cf (n:Nat):List U→R U:=fZ .S 4 (cP n)
noncomputable abbrev fI:Gm:=⟨[true,false,false,false,false,false,false],true,fun _=>False⟩
noncomputable def dD:Nat→Ev→SR
 |0=>fun _=>.stk
 |n+1=>let r__law_single:=iD 7 (dD n)
  (aJ (bu 3 (eZ 2 0 aq (ae (gC (.int 3)) ak)))
 (aJ (iV (Hs (gB (aL (fR id) (ag 2) (gC (.int 0)))) (gB (aL (fR id) (ag 3) (gC (.int 0))))) (bV (bR (ae (gC (.str "end")) (ae (jx i6 (eZ 2 0 aI (ae (ag 1) ak)) cn (bS (aL b9 (gC (.int 1)) (eZ 2 0 aq (ae (ag 1) ak))))) ak)))) bT)
 (aJ (iV (gB (aL (fR id) (ag 3) (gC (.int 1)))) (aJ (bu 4 (eZ 2 0 aI (ae (ag 1) ak)))
 (aJ (bu 5 (aL fF (cD (ae (bR (ae (ag 4) ak)) (ae (bR (ae (ag 4) (ae (eZ 2 0 aI (ae (ag 1) ak)) ak))) ak))) (eZ 2 0 aq (ae (gC (.int 2)) ak))))
 (bV (bR (ae (gC (.str "mix")) (ae (ag 5) (ae (eZ 3 0 r__law_single (ae (ag 1) (ae (aL mf (ag 2) (gC (.int 1))) ak))) ak))))))) bT)
 (aJ (bu 6 (pE fI (fN (ae (aL b9 (gC (.int 1)) (eZ 2 0 aq (ae (gC (.int 3)) ak))) ak)) [none,some 0,some 1,some 2] (dw 0) du (bR (ae (bR (ae (ag 0) ak)) (ae (eZ 3 1 r__law_single (ae (ag 2) (ae (aL mf (ag 3) (gC (.int 1))) ak))) ak)))))
 (bV (bR (ae (gC (.str "look")) (ae (bR (ae (eZ 2 0 aq (ae (ag 1) ak)) ak)) (ae (fL df (ae (ag 6) ak)) ak)))))))))
noncomputable def cy (n:Nat):List U→R (U×U):=iD 7 (dD n)
noncomputable abbrev KG:Gm:=⟨[false,false,true,false,false,false,false,false,false,false],false,fun _=>False⟩
noncomputable def Co:Ev→SR:=(aJ (kF (fN (ae (fL uE (ae (gC (.int 1)) (ae (fL rm (ae (fL iE (ae (ag 0) ak)) (ae (gC (.int 4)) ak))) ak))) ak)) (dw 1)
 (aJ (bu 2 (iU 2 d5 (ae (ag 0) (ae (ag 1) ak))))
 (aJ (bu 3 (eZ 2 2 fS (ae (gC (.int 3)) ak)))
 (aJ (bu 4 (fL iE (ae (aL fF (ag 3) (gC (.int 0))) ak)))
 (kF (fM (cD (ae (eZ 4 2 d6 (ae (ag 3) (ae (gC (.int 4)) (ae (aL (fR id) (eZ 2 2 aq (ae (gC (.int 3)) ak)) (gC (.int 0))) ak)))) (ae (eZ 3 2 (cy 6) (ae (ag 4) (ae (gC (.int 3)) ak))) ak)))) (dw 5)
 (aJ (bu 6 (jx i6 (iU 1 (cf 20) (ae (ag 5) ak)) cn (bS (gC (.int 3)))))
 (aJ (bu 7 (bR (ae (eZ 2 2 aI (ae (ag 4) ak)) ak)))
 (aJ (bu 8 (cD (ae (jx i6 (fL df (ae (aL b9 (ag 6) (cD (ae (ag 7) ak))) ak)) cn (bS (gC (.int 3)))) (ae (fL df (ae (aL b9 (jx i6 (ag 6) (bS (gC (.int 1))) cn) (cD (ae (ag 7) ak))) ak)) (ae (bR (ae (ag 7) ak)) (ae (jx i6 (fL df (ae (aL b9 (EG (ag 6)) (cD (ae (ag 7) ak))) ak)) cn (bS (gC (.int 3)))) ak))))))
 (kF (fM (ag 8)) (dw 9)
 (iV (ze (gB (iU 2 (dq 20) (ae (iU 2 (cI 20) (ae (ag 5) (ae (ag 9) ak))) (ae (iU 2 (bB 20) (ae (ag 5) (ae (ag 9) ak))) ak))))) (bV (gC (.bl false))) bT))))))))))
 (bV (gC (.bl true))))
noncomputable def vx:List U→R U:=fZ .S 10 Co
end Hc
end
namespace Hc
open L2
noncomputable def top (i:Nat):Stmt:=PySem.Challenge.pw_hushcards_k71_plans_of_a_menu.main.body.getD i (.Pass ⟨0,0,0,0⟩)
noncomputable abbrev cK:Stmt:=top 1
noncomputable abbrev cg:Stmt:=top 3
noncomputable abbrev cQ:Stmt:=top 4
noncomputable abbrev dB:Stmt:=top 5
noncomputable abbrev dJ:Stmt:=top 6
noncomputable abbrev cA:Stmt:=top 7
noncomputable abbrev di:Stmt:=top 8
noncomputable abbrev bb:Stmt:=top 9
noncomputable abbrev eE:Stmt:=top 10
noncomputable abbrev cv:Stmt:=top 11
noncomputable abbrev cL:Stmt:=top 12
noncomputable abbrev cV:Stmt:=top 13
noncomputable abbrev cR:Stmt:=top 14
noncomputable abbrev dj:Stmt:=top 15
noncomputable abbrev bQ:Stmt:=top 16
noncomputable abbrev cW:Stmt:=top 17
noncomputable abbrev bp:Stmt:=top 18
noncomputable abbrev bC:Stmt:=top 19
noncomputable abbrev ki:Stmt:=top 20
theorem fT:bq ["plan","menu","inner","depths"] ["plan","menu"] (ah cK):=⟨rfl,rfl,rfl,by decide +kernel,rfl,by decide +kernel,by decide +kernel⟩
theorem nI (kV eR pm:Uz)(an:Option UY)(bD ct:Uz)(us:List Uz)(hl:us.length=(["plan","menu"]:List Str).length):Wm (US "depth_in" "depth_in" (aD cK) (az cK) (ah cK) .none kV eR pm an bD ct) ⟨us,[]⟩=pure ((["plan","menu"]:List Str).zip us):=match us,hl with|[_,_],_=>rfl
theorem n6:bq ["script","k"] ["script","k"] (ah cg):=⟨rfl,rfl,rfl,by decide +kernel,rfl,by decide +kernel,by decide +kernel⟩
theorem n9 (kV eR pm:Uz)(an:Option UY)(bD ct:Uz)(us:List Uz)(hl:us.length=(["script","k"]:List Str).length):Wm (US "_law_cell_at" "_law_cell_at" (aD cg) (az cg) (ah cg) .none kV eR pm an bD ct) ⟨us,[]⟩=pure ((["script","k"]:List Str).zip us):=match us,hl with|[_,_],_=>rfl
theorem jW:bq ["script","k","cell"] ["script","k"] (ah cQ):=⟨rfl,rfl,rfl,by decide +kernel,rfl,by decide +kernel,by decide +kernel⟩
theorem qI (kV eR pm:Uz)(an:Option UY)(bD ct:Uz)(us:List Uz)(hl:us.length=(["script","k"]:List Str).length):Wm (US "_law_state" "_law_state" (aD cQ) (az cQ) (ah cQ) .none kV eR pm an bD ct) ⟨us,[]⟩=pure ((["script","k"]:List Str).zip us):=match us,hl with|[_,_],_=>rfl
theorem gr:bq ["state","many","found","mixed"] ["state","many"] (ah dB):=⟨rfl,rfl,rfl,by decide +kernel,rfl,by decide +kernel,by decide +kernel⟩
theorem tJ (kV eR pm:Uz)(an:Option UY)(bD ct:Uz)(us:List Uz)(hl:us.length=(["state","many"]:List Str).length):Wm (US "_law_take" "_law_take" (aD dB) (az dB) (ah dB) .none kV eR pm an bD ct) ⟨us,[]⟩=pure ((["state","many"]:List Str).zip us):=match us,hl with|[_,_],_=>rfl
theorem nJ:bq ["state","many","way"] ["state","many"] (ah dJ):=⟨rfl,rfl,rfl,by decide +kernel,rfl,by decide +kernel,by decide +kernel⟩
theorem vy (kV eR pm:Uz)(an:Option UY)(bD ct:Uz)(us:List Uz)(hl:us.length=(["state","many"]:List Str).length):Wm (US "_law_row" "_law_row" (aD dJ) (az dJ) (ah dJ) .none kV eR pm an bD ct) ⟨us,[]⟩=pure ((["state","many"]:List Str).zip us):=match us,hl with|[_,_],_=>rfl
theorem jX:bq ["state","many","left"] ["state","many"] (ah cA):=⟨rfl,rfl,rfl,by decide +kernel,rfl,by decide +kernel,by decide +kernel⟩
theorem qJ (kV eR pm:Uz)(an:Option UY)(bD ct:Uz)(us:List Uz)(hl:us.length=(["state","many"]:List Str).length):Wm (US "_law_order" "_law_order" (aD cA) (az cA) (ah cA) .none kV eR pm an bD ct) ⟨us,[]⟩=pure ((["state","many"]:List Str).zip us):=match us,hl with|[_,_],_=>rfl
theorem tK:bq ["row","order"] ["row","order"] (ah di):=⟨rfl,rfl,rfl,by decide +kernel,rfl,by decide +kernel,by decide +kernel⟩
theorem tL (kV eR pm:Uz)(an:Option UY)(bD ct:Uz)(us:List Uz)(hl:us.length=(["row","order"]:List Str).length):Wm (US "_law_laid" "_law_laid" (aD di) (az di) (ah di) .none kV eR pm an bD ct) ⟨us,[]⟩=pure ((["row","order"]:List Str).zip us):=match us,hl with|[_,_],_=>rfl
theorem a_:bq ["state","many","stays","way","order","half","some","size","k","longer"] ["state","many"] (ah bb):=⟨rfl,rfl,rfl,by decide +kernel,rfl,by decide +kernel,by decide +kernel⟩
theorem n_ (kV eR pm:Uz)(an:Option UY)(bD ct:Uz)(us:List Uz)(hl:us.length=(["state","many"]:List Str).length):Wm (US "_law_shuffle" "_law_shuffle" (aD bb) (az bb) (ah bb) .none kV eR pm an bD ct) ⟨us,[]⟩=pure ((["state","many"]:List Str).zip us):=match us,hl with|[_,_],_=>rfl
theorem nK:bq ["state","many","order"] ["state","many"] (ah eE):=⟨rfl,rfl,rfl,by decide +kernel,rfl,by decide +kernel,by decide +kernel⟩
theorem vz (kV eR pm:Uz)(an:Option UY)(bD ct:Uz)(us:List Uz)(hl:us.length=(["state","many"]:List Str).length):Wm (US "_law_end" "_law_end" (aD eE) (az eE) (ah eE) .none kV eR pm an bD ct) ⟨us,[]⟩=pure ((["state","many"]:List Str).zip us):=match us,hl with|[_,_],_=>rfl
theorem bX:bq ["state","rows","deep","again","many","places","seen","ways","some","left","more"] ["state","rows","deep","again"] (ah cv):=⟨rfl,rfl,rfl,by decide +kernel,rfl,by decide +kernel,by decide +kernel⟩
theorem lC (kV eR pm:Uz)(an:Option UY)(bD ct:Uz)(us:List Uz)(hl:us.length=(["state","rows","deep","again"]:List Str).length):Wm (US "_law_look" "_law_look" (aD cv) (az cv) (ah cv) .none kV eR pm an bD ct) ⟨us,[]⟩=pure ((["state","rows","deep","again"]:List Str).zip us):=match us,hl with|[_,_,_,_],_=>rfl
theorem cX:bq ["state","rows","deep","again","many","way","order","shuffle","fresh"] ["state","rows","deep","again"] (ah cL):=⟨rfl,rfl,rfl,by decide +kernel,rfl,by decide +kernel,by decide +kernel⟩
theorem lD (kV eR pm:Uz)(an:Option UY)(bD ct:Uz)(us:List Uz)(hl:us.length=(["state","rows","deep","again"]:List Str).length):Wm (US "_law_plan" "_law_plan" (aD cL) (az cL) (ah cL) .none kV eR pm an bD ct) ⟨us,[]⟩=pure ((["state","rows","deep","again"]:List Str).zip us):=match us,hl with|[_,_,_,_],_=>rfl
theorem lE:bq ["plan"] ["plan"] (ah cV):=⟨rfl,rfl,rfl,by decide +kernel,rfl,by decide +kernel,by decide +kernel⟩
theorem lF (kV eR pm:Uz)(an:Option UY)(bD ct:Uz)(us:List Uz)(hl:us.length=(["plan"]:List Str).length):Wm (US "_law_size" "_law_size" (aD cV) (az cV) (ah cV) .none kV eR pm an bD ct) ⟨us,[]⟩=pure ((["plan"]:List Str).zip us):=match us,hl with|[_],_=>rfl
theorem jY:bq ["state","rows","deep","again","plan"] ["state","rows","deep","again"] (ah cR):=⟨rfl,rfl,rfl,by decide +kernel,rfl,by decide +kernel,by decide +kernel⟩
theorem qK (kV eR pm:Uz)(an:Option UY)(bD ct:Uz)(us:List Uz)(hl:us.length=(["state","rows","deep","again"]:List Str).length):Wm (US "_law_drawn" "_law_drawn" (aD cR) (az cR) (ah cR) .none kV eR pm an bD ct) ⟨us,[]⟩=pure ((["state","rows","deep","again"]:List Str).zip us):=match us,hl with|[_,_,_,_],_=>rfl
theorem iR:bq ["state","most","many","rows"] ["state","most"] (ah dj):=⟨rfl,rfl,rfl,by decide +kernel,rfl,by decide +kernel,by decide +kernel⟩
theorem tM (kV eR pm:Uz)(an:Option UY)(bD ct:Uz)(us:List Uz)(hl:us.length=(["state","most"]:List Str).length):Wm (US "_law_rows" "_law_rows" (aD dj) (az dj) (ah dj) .none kV eR pm an bD ct) ⟨us,[]⟩=pure ((["state","most"]:List Str).zip us):=match us,hl with|[_,_],_=>rfl
theorem dE:bq ["plan","menu","parts","depths"] ["plan","menu"] (ah bQ):=⟨rfl,rfl,rfl,by decide +kernel,rfl,by decide +kernel,by decide +kernel⟩
theorem jZ (kV eR pm:Uz)(an:Option UY)(bD ct:Uz)(us:List Uz)(hl:us.length=(["plan","menu"]:List Str).length):Wm (US "_law_depth" "_law_depth" (aD bQ) (az bQ) (ah bQ) .none kV eR pm an bD ct) ⟨us,[]⟩=pure ((["plan","menu"]:List Str).zip us):=match us,hl with|[_,_],_=>rfl
theorem lG:bq ["found","due"] ["found","due"] (ah cW):=⟨rfl,rfl,rfl,by decide +kernel,rfl,by decide +kernel,by decide +kernel⟩
theorem lH (kV eR pm:Uz)(an:Option UY)(bD ct:Uz)(us:List Uz)(hl:us.length=(["found","due"]:List Str).length):Wm (US "_law_same" "_law_same" (aD cW) (az cW) (ah cW) .none kV eR pm an bD ct) ⟨us,[]⟩=pure ((["found","due"]:List Str).zip us):=match us,hl with|[_,_],_=>rfl
theorem cB:bq ["plan","found","seen","part"] ["plan"] (ah bp):=⟨rfl,rfl,rfl,by decide +kernel,rfl,by decide +kernel,by decide +kernel⟩
theorem iI (kV eR pm:Uz)(an:Option UY)(bD ct:Uz)(us:List Uz)(hl:us.length=(["plan"]:List Str).length):Wm (US "_law_shuffles" "_law_shuffles" (aD bp) (az bp) (ah bp) .none kV eR pm an bD ct) ⟨us,[]⟩=pure ((["plan"]:List Str).zip us):=match us,hl with|[_],_=>rfl
theorem dk:bq ["state","many","deep","way","order","shuffle","ways"] ["state","many","deep"] (ah bC):=⟨rfl,rfl,rfl,by decide +kernel,rfl,by decide +kernel,by decide +kernel⟩
theorem jr (kV eR pm:Uz)(an:Option UY)(bD ct:Uz)(us:List Uz)(hl:us.length=(["state","many","deep"]:List Str).length):Wm (US "_law_single" "_law_single" (aD bC) (az bC) (ah bC) .none kV eR pm an bD ct) ⟨us,[]⟩=pure ((["state","many","deep"]:List Str).zip us):=match us,hl with|[_,_,_],_=>rfl
theorem iq:bq ["script","k","state","rows","many","plan","some","order","menus","menu"] ["script"] (ah ki):=⟨rfl,rfl,rfl,by decide +kernel,rfl,by decide +kernel,by decide +kernel⟩
theorem Nl (kV eR pm:Uz)(an:Option UY)(bD ct:Uz)(us:List Uz)(hl:us.length=(["script"]:List Str).length):Wm (US "law" "law" (aD ki) (az ki) (ah ki) .none kV eR pm an bD ct) ⟨us,[]⟩=pure ((["script"]:List Str).zip us):=match us,hl with|[_],_=>rfl
structure tN (mg:Str→Option Uz):Prop where
 z_all:mg "all"=none
 z_bool:mg "bool"=none
 z_int:mg "int"=none
 z_isinstance:mg "isinstance"=none
 z_len:mg "len"=none
 z_list:mg "list"=none
 z_max:mg "max"=none
 z_min:mg "min"=none
 z_range:mg "range"=none
 z_set:mg "set"=none
 z_sorted:mg "sorted"=none
 z_sum:mg "sum"=none
 z_tuple:mg "tuple"=none
 z_zip:mg "zip"=none
end Hc
namespace Hc
open L2
section
variable {base:Xi}
theorem vA (T:tN mg)  (fD:Df K mg "depth_in" cK):∀n,Fn P w K mg base "depth_in" (n+1) ["plan","menu"] (ud K 2 (cI n) .S):=by
 intro n
 induction n with
 |zero =>
  refine Df.fnD (N:=["plan","menu","inner","depths"]) (ps:=["plan","menu"]) (st:=cK) (k:=0) qo .S (fA 0) fD fT nI rfl (by decide) ?_
  intro f bD A outer s0 H E hr
  have hu:=hr.units
  have ky:=de hr
  exact gX
 |succ n kr =>
  refine Df.fnD (N:=["plan","menu","inner","depths"]) (ps:=["plan","menu"]) (st:=cK) (k:=n+1) qo .S (fA (n+1)) fD fT nI rfl (by decide) ?_
  intro f bD A outer s0 H E hr
  have hu:=hr.units
  have ky:=de hr
  exact (aj (cu (aT d_ bJ (br aQ aR (ao 0) ai (fun _ _=>rfl)) cM (aV _)) (av (aK ai)) aX)
 (aj (cu (DW.dt (pf (aT d_ bJ (br aQ aR (ao 0) ai (fun _ _=>rfl)) cM (aV _)) (kD (aT (mI hu) kg (br aQ aR (ao 0) ai (fun _ _=>rfl)) (ao 1) (by with_unfolding_all rfl))))) (av (bj (i:=2) fT.nd (cN (aa (br aQ aR (ao 0) ai (fun _ _=>rfl)) af)))) (av (cu (DW.dt (pf (aT d_ bJ (br aQ aR (ao 0) ai (fun _ _=>rfl)) cM (aV _)) (kD (aT d_ bJ (bw dz eD (by rfl) T.z_len fY (aa (br aQ aR (ao 0) ai (fun _ _=>rfl)) af)) ai (aV _))))) (av (iC (i:=2) (ah cK) ["plan","menu","inner","depths"] ["way"] [none] fT.nd rfl (dG (br aQ aR (ao 0) ai (fun _ _=>rfl))) (fun Y=>⟨(aW (i:=0) (show (["way"]:List Str).Nodup by decide +kernel)),bx,(br aQ aR (ao 0) ai (fun _ _=>rfl))⟩))) (av (aK pb)))))
 (aj (iC (i:=3) (ah cK) ["plan","menu","inner","depths"] ["part","menu"] [none,some 1] fT.nd rfl (dG (ao 2)) (fun Y=>⟨(aW (i:=0) (show (["part","menu"]:List Str).Nodup by decide +kernel)),bx,(bM kr (hr.mono (by first|decide|lia)) (aa (ao 0) (aa (ao 1) af)))⟩))
 (aj (cu (aT (mI hu) kg pb (ao 3) (by with_unfolding_all rfl)) (av (aK pb)) aX)
 (av (aK (aS bf bg ai (bw (rV rfl) vp (by rfl) T.z_max wa (aa (ao 3) af)))))))))
theorem og (T:tN mg)  (dX:Df K mg "_law_cell_at" cg):Fn P w K mg base "_law_cell_at" 1 ["script","k"] (ud K 2 dh .S):=by
 refine Df.fnD (N:=["script","k"]) (ps:=["script","k"]) (st:=cg) (k:=0) qp .S fi dX n6 n9 rfl (by decide) ?_
 intro f bD A outer s0 H E hr
 have hu:=hr.units
 have ky:=de hr
 exact (aj (cu (aT oN j4 (ao 1) (bw dz eD (by rfl) T.z_len fY (aa (ao 0) af)) (aV _)) (av (aK (br aQ aR (ao 0) (ao 1) (fun _ _=>rfl)))) aX)
 (av (aK ai)))
theorem qL (T:tN mg)(gI:Fn P w K mg base "_law_cell_at" 1 ["script","k"] (ud K 2 dh .S))(fk:Df K mg "_law_state" cQ):Fn P w K mg base "_law_state" 2 ["script","k"] (ud K 2 d5 .O):=by
 refine Df.fnD (N:=["script","k","cell"]) (ps:=["script","k"]) (st:=cQ) (k:=1) tG .O gp fk jW qI rfl (by decide) ?_
 intro f bD A outer s0 H E hr
 have hu:=hr.units
 have ky:=de hr
 exact (aj (bj (i:=2) jW.nd (bM gI (hr.mono (by first|decide|lia)) (aa (ao 0) (aa (ao 1) af))))
 (aj (cu (aT JI HG (ao 2) (aS Af xA ai ai) (aV _)) (av (xr (cN (aa (aS j1 iM (ao 2) (aS Af xA ai ai)) (aa q_ af))))) aX)
 (av (xr (cN (aa (aS lU jA (ao 2) ai) (aa q_ af)))))))
theorem tP (T:tN mg)  (fV:Df K mg "_law_take" dB):Fn P w K mg base "_law_take" 1 ["state","many"] (lS K 2 aq):=by
 refine Df.fnI (N:=["state","many","found","mixed"]) (ps:=["state","many"]) (st:=dB) (k:=0) vv gY fV gr tJ rfl rfl (by decide) ?_
 intro f bD A outer s0 H E hr
 have hu:=hr.units
 have ky:=de hr
 exact (aj (cu (sG (br aQ aR (g9 0) ai (fun _ _=>rfl))) (aj (bj (i:=2) gr.nd (aS lU jA (br aQ aR (g9 0) ai (fun _ _=>rfl)) (ao 1)))
 (aj (xx (i:=0) (aS lY pG (br aQ aR (g9 0) ai (fun _ _=>rfl)) (ao 1)) ai)
 (av (aK (ao 2))))) aX)
 (aj (xx (i:=0) (aS lU jA (aS bf bg (aS ja gW (br aQ aR (g9 0) ai (fun _ _=>rfl)) ai) ai) ai) ai)
 (aj (bj (i:=3) gr.nd (aS lU jA (aS bf bg (aS bf bg (aS ja gW (br aQ aR (g9 0) ai (fun _ _=>rfl)) (br aQ aR (g9 0) ai (fun _ _=>rfl))) (aS ja gW ai (br aQ aR (g9 0) ai (fun _ _=>rfl)))) ai) ai))
 (aj (bj (i:=3) gr.nd (aS lU jA (aS bf bg (aS ja gW (ao 3) (ao 3)) (aS ja gW ai (ao 3))) ai))
 (av (aK (aS lU jA (aS lY pG (ao 3) ai) (ao 1))))))))
theorem vB (T:tN mg)(au:Fn P w K mg base "_law_take" 1 ["state","many"] (lS K 2 aq))(gJ:Df K mg "_law_row" dJ):Fn P w K mg base "_law_row" 2 ["state","many"] (lS K 2 eK):=by
 refine Df.fnI (N:=["state","many","way"]) (ps:=["state","many"]) (st:=dJ) (k:=1) fB iO gJ nJ vy rfl rfl (by decide) ?_
 intro f bD A outer s0 H E hr
 have hu:=hr.units
 have ky:=de hr
 exact (aj (bj (i:=2) nJ.nd (aw (i:=0) au (hr.mono (by first|decide|lia)) (aa ai af)))
 (aj (cu (aT oN j4 (ao 2) ai (aV _)) (av (aK (bP ba cz (by rfl) T.z_tuple bZ (aa (pF (ah dJ) ["state","many","way"] ["k","state"] [none,some 0] rfl (dC (aa (ao 1) af) T.z_range) (fun Y=>⟨(aW (i:=0) (show (["k","state"]:List Str).Nodup by decide +kernel)),bx,(aw (i:=1) au (hr.mono (by first|decide|lia)) (aa ai af))⟩)) af)))) aX)
 (av (aK (bP ba cz (by rfl) T.z_tuple bZ (aa (pF (ah dJ) ["state","many","way"] ["k","state","way"] [none,some 0,some 2] rfl (dC (aa (ao 1) af) T.z_range) (fun Y=>⟨(aW (i:=0) (show (["k","state","way"]:List Str).Nodup by decide +kernel)),bx,(aw (i:=1) au (hr.mono (by first|decide|lia)) (aa (br aQ aR (cN (aa ai (aa ai af))) (aS j1 iM (ao 2) ai) (fun _ _=>rfl)) af))⟩)) af))))))
theorem qM (T:tN mg)(au:Fn P w K mg base "_law_take" 1 ["state","many"] (lS K 2 aq))(fm:Df K mg "_law_order" cA):Fn P w K mg base "_law_order" 2 ["state","many"] (lS K 2 aI):=by
 refine Df.fnI (N:=["state","many","left"]) (ps:=["state","many"]) (st:=cA) (k:=1) iP iQ fm jX qJ rfl rfl (by decide) ?_
 intro f bD A outer s0 H E hr
 have hu:=hr.units
 have ky:=de hr
 exact (aj (jy (i:=2) jX.nd (Ea rfl (aa (ao 1) af) T.z_list T.z_range))
 (av (aK (bP ba cz (by rfl) T.z_tuple bZ (aa (pF (ah cA) ["state","many","left"] ["k","left","state"] [none,some 2,some 0] rfl (dC (aa (ao 1) af) T.z_range) (fun Y=>⟨(aW (i:=0) (show (["k","left","state"]:List Str).Nodup by decide +kernel)),bx,(sL (i:=1) Xl PySem.F.slot_list_pop PySem.F.type_list_pop Ap zk (aa (aw (i:=2) au (hr.mono (by first|decide|lia)) (aa (bw dz eD (by rfl) T.z_len fY (aa (g9 1) af)) af)) af))⟩)) af)))))
theorem tQ (T:tN mg)  (fW:Df K mg "_law_laid" di):Fn P w K mg base "_law_laid" 1 ["row","order"] (ud K 2 bF .S):=by
 refine Df.fnD (N:=["row","order"]) (ps:=["row","order"]) (st:=di) (k:=0) vw .S jn fW tK tL rfl (by decide) ?_
 intro f bD A outer s0 H E hr
 have hu:=hr.units
 have ky:=de hr
 exact (av (aK (bP ba cz (by rfl) T.z_tuple bZ (aa (iL (ah di) ["row","order"] ["place","row"] [none,some 0] rfl (dG (ao 1)) (fun Y=>⟨(aW (i:=0) (show (["place","row"]:List Str).Nodup by decide +kernel)),bx,(br aQ aR (ao 1) (ao 0) (fun _ _=>rfl))⟩)) af))))
theorem oh (T:tN mg)(au:Fn P w K mg base "_law_take" 1 ["state","many"] (lS K 2 aq))(aP:Fn P w K mg base "_law_order" 2 ["state","many"] (lS K 2 aI))(dY:Df K mg "_law_shuffle" bb):Fn P w K mg base "_law_shuffle" 3 ["state","many"] (lS K 2 aO):=by
 refine Df.fnI (N:=["state","many","stays","way","order","half","some","size","k","longer"]) (ps:=["state","many"]) (st:=bb) (k:=2) gG cJ dY a_ n_ rfl rfl (by decide) ?_
 intro f bD A outer s0 H E hr
 have hu:=hr.units
 have ky:=de hr
 exact (aj (bj (i:=2) a_.nd (Eb rfl (aa (ao 1) af) T.z_tuple T.z_range))
 (aj (bj (i:=3) a_.nd (aw (i:=0) au (hr.mono (by first|decide|lia)) (aa ai af)))
 (aj (cu (aT d_ bJ (ao 3) ai (aV _)) (av (aK (bP ba cz (by rfl) T.z_tuple bZ (aa (iL (ah bb) ["state","many","stays","way","order","half","some","size","k","longer"] ["k","stays"] [none,some 2] rfl (dC (aa (ao 1) af) T.z_range) (fun Y=>⟨(aW (i:=0) (show (["k","stays"]:List Str).Nodup by decide +kernel)),bx,(aS bf bg (cF cH eH (ao 1) (c_ (ao 0)) dI) (cF cH eH (ao 1) dI (c_ (ao 0))))⟩)) af)))) aX)
 (aj (cu (aT d_ bJ (ao 3) ai (aV _)) (aj (bj (i:=4) a_.nd (aw (i:=0) aP (hr.mono (by first|decide|lia)) (aa (ao 1) af)))
 (av (aK (cb (aa (ao 2) (aa (ao 4) af)))))) aX)
 (aj (cu (aT d_ bJ (ao 3) ai (aV _)) (aj (bj (i:=5) a_.nd (aS lY pG (ao 1) ai))
 (av (aK (cb (aa (ao 2) (aa (aS bf bg (aS bf bg (cF cH eH (ao 2) (c_ (ao 5)) (c_ (aS ja gW ai (ao 5)))) (cF cH eH (ao 2) dI (c_ (ao 5)))) (cF cH eH (ao 2) (c_ (aS ja gW ai (ao 5))) dI)) af)))))) aX)
 (aj (cu (aT d_ bJ (ao 3) ai (aV _)) (aj (bj (i:=6) a_.nd (cN (aa (cb af) af)))
 (aj (bj (i:=7) a_.nd (bw (qQ rfl) uF (by rfl) T.z_min Ay (aa (ao 1) (aa (aS bf bg ai (aw (i:=0) au (hr.mono (by first|decide|lia)) (aa ai af))) af))))
 (aj (je WS rfl (dC (aa (ao 7) af) T.z_range) (aW (i:=8) a_.nd)
 (aj (jy (i:=9) a_.nd (cN af))
 (aj (je WS rfl (dG (ao 6)) (aW (i:=4) a_.nd)
 (av (sN (sL (i:=9) Xl Zv Zw xD pJ (aa (iL (ah bb) ["state","many","stays","way","order","half","some","size","k","longer"] ["j","order","k"] [none,some 4,some 8] rfl (dC (aa (aS bf bg (ao 8) ai) af) T.z_range) (fun Y=>⟨(aW (i:=0) (show (["j","order","k"]:List Str).Nodup by decide +kernel)),bx,(aS bf bg (aS bf bg (cF cH eH (ao 1) dI (c_ (ao 0))) (cb (aa (ao 2) af))) (cF cH eH (ao 1) (c_ (ao 0)) dI))⟩)) af)))))
 (av (D2 (i:=6) (j:=9) a_.nd)))))
 (av (aK (bP ba cz (by rfl) T.z_tuple bZ (aa (iL (ah bb) ["state","many","stays","way","order","half","some","size","k","longer"] ["order","stays","size"] [none,some 2,some 7] rfl (dG (ao 6)) (fun Y=>⟨(aW (i:=0) (show (["order","stays","size"]:List Str).Nodup by decide +kernel)),bx,(aS bf bg (ao 0) (cF cH eH (ao 1) (c_ (ao 2)) dI))⟩)) af))))))) aX)
 (av (aK (bP ba cz (by rfl) T.z_tuple bZ (aa (pF (ah bb) ["state","many","stays","way","order","half","some","size","k","longer"] ["k","state","many"] [none,some 0,some 1] rfl (dC (aa (aS bf bg ai (aw (i:=0) au (hr.mono (by first|decide|lia)) (aa ai af))) af) T.z_range) (fun Y=>⟨(aW (i:=0) (show (["k","state","many"]:List Str).Nodup by decide +kernel)),bx,(aw (i:=1) aP (hr.mono (by first|decide|lia)) (aa (ao 2) af))⟩)) af))))))))))
theorem vC (T:tN mg)(au:Fn P w K mg base "_law_take" 1 ["state","many"] (lS K 2 aq))(aP:Fn P w K mg base "_law_order" 2 ["state","many"] (lS K 2 aI))(gK:Df K mg "_law_end" eE):Fn P w K mg base "_law_end" 3 ["state","many"] (lS K 2 eL):=by
 refine Df.fnI (N:=["state","many","order"]) (ps:=["state","many"]) (st:=eE) (k:=2) wR kh gK nK vz rfl rfl (by decide) ?_
 intro f bD A outer s0 H E hr
 have hu:=hr.units
 have ky:=de hr
 exact (aj (bj (i:=2) nK.nd (aw (i:=0) aP (hr.mono (by first|decide|lia)) (aa (ao 1) af)))
 (av (aK (cb (aa cM (aa (cF cH eH (ao 2) dI (c_ (aS bf bg ai (aw (i:=0) au (hr.mono (by first|decide|lia)) (aa (br aQ aR (cN (aa ai (aa (ao 1) af))) (aw (i:=0) au (hr.mono (by first|decide|lia)) (aa ai af)) (fun _ _=>rfl)) af))))) af))))))
theorem tR (T:tN mg)(au:Fn P w K mg base "_law_take" 1 ["state","many"] (lS K 2 aq))(aP:Fn P w K mg base "_law_order" 2 ["state","many"] (lS K 2 aI))(eT:Fn P w K mg base "_law_laid" 1 ["row","order"] (ud K 2 bF .S))(gL:Fn P w K mg base "_law_end" 3 ["state","many"] (lS K 2 eL))(gN:Fn P w K mg base "_law_shuffle" 3 ["state","many"] (lS K 2 aO))(eU:Df K mg "_law_look" cv)(eV:Df K mg "_law_plan" cL):∀n,(Fn P w K mg base "_law_look" (n+4) ["state","rows","deep","again"] (lS K 4 (g6 n)))∧(Fn P w K mg base "_law_plan" (n+4) ["state","rows","deep","again"] (lS K 4 (bo n))):=by
 intro n
 induction n with
 |zero =>
  refine⟨?_,?_⟩
  ·
   refine Df.fnI (N:=["state","rows","deep","again","many","places","seen","ways","some","left","more"]) (ps:=["state","rows","deep","again"]) (st:=cv) (k:=3) gZ (eO 0) eU bX lC rfl rfl (by decide) ?_
   intro f bD A outer s0 H E hr
   have hu:=hr.units
   have ky:=de hr
   exact gX
  ·
   refine Df.fnI (N:=["state","rows","deep","again","many","way","order","shuffle","fresh"]) (ps:=["state","rows","deep","again"]) (st:=cL) (k:=3) nF (bG 0) eV cX lD rfl rfl (by decide) ?_
   intro f bD A outer s0 H E hr
   have hu:=hr.units
   have ky:=de hr
   exact gX
 |succ n ih =>
  obtain⟨nR,dZ⟩:=ih
  refine⟨?_,?_⟩
  ·
   refine Df.fnI (N:=["state","rows","deep","again","many","places","seen","ways","some","left","more"]) (ps:=["state","rows","deep","again"]) (st:=cv) (k:=n+4) gZ (eO (n+1)) eU bX lC rfl rfl (by decide) ?_
   intro f bD A outer s0 H E hr
   have hu:=hr.units
   have ky:=de hr
   exact (aj (bj (i:=4) bX.nd (bw dz eD (by rfl) T.z_len fY (aa (br aQ aR (ao 1) ai (fun _ _=>rfl)) af)))
 (aj (bj (i:=5) bX.nd (cF cH eH (aw (i:=0) aP (hr.mono (by first|decide|lia)) (aa (ao 4) af)) dI (c_ (aS bf bg ai (aS ja gW (aw (i:=0) au (hr.mono (by first|decide|lia)) (aa ai af)) (bP qR xC (by rfl) T.z_int Ax (aa (l_ Fb AW (ao 4) ai (aV _)) af)))))))
 (aj (bj (i:=6) bX.nd (gE rfl hu (aa (iL (ah cv) ["state","rows","deep","again","many","places","seen","ways","some","left","more"] ["row","places"] [none,some 5] rfl (dG (ao 1)) (fun Y=>⟨(aW (i:=0) (show (["row","places"]:List Str).Nodup by decide +kernel)),bx,(bM eT (hr.mono (by first|decide|lia)) (aa (ao 0) (aa (ao 1) af)))⟩)) af) T.z_sorted T.z_set))
 (aj (cu (aT Fb AW (bw dz eD (by rfl) T.z_len fY (aa (ao 6) af)) ai (aV _)) (av (aK (aw (i:=0) gL (hr.mono (by first|decide|lia)) (aa (ao 4) af)))) aX)
 (aj (jy (i:=7) bX.nd (cN af))
 (aj (je WS rfl (dG (ao 6)) (aW (i:=8) bX.nd)
 (aj (iC (i:=9) (ah cv) ["state","rows","deep","again","many","places","seen","ways","some","left","more"] ["row","some","places"] [none,some 8,some 5] bX.nd rfl (dG (ao 1)) (fun Y=>⟨(aW (i:=0) (show (["row","some","places"]:List Str).Nodup by decide +kernel)),(AN (aT (sF hu) (j3 (f:=id)) (bM eT (hr.mono (by first|decide|lia)) (aa (ao 0) (aa (ao 2) af))) (ao 1) (aV _))),(ao 0)⟩))
 (av (sN (sL (i:=7) Xl PySem.F.slot_list_append PySem.F.type_list_append yZ wu (aa (cb (aa (ao 8) (aa (aw (i:=0) dZ (hr.mono (by first|decide|lia)) (aa (ao 9) (aa (aS j1 iM (ao 2) ai) (aa (ao 3) af)))) af))) af))))))
 (aj (cu (aT d_ bJ (aw (i:=0) au (hr.mono (by first|decide|lia)) (aa ai af)) ai (aV _)) (aj (bj (i:=10) bX.nd (bP ba cz (by rfl) T.z_tuple bZ (aa (pF (ah cv) ["state","rows","deep","again","many","places","seen","ways","some","left","more"] ["place","state"] [none,some 0] rfl (dG (ao 5)) (fun Y=>⟨(aW (i:=0) (show (["place","state"]:List Str).Nodup by decide +kernel)),bx,(aw (i:=1) au (hr.mono (by first|decide|lia)) (aa ai af))⟩)) af)))
 (av (cu (aT (zJ hu) kg (ao 10) (ao 6) (by with_unfolding_all rfl)) (av (jy (i:=7) bX.nd (bw (wQ rfl hu) zI (by rfl) T.z_sorted q9 (aa (Iq (j:=7) bf bg (cN (aa (cb (aa (ao 10) (aa (aw (i:=0) gL (hr.mono (by first|decide|lia)) (aa (ao 4) af)) af))) af))) af)))) aX))) aX)
 (av (aK (cb (aa cM (aa (ao 5) (aa (bP ba cz (by rfl) T.z_tuple bZ (aa (g9 7) af)) af)))))))))))))
  ·
   refine Df.fnI (N:=["state","rows","deep","again","many","way","order","shuffle","fresh"]) (ps:=["state","rows","deep","again"]) (st:=cL) (k:=n+4) nF (bG (n+1)) eV cX lD rfl rfl (by decide) ?_
   intro f bD A outer s0 H E hr
   have hu:=hr.units
   have ky:=de hr
   exact (aj (bj (i:=4) cX.nd (bw dz eD (by rfl) T.z_len fY (aa (br aQ aR (ao 1) ai (fun _ _=>rfl)) af)))
 (aj (bj (i:=5) cX.nd (aw (i:=0) au (hr.mono (by first|decide|lia)) (aa ai af)))
 (aj (cu (DW.dt (xp (aT oN j4 (ao 2) ai (aV _)) (sH (aT d_ bJ (ao 5) ai (aV _))))) (av (aK (aw (i:=0) gL (hr.mono (by first|decide|lia)) (aa (ao 4) af)))) aX)
 (aj (cu (DW.dt (pf (aT d_ bJ (ao 5) ai (aV _)) (kD (sG (ao 3))))) (av (aK (cb (aa cM af)))) aX)
 (aj (cu (aT oN j4 (ao 5) ai (aV _)) (aj (bj (i:=6) cX.nd (aw (i:=0) aP (hr.mono (by first|decide|lia)) (aa (ao 4) af)))
 (av (aK (cb (aa cM (aa (ao 6) (aa (aw (i:=0) dZ (hr.mono (by first|decide|lia)) (aa (gE rfl hu (aa (iL (ah cL) ["state","rows","deep","again","many","way","order","shuffle","fresh"] ["row","order"] [none,some 6] rfl (dG (ao 1)) (fun Y=>⟨(aW (i:=0) (show (["row","order"]:List Str).Nodup by decide +kernel)),bx,(bM eT (hr.mono (by first|decide|lia)) (aa (ao 0) (aa (ao 1) af)))⟩)) af) T.z_sorted T.z_set) (aa (aS j1 iM (ao 2) ai) (aa (ao 3) af)))) af))))))) aX)
 (aj (cu (aT oN j4 (ao 5) ai (aV _)) (aj (bj (i:=7) cX.nd (aw (i:=0) gN (hr.mono (by first|decide|lia)) (aa (ao 4) af)))
 (aj (jy (i:=8) cX.nd (cN af))
 (aj (je WS rfl (dG (ao 7)) (aW (i:=6) cX.nd)
 (av (sN (sL (i:=8) Xl Zv Zw xD pJ (aa (iL (ah cL) ["state","rows","deep","again","many","way","order","shuffle","fresh"] ["row","order"] [none,some 6] rfl (dG (ao 1)) (fun Y=>⟨(aW (i:=0) (show (["row","order"]:List Str).Nodup by decide +kernel)),bx,(bM eT (hr.mono (by first|decide|lia)) (aa (ao 0) (aa (ao 1) af)))⟩)) af)))))
 (av (aK (cb (aa cM (aa (ao 7) (aa (aw (i:=0) dZ (hr.mono (by first|decide|lia)) (aa (gE rfl hu (aa (g9 8) af) T.z_sorted T.z_set) (aa (aS j1 iM (ao 2) ai) (aa (ao 3) af)))) af))))))))) aX)
 (av (aK (aw (i:=0) nR (hr.mono (by first|decide|lia)) (aa (ao 1) (aa (ao 2) (aa (ao 3) af))))))))))))
theorem tT (T:tN mg)  (eW:Df K mg "_law_size" cV):∀n,Fn P w K mg base "_law_size" (n+1) ["plan"] (ud K 1 (dU n) .S):=by
 intro n
 induction n with
 |zero =>
  refine Df.fnD (N:=["plan"]) (ps:=["plan"]) (st:=cV) (k:=0) nG .S (eP 0) eW lE lF rfl (by decide) ?_
  intro f bD A outer s0 H E hr
  have hu:=hr.units
  have ky:=de hr
  exact gX
 |succ n eX =>
  refine Df.fnD (N:=["plan"]) (ps:=["plan"]) (st:=cV) (k:=n+1) nG .S (eP (n+1)) eW lE lF rfl (by decide) ?_
  intro f bD A outer s0 H E hr
  have hu:=hr.units
  have ky:=de hr
  exact (aj (cu (aT (mI hu) kg (br aQ aR (ao 0) ai (fun _ _=>rfl)) (cb (aa cM (aa cM af))) (by with_unfolding_all rfl)) (av (aK (aS bf bg ai (bM eX (hr.mono (by first|decide|lia)) (aa (br aQ aR (ao 0) ai (fun _ _=>rfl)) af))))) aX)
 (aj (cu (aT d_ bJ (br aQ aR (ao 0) ai (fun _ _=>rfl)) cM (aV _)) (av (aK (aS bf bg ai (bw (zG rfl) Cf (by rfl) T.z_sum Hn (aa (iL (ah cV) ["plan"] ["way"] [none] rfl (dG (br aQ aR (ao 0) ai (fun _ _=>rfl))) (fun Y=>⟨(aW (i:=0) (show (["way"]:List Str).Nodup by decide +kernel)),bx,(bM eX (hr.mono (by first|decide|lia)) (aa (br aQ aR (ao 0) ai (fun _ _=>rfl)) af))⟩)) af))))) aX)
 (av (aK ai))))
theorem qN (T:tN mg)(dZ:∀n,Fn P w K mg base "_law_plan" (n+4) ["state","rows","deep","again"] (lS K 4 (bo n)))(eX:∀n,Fn P w K mg base "_law_size" (n+1) ["plan"] (ud K 1 (dU n) .S))(fo:Df K mg "_law_drawn" cR):Fn P w K mg base "_law_drawn" 22 ["state","rows","deep","again"] (lS K 4 d6):=by
 refine Df.fnI (N:=["state","rows","deep","again","plan"]) (ps:=["state","rows","deep","again"]) (st:=cR) (k:=21) tH gq fo jY qK rfl rfl (by decide) ?_
 intro f bD A outer s0 H E hr
 have hu:=hr.units
 have ky:=de hr
 exact (aj (bj (i:=4) jY.nd (aw (i:=0) (dZ 8) (hr.mono (by first|decide|lia)) (aa (gE rfl hu (aa (ao 1) af) T.z_sorted T.z_set) (aa (ao 2) (aa (ao 3) af)))))
 (av (aK (AG (hc:=(aT oN j4 (bM (eX 20) (hr.mono (by first|decide|lia)) (aa (ao 4) af)) ai (aV _))) (ha:=(ao 4)) (hb:=(cb (aa cM (aa (cb (aa ai af)) af))))))))
theorem tU (T:tN mg)(au:Fn P w K mg base "_law_take" 1 ["state","many"] (lS K 2 aq))(kq:Fn P w K mg base "_law_row" 2 ["state","many"] (lS K 2 eK))(fX:Df K mg "_law_rows" dj):Fn P w K mg base "_law_rows" 3 ["state","most"] (lS K 2 fS):=by
 refine Df.fnI (N:=["state","most","many","rows"]) (ps:=["state","most"]) (st:=dj) (k:=2) jo jq fX iR tM rfl rfl (by decide) ?_
 intro f bD A outer s0 H E hr
 have hu:=hr.units
 have ky:=de hr
 exact (aj (bj (i:=2) iR.nd (aS bf bg ai (aw (i:=0) au (hr.mono (by first|decide|lia)) (aa ai af))))
 (aj (rl (i:=3) (ah dj) ["state","most","many","rows"] ["k","state","many"] [none,some 0,some 2] iR.nd rfl (dC (aa (aS bf bg ai (aw (i:=0) au (hr.mono (by first|decide|lia)) (aa (ao 1) af))) af) T.z_range) (fun Y=>⟨(aW (i:=0) (show (["k","state","many"]:List Str).Nodup by decide +kernel)),bx,(aw (i:=1) kq (hr.mono (by first|decide|lia)) (aa (ao 2) af))⟩))
 (av (aK (gE rfl hu (aa (ao 3) af) T.z_sorted T.z_set)))))
theorem qO (T:tN mg)  (d9:Df K mg "_law_depth" bQ):∀n,Fn P w K mg base "_law_depth" (n+1) ["plan","menu"] (ud K 2 (bB n) .S):=by
 intro n
 induction n with
 |zero =>
  refine Df.fnD (N:=["plan","menu","parts","depths"]) (ps:=["plan","menu"]) (st:=bQ) (k:=0) lB .S (d7 0) d9 dE jZ rfl (by decide) ?_
  intro f bD A outer s0 H E hr
  have hu:=hr.units
  have ky:=de hr
  exact gX
 |succ n iT =>
  refine Df.fnD (N:=["plan","menu","parts","depths"]) (ps:=["plan","menu"]) (st:=bQ) (k:=n+1) lB .S (d7 (n+1)) d9 dE jZ rfl (by decide) ?_
  intro f bD A outer s0 H E hr
  have hu:=hr.units
  have ky:=de hr
  exact (aj (cu (aT d_ bJ (br aQ aR (ao 0) ai (fun _ _=>rfl)) cM (aV _)) (av (aK ai)) aX)
 (aj (bj (i:=2) dE.nd (cN af))
 (aj (cu (DW.dt (pf (aT d_ bJ (br aQ aR (ao 0) ai (fun _ _=>rfl)) cM (aV _)) (kD (aT d_ bJ (bw dz eD (by rfl) T.z_len fY (aa (br aQ aR (ao 0) ai (fun _ _=>rfl)) af)) ai (aV _))))) (av (iC (i:=2) (ah bQ) ["plan","menu","parts","depths"] ["way"] [none] dE.nd rfl (dG (br aQ aR (ao 0) ai (fun _ _=>rfl))) (fun Y=>⟨(aW (i:=0) (show (["way"]:List Str).Nodup by decide +kernel)),bx,(br aQ aR (ao 0) ai (fun _ _=>rfl))⟩))) aX)
 (aj (cu (DW.dt (pf (aT d_ bJ (br aQ aR (ao 0) ai (fun _ _=>rfl)) cM (aV _)) (kD (aT (mI hu) kg (br aQ aR (ao 0) ai (fun _ _=>rfl)) (ao 1) (by with_unfolding_all rfl))))) (av (bj (i:=2) dE.nd (cN (aa (br aQ aR (ao 0) ai (fun _ _=>rfl)) af)))) aX)
 (aj (iC (i:=3) (ah bQ) ["plan","menu","parts","depths"] ["part","menu"] [none,some 1] dE.nd rfl (dG (ao 2)) (fun Y=>⟨(aW (i:=0) (show (["part","menu"]:List Str).Nodup by decide +kernel)),bx,(bM iT (hr.mono (by first|decide|lia)) (aa (ao 0) (aa (ao 1) af)))⟩))
 (aj (cu (DW.dt (xp (aT (sF hu) (j3 (f:=id)) (ao 3) (cN af) (aV _)) (sH (aT (mI hu) kg pb (ao 3) (by with_unfolding_all rfl))))) (av (aK pb)) aX)
 (av (aK (aS bf bg ai (bw (rV rfl) vp (by rfl) T.z_max wa (aa (ao 3) af)))))))))))
theorem tV (T:tN mg)  (eY:Df K mg "_law_same" cW):∀n,Fn P w K mg base "_law_same" (n+1) ["found","due"] (ud K 2 (dq n) .S):=by
 intro n
 induction n with
 |zero =>
  refine Df.fnD (N:=["found","due"]) (ps:=["found","due"]) (st:=cW) (k:=0) nH .S (eQ 0) eY lG lH rfl (by decide) ?_
  intro f bD A outer s0 H E hr
  have hu:=hr.units
  have ky:=de hr
  exact gX
 |succ n jw =>
  refine Df.fnD (N:=["found","due"]) (ps:=["found","due"]) (st:=cW) (k:=n+1) nH .S (eQ (n+1)) eY lG lH rfl (by decide) ?_
  intro f bD A outer s0 H E hr
  have hu:=hr.units
  have ky:=de hr
  exact (aj (cu (sG (Bd (T1:="tuple") (T2:="list") (by decide) (by decide) (ao 1) T.z_isinstance T.z_tuple bZ T.z_list ou)) (aj (cu (DW.dt (xp (aT (v9 hu) (j3 (f:=not)) (jC (T:="tuple") (by decide) (ao 0) T.z_isinstance T.z_tuple bZ) (jC (T:="tuple") (by decide) (ao 1) T.z_isinstance T.z_tuple bZ) (aV _)) (sH (aT (v9 hu) (j3 (f:=not)) (jC (T:="list") (by decide) (ao 0) T.z_isinstance T.z_list ou) (jC (T:="list") (by decide) (ao 1) T.z_isinstance T.z_list ou) (aV _))))) (av (aK q_)) aX)
 (aj (cu (aT (v9 hu) (j3 (f:=not)) (bw dz eD (by rfl) T.z_len fY (aa (ao 0) af)) (bw dz eD (by rfl) T.z_len fY (aa (ao 1) af)) (aV _)) (av (aK q_)) aX)
 (av (aK (bw (zd rfl) D_ (by rfl) T.z_all Hm (aa (iL (ah cW) ["found","due"] ["one","other"] [none,none] rfl (HQ (aa (ao 0) (aa (ao 1) af)) T.z_zip) (fun Y=>⟨(AK rfl (kE (aW (i:=0) (show (["one","other"]:List Str).Nodup by decide +kernel)) (kE (aW (i:=1) (show (["one","other"]:List Str).Nodup by decide +kernel)) xq))),bx,(bM jw (hr.mono (by first|decide|lia)) (aa (ao 0) (aa (ao 1) af)))⟩)) af)))))) aX)
 (av (aK (AE (ha:=(l_ (sF hu) (j3 (f:=id)) (ao 0) (ao 1) (aV _))) (hb:=(AF (l_ (sF hu) (j3 (f:=id)) (jC (T:="bool") (by decide) (ao 0) T.z_isinstance T.z_bool xo) (jC (T:="bool") (by decide) (ao 1) T.z_isinstance T.z_bool xo) (aV _))))))))
theorem mJ (T:tN mg)  (cS:Df K mg "_law_shuffles" bp):∀n,Fn P w K mg base "_law_shuffles" (n+1) ["plan"] (ud K 1 (cf n) .S):=by
 intro n
 induction n with
 |zero =>
  refine Df.fnD (N:=["plan","found","seen","part"]) (ps:=["plan"]) (st:=bp) (k:=0) iX .S (cP 0) cS cB iI rfl (by decide) ?_
  intro f bD A outer s0 H E hr
  have hu:=hr.units
  have ky:=de hr
  exact gX
 |succ n eF =>
  refine Df.fnD (N:=["plan","found","seen","part"]) (ps:=["plan"]) (st:=bp) (k:=n+1) iX .S (cP (n+1)) cS cB iI rfl (by decide) ?_
  intro f bD A outer s0 H E hr
  have hu:=hr.units
  have ky:=de hr
  exact (aj (cu (aT (mI hu) kg (br aQ aR (ao 0) ai (fun _ _=>rfl)) (cb (aa cM (aa cM af))) (by with_unfolding_all rfl)) (av (aK (cN af))) aX)
 (aj (cu (aT d_ bJ (br aQ aR (ao 0) ai (fun _ _=>rfl)) cM (aV _)) (aj (bj (i:=1) cB.nd (cN af))
 (aj (je WS rfl (dG (br aQ aR (ao 0) ai (fun _ _=>rfl))) (AK rfl (kE (aW (i:=2) cB.nd) (kE (aW (i:=3) cB.nd) xq)))
 (av (bj (i:=1) cB.nd (aS bf bg (ao 1) (bM eF (hr.mono (by first|decide|lia)) (aa (ao 3) af))))))
 (av (aK (ao 1))))) aX)
 (av (aK (aS bf bg (aS EF Ce (cN (aa (br aQ aR (ao 0) ai (fun _ _=>rfl)) af)) (bP qR xC (by rfl) T.z_int Ax (aa (AE (ha:=(l_ d_ bJ (br aQ aR (ao 0) ai (fun _ _=>rfl)) cM (aV _))) (hb:=(AF (l_ oN j4 (bw dz eD (by rfl) T.z_len fY (aa (br aQ aR (ao 0) ai (fun _ _=>rfl)) af)) ai (aV _))))) af))) (bM eF (hr.mono (by first|decide|lia)) (aa (br aQ aR (ao 0) ai (fun _ _=>rfl)) af)))))))
theorem qr (T:tN mg)(au:Fn P w K mg base "_law_take" 1 ["state","many"] (lS K 2 aq))(aP:Fn P w K mg base "_law_order" 2 ["state","many"] (lS K 2 aI))(dF:Df K mg "_law_single" bC):∀n,Fn P w K mg base "_law_single" (n+3) ["state","many","deep"] (lS K 3 (cy n)):=by
 intro n
 induction n with
 |zero =>
  refine Df.fnI (N:=["state","many","deep","way","order","shuffle","ways"]) (ps:=["state","many","deep"]) (st:=bC) (k:=2) fI (dD 0) dF dk jr rfl rfl (by decide) ?_
  intro f bD A outer s0 H E hr
  have hu:=hr.units
  have ky:=de hr
  exact gX
 |succ n fJ =>
  refine Df.fnI (N:=["state","many","deep","way","order","shuffle","ways"]) (ps:=["state","many","deep"]) (st:=bC) (k:=n+3) fI (dD (n+1)) dF dk jr rfl rfl (by decide) ?_
  intro f bD A outer s0 H E hr
  have hu:=hr.units
  have ky:=de hr
  exact (aj (bj (i:=3) dk.nd (aw (i:=0) au (hr.mono (by first|decide|lia)) (aa ai af)))
 (aj (cu (DW.dt (xp (aT d_ bJ (ao 2) ai (aV _)) (sH (aT d_ bJ (ao 3) ai (aV _))))) (av (aK (cb (aa cM (aa (cF cH eH (aw (i:=0) aP (hr.mono (by first|decide|lia)) (aa (ao 1) af)) dI (c_ (aS bf bg ai (aw (i:=0) au (hr.mono (by first|decide|lia)) (aa (ao 1) af))))) af))))) aX)
 (aj (cu (aT d_ bJ (ao 3) ai (aV _)) (aj (bj (i:=4) dk.nd (aw (i:=0) aP (hr.mono (by first|decide|lia)) (aa (ao 1) af)))
 (aj (bj (i:=5) dk.nd (br aQ aR (cN (aa (cb (aa (ao 4) af)) (aa (cb (aa (ao 4) (aa (aw (i:=0) aP (hr.mono (by first|decide|lia)) (aa (ao 1) af)) af))) af))) (aw (i:=0) au (hr.mono (by first|decide|lia)) (aa ai af)) (fun _ _=>rfl)))
 (av (aK (cb (aa cM (aa (ao 5) (aa (aw (i:=0) fJ (hr.mono (by first|decide|lia)) (aa (ao 1) (aa (aS j1 iM (ao 2) ai) af))) af)))))))) aX)
 (aj (rl (i:=6) (ah bC) ["state","many","deep","way","order","shuffle","ways"] ["card","state","many","deep"] [none,some 0,some 1,some 2] dk.nd rfl (dC (aa (aS bf bg ai (aw (i:=0) au (hr.mono (by first|decide|lia)) (aa ai af))) af) T.z_range) (fun Y=>⟨(aW (i:=0) (show (["card","state","many","deep"]:List Str).Nodup by decide +kernel)),bx,(cb (aa (cb (aa (ao 0) af)) (aa (aw (i:=1) fJ (hr.mono (by first|decide|lia)) (aa (ao 2) (aa (aS j1 iM (ao 3) ai) af))) af)))⟩))
 (av (aK (cb (aa cM (aa (cb (aa (aw (i:=0) au (hr.mono (by first|decide|lia)) (aa (ao 1) af)) af)) (aa (bP ba cz (by rfl) T.z_tuple bZ (aa (ao 6) af)) af))))))))))
theorem Ir (T:tN mg)(FL:C2 K "law" "law" ki f fd)(fD:Df K mg "depth_in" cK)(dX:Df K mg "_law_cell_at" cg)(fk:Df K mg "_law_state" cQ)(fV:Df K mg "_law_take" dB)(gJ:Df K mg "_law_row" dJ)(fm:Df K mg "_law_order" cA)(fW:Df K mg "_law_laid" di)(dY:Df K mg "_law_shuffle" bb)(gK:Df K mg "_law_end" eE)(eU:Df K mg "_law_look" cv)(eV:Df K mg "_law_plan" cL)(eW:Df K mg "_law_size" cV)(fo:Df K mg "_law_drawn" cR)(fX:Df K mg "_law_rows" dj)(d9:Df K mg "_law_depth" bQ)(eY:Df K mg "_law_same" cW)(cS:Df K mg "_law_shuffles" bp)(dF:Df K mg "_law_single" bC)(hp:∀ns:List Int,ns.length≤63→vx [.scr (ns.map .int)]=.ok (.bl true)):jL P w K mg base uj 23 f fd ["script"] (uA K):=by
 have kr:=vA (P:=P) (w:=w) (base:=base) T  fD
 have gI:=og (P:=P) (w:=w) (base:=base) T  dX
 have t9:=qL (P:=P) (w:=w) (base:=base) T gI fk
 have au:=tP (P:=P) (w:=w) (base:=base) T  fV
 have kq:=vB (P:=P) (w:=w) (base:=base) T au gJ
 have aP:=qM (P:=P) (w:=w) (base:=base) T au fm
 have eT:=tQ (P:=P) (w:=w) (base:=base) T  fW
 have gN:=oh (P:=P) (w:=w) (base:=base) T au aP dY
 have gL:=vC (P:=P) (w:=w) (base:=base) T au aP gK
 have lR:=tR (P:=P) (w:=w) (base:=base) T au aP eT gL gN eU eV
 have nR:=fun n=>(lR n).1
 have dZ:=fun n=>(lR n).2
 have eX:=tT (P:=P) (w:=w) (base:=base) T  eW
 have t_:=qN (P:=P) (w:=w) (base:=base) T dZ eX fo
 have vQ:=tU (P:=P) (w:=w) (base:=base) T au kq fX
 have iT:=qO (P:=P) (w:=w) (base:=base) T  d9
 have jw:=tV (P:=P) (w:=w) (base:=base) T  eY
 have eF:=mJ (P:=P) (w:=w) (base:=base) T  cS
 have fJ:=qr (P:=P) (w:=w) (base:=base) T au aP dF
 refine HC (f:=vx) ?_ hp
 refine C2.okD (N:=["script","k","state","rows","many","plan","some","order","menus","menu"]) (ps:=["script"]) (st:=ki) (k:=22) KG .S Co FL iq rfl (by decide) ?_
 intro f bD A outer s0 H E hr
 have hu:=hr.units
 have ky:=de hr
 exact (aj (je WS rfl (dC (aa (bw (yV rfl) AR (by rfl) T.z_max wa (aa ai (aa (bw (qQ rfl) uF (by rfl) T.z_min Ay (aa (bw dz eD (by rfl) T.z_len fY (aa (ao 0) af)) (aa ai af))) af))) af) T.z_range) (aW (i:=1) iq.nd)
 (aj (jy (i:=2) iq.nd (bM t9 (hr.mono (by first|decide|lia)) (aa (ao 0) (aa (ao 1) af))))
 (aj (bj (i:=3) iq.nd (aw (i:=2) vQ (hr.mono (by first|decide|lia)) (aa ai af)))
 (aj (bj (i:=4) iq.nd (bw dz eD (by rfl) T.z_len fY (aa (br aQ aR (ao 3) ai (fun _ _=>rfl)) af)))
 (av (je WS rfl (dG (cN (aa (aw (i:=2) t_ (hr.mono (by first|decide|lia)) (aa (ao 3) (aa ai (aa (l_ d_ bJ (aw (i:=2) au (hr.mono (by first|decide|lia)) (aa ai af)) ai (aV _)) af)))) (aa (aw (i:=2) (fJ 6) (hr.mono (by first|decide|lia)) (aa (ao 4) (aa ai af))) af)))) (aW (i:=5) iq.nd)
 (aj (bj (i:=6) iq.nd (cF cH eH (bM (eF 20) (hr.mono (by first|decide|lia)) (aa (ao 5) af)) dI (c_ ai)))
 (aj (bj (i:=7) iq.nd (cb (aa (aw (i:=2) aP (hr.mono (by first|decide|lia)) (aa (ao 4) af)) af)))
 (aj (bj (i:=8) iq.nd (cN (Rn (kS (cF cH eH (bP ba cz (by rfl) T.z_tuple bZ (aa (aS bf bg (ao 6) (cN (aa (ao 7) af))) af)) dI (c_ ai)) (kS (bP ba cz (by rfl) T.z_tuple bZ (aa (aS bf bg (cF cH eH (ao 6) (c_ ai) dI) (cN (aa (ao 7) af))) af)) (kS (cb (aa (ao 7) af)) (kS (cF cH eH (bP ba cz (by rfl) T.z_tuple bZ (aa (aS bf bg (Im (ao 6)) (cN (aa (ao 7) af))) af)) dI (c_ ai)) Ej)))))))
 (av (je WS rfl (dG (ao 8)) (aW (i:=9) iq.nd)
 (av (cu (Ht (sG (bM (jw 20) (hr.mono (by first|decide|lia)) (aa (bM (kr 20) (hr.mono (by first|decide|lia)) (aa (ao 5) (aa (ao 9) af))) (aa (bM (iT 20) (hr.mono (by first|decide|lia)) (aa (ao 5) (aa (ao 9) af))) af))))) (av (aK q_)) aX)))))))))))))
 (av (aK q_)))
end
theorem all_mk {fa:UY}(X:K.In h)(G:h.Ns U3 mg)(Sl:mg "law"=some (.ref fa)){f0:UY}{Sn So:Option UY}{Sq:Array (Option Uz)}{Sr Ss Su Sv QQ Sw:Uz}(a0:Vb K U3 "depth_in"=some (some (.ref f0)))(l0:K.lookup f0=some ⟨Sr,Sn,.func (US "depth_in" "depth_in" (aD cK) (az cK) (ah cK) .none Ss Su Sv So QQ Sw),Sq⟩)(c0:Vn K QQ "depth_in"=true)(k0:Vd K (.ref f0)=true){f1:UY}{Sz SA:Option UY}{SD:Array (Option Uz)}{SE SF SG SH QR SJ:Uz}(a1:Vb K U3 "_law_cell_at"=some (some (.ref f1)))(l1:K.lookup f1=some ⟨SE,Sz,.func (US "_law_cell_at" "_law_cell_at" (aD cg) (az cg) (ah cg) .none SF SG SH SA QR SJ),SD⟩)(c1:Vn K QR "_law_cell_at"=true)(k1:Vd K (.ref f1)=true){f2:UY}{SK SM:Option UY}{C5:Array (Option Uz)}{SN SO SQ SS QS SV:Uz}(a2:Vb K U3 "_law_state"=some (some (.ref f2)))(l2:K.lookup f2=some ⟨SN,SK,.func (US "_law_state" "_law_state" (aD cQ) (az cQ) (ah cQ) .none SO SQ SS SM QS SV),C5⟩)(c2:Vn K QS "_law_state"=true)(k2:Vd K (.ref f2)=true){f3:UY}{SW SX:Option UY}{SY:Array (Option Uz)}{S0 S1 S2 S3 QT S4:Uz}(a3:Vb K U3 "_law_take"=some (some (.ref f3)))(l3:K.lookup f3=some ⟨S0,SW,.func (US "_law_take" "_law_take" (aD dB) (az dB) (ah dB) .none S1 S2 S3 SX QT S4),SY⟩)(c3:Vn K QT "_law_take"=true)(k3:Vd K (.ref f3)=true){f4:UY}{S5 S6:Option UY}{S7:Array (Option Uz)}{S8 S9 S_ Ta QU Tb:Uz}(a4:Vb K U3 "_law_row"=some (some (.ref f4)))(l4:K.lookup f4=some ⟨S8,S5,.func (US "_law_row" "_law_row" (aD dJ) (az dJ) (ah dJ) .none S9 S_ Ta S6 QU Tb),S7⟩)(c4:Vn K QU "_law_row"=true)(k4:Vd K (.ref f4)=true){f5:UY}{Tc Td:Option UY}{Te:Array (Option Uz)}{Tf Tg Th Ti QV Tj:Uz}(a5:Vb K U3 "_law_order"=some (some (.ref f5)))(l5:K.lookup f5=some ⟨Tf,Tc,.func (US "_law_order" "_law_order" (aD cA) (az cA) (ah cA) .none Tg Th Ti Td QV Tj),Te⟩)(c5:Vn K QV "_law_order"=true)(k5:Vd K (.ref f5)=true){f6:UY}{Tn To:Option UY}{Tp:Array (Option Uz)}{Tq Tr Tt Tu QW Tv:Uz}(a6:Vb K U3 "_law_laid"=some (some (.ref f6)))(l6:K.lookup f6=some ⟨Tq,Tn,.func (US "_law_laid" "_law_laid" (aD di) (az di) (ah di) .none Tr Tt Tu To QW Tv),Tp⟩)(c6:Vn K QW "_law_laid"=true)(k6:Vd K (.ref f6)=true){f7:UY}{Tw Tx:Option UY}{Tz:Array (Option Uz)}{TB TC TF TH QX TJ:Uz}(a7:Vb K U3 "_law_shuffle"=some (some (.ref f7)))(l7:K.lookup f7=some ⟨TB,Tw,.func (US "_law_shuffle" "_law_shuffle" (aD bb) (az bb) (ah bb) .none TC TF TH Tx QX TJ),Tz⟩)(c7:Vn K QX "_law_shuffle"=true)(k7:Vd K (.ref f7)=true){f8:UY}{TL TM:Option UY}{TN:Array (Option Uz)}{TQ TR TU TV QY TX:Uz}(a8:Vb K U3 "_law_end"=some (some (.ref f8)))(l8:K.lookup f8=some ⟨TQ,TL,.func (US "_law_end" "_law_end" (aD eE) (az eE) (ah eE) .none TR TU TV TM QY TX),TN⟩)(c8:Vn K QY "_law_end"=true)(k8:Vd K (.ref f8)=true){f9:UY}{TY TZ:Option UY}{T3:Array (Option Uz)}{T4 T5 T6 T7 QZ T8:Uz}(a9:Vb K U3 "_law_look"=some (some (.ref f9)))(l9:K.lookup f9=some ⟨T4,TY,.func (US "_law_look" "_law_look" (aD cv) (az cv) (ah cv) .none T5 T6 T7 TZ QZ T8),T3⟩)(c9:Vn K QZ "_law_look"=true)(k9:Vd K (.ref f9)=true){N0:UY}{N1 N2:Option UY}{N3:Array (Option Uz)}{N4 N5 N6 N7 Lm N8:Uz}(N9:Vb K U3 "_law_plan"=some (some (.ref N0)))(N_:K.lookup N0=some ⟨N4,N1,.func (US "_law_plan" "_law_plan" (aD cL) (az cL) (ah cL) .none N5 N6 N7 N2 Lm N8),N3⟩)(Oa:Vn K Lm "_law_plan"=true)(Ob:Vd K (.ref N0)=true){Oc:UY}{Od Oe:Option UY}{Of:Array (Option Uz)}{Og Oh Oi Oj Ln Ol:Uz}(Om:Vb K U3 "_law_size"=some (some (.ref Oc)))(Oo:K.lookup Oc=some ⟨Og,Od,.func (US "_law_size" "_law_size" (aD cV) (az cV) (ah cV) .none Oh Oi Oj Oe Ln Ol),Of⟩)(Oq:Vn K Ln "_law_size"=true)(Ot:Vd K (.ref Oc)=true){Ou:UY}{Ov Ow:Option UY}{Ox:Array (Option Uz)}{Oy Oz OA OB Lo OC:Uz}(OD:Vb K U3 "_law_drawn"=some (some (.ref Ou)))(OE:K.lookup Ou=some ⟨Oy,Ov,.func (US "_law_drawn" "_law_drawn" (aD cR) (az cR) (ah cR) .none Oz OA OB Ow Lo OC),Ox⟩)(OF:Vn K Lo "_law_drawn"=true)(OG:Vd K (.ref Ou)=true){OH:UY}{OI OJ:Option UY}{OL:Array (Option Uz)}{OM ON OO OP Lp OQ:Uz}(OR:Vb K U3 "_law_rows"=some (some (.ref OH)))(OS:K.lookup OH=some ⟨OM,OI,.func (US "_law_rows" "_law_rows" (aD dj) (az dj) (ah dj) .none ON OO OP OJ Lp OQ),OL⟩)(OT:Vn K Lp "_law_rows"=true)(OU:Vd K (.ref OH)=true){OV:UY}{OW OX:Option UY}{OY:Array (Option Uz)}{OZ O0 O1 O2 Lq O3:Uz}(O4:Vb K U3 "_law_depth"=some (some (.ref OV)))(O5:K.lookup OV=some ⟨OZ,OW,.func (US "_law_depth" "_law_depth" (aD bQ) (az bQ) (ah bQ) .none O0 O1 O2 OX Lq O3),OY⟩)(O6:Vn K Lq "_law_depth"=true)(O7:Vd K (.ref OV)=true){O8:UY}{O9 O_:Option UY}{Pa:Array (Option Uz)}{Pb Pc Pd Pe Lr Pf:Uz}(Pg:Vb K U3 "_law_same"=some (some (.ref O8)))(Ph:K.lookup O8=some ⟨Pb,O9,.func (US "_law_same" "_law_same" (aD cW) (az cW) (ah cW) .none Pc Pd Pe O_ Lr Pf),Pa⟩)(Pj:Vn K Lr "_law_same"=true)(Pl:Vd K (.ref O8)=true){Pm:UY}{Pn Po:Option UY}{Pp:Array (Option Uz)}{Pq Pr Pt Pu Ls Pw:Uz}(Px:Vb K U3 "_law_shuffles"=some (some (.ref Pm)))(Py:K.lookup Pm=some ⟨Pq,Pn,.func (US "_law_shuffles" "_law_shuffles" (aD bp) (az bp) (ah bp) .none Pr Pt Pu Po Ls Pw),Pp⟩)(Pz:Vn K Ls "_law_shuffles"=true)(PB:Vd K (.ref Pm)=true){PD:UY}{PF PH:Option UY}{PJ:Array (Option Uz)}{PL PM PN PQ Lu PR:Uz}(PU:Vb K U3 "_law_single"=some (some (.ref PD)))(PV:K.lookup PD=some ⟨PL,PF,.func (US "_law_single" "_law_single" (aD bC) (az bC) (ah bC) .none PM PN PQ PH Lu PR),PJ⟩)(PX:Vn K Lu "_law_single"=true)(PY:Vd K (.ref PD)=true){PZ:UY}{P0 Lv:Option UY}{P2:Array (Option Uz)}{P4 Lw Lx Ly Je Lz:Uz}(L_:Vb K U3 "law"=some (some (.ref PZ)))(Ma:K.lookup PZ=some ⟨P4,P0,.func (US "law" "law" (aD ki) (az ki) (ah ki) .none Lw Lx Ly Lv Je Lz),P2⟩)(Mb:Vn K Je "law"=true)(Mc:Vd K (.ref PZ)=true)(z_all:Vb K U3 "all"=some none)(z_bool:Vb K U3 "bool"=some none)(z_int:Vb K U3 "int"=some none)(z_isinstance:Vb K U3 "isinstance"=some none)(z_len:Vb K U3 "len"=some none)(z_list:Vb K U3 "list"=some none)(z_max:Vb K U3 "max"=some none)(z_min:Vb K U3 "min"=some none)(z_range:Vb K U3 "range"=some none)(z_set:Vb K U3 "set"=some none)(z_sorted:Vb K U3 "sorted"=some none)(z_sum:Vb K U3 "sum"=some none)(z_tuple:Vb K U3 "tuple"=some none)(z_zip:Vb K U3 "zip"=some none)(hp:∀ns:List Int,ns.length≤63→vx [.scr (ns.map .int)]=.ok (.bl true))
  : ∃fd:YJ,(∀(s:UQ) (v:Uz),BindsTo s fd ⟨[v],[]⟩ [("script",v)])∧∀base:Xi,K.In base→base.Ns U3 mg→jL PySem.Challenge.pw_hushcards_k71_plans_of_a_menu w K mg base uj 23 fa fd ["script"] (uA K):=by
 have e:=Sl.symm.trans (VB X G L_)
 cases e
 have T:tN mg:=⟨Vy X G z_all,Vy X G z_bool,Vy X G z_int,Vy X G z_isinstance,Vy X G z_len,Vy X G z_list,Vy X G z_max,Vy X G z_min,Vy X G z_range,Vy X G z_set,Vy X G z_sorted,Vy X G z_sum,Vy X G z_tuple,Vy X G z_zip⟩
 have fD:Df K mg "depth_in" cK:=⟨_,_,VB X G a0,dc (st:=cK) l0 c0 k0⟩
 have dX:Df K mg "_law_cell_at" cg:=⟨_,_,VB X G a1,dc (st:=cg) l1 c1 k1⟩
 have fk:Df K mg "_law_state" cQ:=⟨_,_,VB X G a2,dc (st:=cQ) l2 c2 k2⟩
 have fV:Df K mg "_law_take" dB:=⟨_,_,VB X G a3,dc (st:=dB) l3 c3 k3⟩
 have gJ:Df K mg "_law_row" dJ:=⟨_,_,VB X G a4,dc (st:=dJ) l4 c4 k4⟩
 have fm:Df K mg "_law_order" cA:=⟨_,_,VB X G a5,dc (st:=cA) l5 c5 k5⟩
 have fW:Df K mg "_law_laid" di:=⟨_,_,VB X G a6,dc (st:=di) l6 c6 k6⟩
 have dY:Df K mg "_law_shuffle" bb:=⟨_,_,VB X G a7,dc (st:=bb) l7 c7 k7⟩
 have gK:Df K mg "_law_end" eE:=⟨_,_,VB X G a8,dc (st:=eE) l8 c8 k8⟩
 have eU:Df K mg "_law_look" cv:=⟨_,_,VB X G a9,dc (st:=cv) l9 c9 k9⟩
 have eV:Df K mg "_law_plan" cL:=⟨_,_,VB X G N9,dc (st:=cL) N_ Oa Ob⟩
 have eW:Df K mg "_law_size" cV:=⟨_,_,VB X G Om,dc (st:=cV) Oo Oq Ot⟩
 have fo:Df K mg "_law_drawn" cR:=⟨_,_,VB X G OD,dc (st:=cR) OE OF OG⟩
 have fX:Df K mg "_law_rows" dj:=⟨_,_,VB X G OR,dc (st:=dj) OS OT OU⟩
 have d9:Df K mg "_law_depth" bQ:=⟨_,_,VB X G O4,dc (st:=bQ) O5 O6 O7⟩
 have eY:Df K mg "_law_same" cW:=⟨_,_,VB X G Pg,dc (st:=cW) Ph Pj Pl⟩
 have cS:Df K mg "_law_shuffles" bp:=⟨_,_,VB X G Px,dc (st:=bp) Py Pz PB⟩
 have dF:Df K mg "_law_single" bC:=⟨_,_,VB X G PU,dc (st:=bC) PV PX PY⟩
 have Q0:Df K mg "law" ki:=⟨_,_,VB X G L_,dc (st:=ki) Ma Mb Mc⟩
 have FL:=dc (st:=ki) Ma Mb Mc
 refine⟨US "law" "law" (aD ki) (az ki) (ah ki) .none Lw Lx Ly Lv Je Lz,fun s v=>.of_eq rfl,fun base _ _ => ?_⟩
 exact Ir (P:=PySem.Challenge.pw_hushcards_k71_plans_of_a_menu) (w:=w) (base:=base) T  FL fD dX fk fV gJ fm fW dY gK eU eV eW fo fX d9 eY cS dF hp
end Hc
namespace Hc
open L2
theorem fU {α:Type}{f:U→R (Option U)}{c g:α→U}:∀{xs:List α},(∀x∈xs,f (c x)=.ok (some (g x)))→pD f (xs.map c)=.ok (xs.map g)
 | [],_=>rfl
 |x::xs,h=>by
  rw[UT,UT]
  unfold pD
  rw[h x UL]
  show (pD f (xs.map c)).bind _=_
  rw[fU fun y hy=>h y (UM _ hy)];rfl
theorem Gs {ws:List U}:gj (.lst us) [.lst ws]=if us.length+ws.length≤UA then .ok (.non,.lst (us++ws)) else .stk:=nr rfl
theorem dW (us:List U)(k:Nat):ic us none (some (k:Int))=us.take k:=by
 unfold ic
 rw[HT.sIx_none,HT.sIx_nat,Yu,Nat.sub_zero]
 rcases Nat.le_total k us.length with h|h
 ·rw[Wb h]
 ·rw[Nat.min_eq_right h,WU,V7 h]
theorem jt (us:List U)(k:Nat):ic us (some (k:Int)) none=us.drop k:=by
 unfold ic
 rw[HT.sIx_none,HT.sIx_nat]
 rcases Nat.le_total k us.length with h|h
 ·rw[Wb h,V7 (by rw[Vl];lia)]
 ·rw[Nat.min_eq_right h,XR,List.drop_of_length_le h,List.take_nil]
noncomputable def g7 (s:U):Prop:=∃v b,s=.lst [.int v,.bl b]∧0≤v∧(b=false→v<2147483647)
theorem bK {s:U}{m:Int}(h:g7 s)(h0:0<m)(h1:m<18446744073709551616):∃r s',aq [s,.int m]=.ok (.int r,s')∧0≤r∧r<m∧g7 s':=by
 obtain⟨v,b,rfl,hv,hb⟩:=h
 cases b with
 |true =>
  refine⟨v % m,.lst [.int (v / m),.bl true],?_,Xw _ (by lia),W2 _ h0,v / m,true,rfl,Int.ediv_nonneg hv (by lia),fun h=>nomatch h⟩
  simp only[aq,gY,aA,dg,cG,Nat.reduceAdd,Nat.reduceSub,decide_eq_true h0,sU h0 h1,ye]
 |false =>
  have g1:0≤(v*48271+29) % 2147483647:=Xw _ (by decide)
  have g2:(v*48271+29) % 2147483647<2147483647:=W2 _ (by decide)
  have c1:kN v 48271=true:=HX (by decide) (by decide)
  have d1:decide ((0:Int)<2147483647)=true:=by decide
  have d2:decide ((0:Int)<2147483629)=true:=by decide
  have d3:decide ((0:Int)<2147483587)=true:=by decide
  have e8:wo (((((v*48271+29) % 2147483647)*((v*48271+29) % 2147483647)+39373*((v*48271+29) % 2147483647)+7) % 2147483629*((((v*48271+29) % 2147483647)*((v*48271+29) % 2147483647)+39373*((v*48271+29) % 2147483647)+7) % 2147483629)+16807*((((v*48271+29) % 2147483647)*((v*48271+29) % 2147483647)+39373*((v*48271+29) % 2147483647)+7) % 2147483629)) % 2147483587) 8=true:=sU (by decide) (by decide)
  have c2:kN ((v*48271+29) % 2147483647) ((v*48271+29) % 2147483647)=true:=my g1 (by lia)
  have c3:kN 39373 ((v*48271+29) % 2147483647)=true:=my (by decide) (by decide)
  generalize hs:(v*48271+29) % 2147483647=s1 at *
  have g3:0≤(s1*s1+39373*s1+7) % 2147483629:=Xw _ (by decide)
  have g4:(s1*s1+39373*s1+7) % 2147483629<2147483629:=W2 _ (by decide)
  have c4:kN ((s1*s1+39373*s1+7) % 2147483629) ((s1*s1+39373*s1+7) % 2147483629)=true:=my g3 (by lia)
  have c5:kN 16807 ((s1*s1+39373*s1+7) % 2147483629)=true:=my (by decide) (by decide)
  refine⟨((s1*s1+39373*s1+7) % 2147483629*((s1*s1+39373*s1+7) % 2147483629)+16807*((s1*s1+39373*s1+7) % 2147483629)) % 2147483587 / 8 % m,.lst [.int s1,.bl false],?_,Xw _ (by lia),W2 _ h0,s1,false,rfl,g1,fun _=>g2⟩
  ·simp only[aq,gY,aA,dg,cG,Nat.reduceAdd,Nat.reduceSub,decide_eq_true h0,c1,d1,d2,d3,hs,c2,c3,c4,c5,e8,ye]
theorem Cp {us:List U}{k:Int}(hu:u=.scr (ns.map .int)∨u=.lst (ns.map .int))(h0:0≤k):∃s,d5 [u,.int k]=.ok s∧g7 s:=by
 obtain⟨k,rfl⟩:∃n:Nat,k=n:=⟨k.toNat,by lia⟩
 have sd:∃c:Int,dh [u,.int k]=.ok (.int c):=by
  by_cases hk:k<ns.length
  ·refine⟨ns[k],?_⟩
   have d:decide ((k:Int)<((ns.map U.int).length:Nat))=true:=by rw[Ux];exact decide_eq_true (by lia)
   have e:jb (ns.map U.int) (k:Int)=some (.int ns[k]):=by rw[kW,U8,Uv hk];rfl
   rcases hu with rfl|rfl<;>simp only[dh,fi,aA,dg,cG,Nat.reduceAdd,Nat.reduceSub,d,e]
  ·refine⟨0,?_⟩
   have d:decide ((k:Int)<((ns.map U.int).length:Nat))=false:=by rw[Ux];exact decide_eq_false (by lia)
   rcases hu with rfl|rfl<;>simp only[dh,fi,aA,dg,cG,Nat.reduceAdd,Nat.reduceSub,d]
 obtain⟨c,hc⟩:=sd
 have Q1:D7 10 18=true:=by decide
 have Q2:(10:Int) ^ (18:Int).toNat=1000000000000000000:=by decide
 have l2:(2:Nat)≤UA:=by decide
 have dm:decide ((0:Int)<2147483647)=true:=by decide
 by_cases h:1000000000000000000≤c
 ·refine⟨.lst [.int (c - 1000000000000000000),.bl true],?_,_,true,rfl,by lia,fun h=>nomatch h⟩
  simp only[d5,gp,aA,dg,cG,Nat.reduceAdd,Nat.reduceSub,hc,Q1,Q2,decide_eq_true h,l2,if_pos]
 ·refine⟨.lst [.int (c % 2147483647),.bl false],?_,_,false,rfl,Xw _ (by decide),fun _=>W2 _ (by decide)⟩
  simp only[d5,gp,aA,dg,cG,Nat.reduceAdd,Nat.reduceSub,hc,Q1,Q2,decide_eq_false h,l2,dm,if_pos]
theorem qs {α:Type}:∀(l:List α) (i:Nat) (h:i<l.length),(l[i]::l.eraseIdx i).Perm l
 |x::l,0,_=>Wa _
 |x::l,i+1,h=>by
  have h':i<l.length:=by simpa using h
  show (l[i]::x::l.eraseIdx i).Perm (x::l)
  exact (List.Perm.swap _ _ _).trans (List.Perm.cons x (qs l i h'))
theorem lJ {α β:Type}(f:α→β):∀(l:List α) (i:Nat),(l.map f).eraseIdx i=(l.eraseIdx i).map f
 | [],_=>rfl
 |_::_,0=>rfl
 |x::l,i+1=>by
  show f x::(l.map f).eraseIdx i=f x::(l.eraseIdx i).map f
  rw[lJ f l i]
theorem Iu {k:Int}{y:U}(h1:Zm k us.length=some j)(h2:us[j]? = some y)(h3:0≤k)(h4:k<1000000000):mn (.lst us) [.int k]=.ok (y,.lst (us.eraseIdx j)):=by
 unfold mn
 dsimp only
 rw[if_pos (by lia),h1]
 dsimp only
 rw[h2]
noncomputable def nM (n:Nat)(os:List Int):Prop:=os.Perm (aZ n)
theorem fj {s:U}(h:g7 s)(h1:m≤1000):∃(os:List Int) (s':U),aI [s,.int m]=.ok (.tup (os.map .int),s')∧nM m os∧g7 s':=by
 obtain⟨ys,⟨left,s'⟩,e,l,os,hr,hp,hs'⟩:=iG (G:=iP) (js:=[none,some 2,some 0]) (sg:=dw 0) (ge:=gM "list" 1 mn (ae (eZ 2 2 aq (ae (fL iE (ae (ag 1) ak)) ak)) ak))
  (fun x:List Int×U=>[some x.2,some (.int m),some (.lst (x.1.map .int))]) m (fun ys x=>∃os:List Int,ys=os.map .int∧(os++x.1).Perm (aZ m)∧g7 x.2)
  (fun done u x hd h00=>by
   obtain⟨os,hr,hp,hs⟩:=h00
   obtain⟨left,s⟩:=x
   have hl:0<left.length:=by
    have:=hp.length_eq
    rw[UH,eI] at this
    have h2:done.length=os.length:=by rw[hr,Ux]
    dsimp only at this
    lia
   have IW:left.length≤m:=by
    have:=hp.length_eq
    rw[UH,eI] at this
    dsimp only at this
    lia
   obtain⟨r,s',b1,b2,b3,b4⟩:=bK (m:=left.length) hs (by lia) (by lia)
   obtain⟨k,rfl⟩:∃n:Nat,r=n:=⟨r.toNat,by lia⟩
   have hk:k<left.length:=by lia
   refine⟨[some u,some (.lst (left.map .int)),some s],.int left[k],[some u,some (.lst ((left.eraseIdx k).map .int)),some s'],(left.eraseIdx k,s'),rfl,?_,rfl,os++[left[k]],by rw[hr,Va];rfl,?_,b4⟩
   ·have hx:Zm (k:Int) (left.map U.int).length=some k:=by
     unfold Zm
     rw[Ux]
     simp;lia
    have hy:(left.map U.int)[k]? = some (.int left[k]):=by rw[U8,Uv hk];rfl
    have pp:=Iu hx hy (by lia) (by lia)
    rw[lJ] at pp
    simp only[aA,dg,cG,Nat.reduceAdd,Nat.reduceSub,Ux,b1,pp]
   ·rw[UZ]
    refine List.Perm.trans (VN os ?_) hp
    exact qs left k hk) (aE 0 m) [] (aZ m,s) (by rw[aY];simp) ⟨[],rfl,Wa _,h⟩
 rw[aY] at l
 have ln:os.length=m:=by
  have:=congrArg XU hr
  rw[Wc,Ux] at this
  lia
 have le:left=[]:=by
  have:=hp.length_eq
  rw[UH,eI] at this
  dsimp only at this
  exact VJ (by lia)
 subst le
 rw[Vw] at hp
 rw[Wc] at hr
 dsimp only at e
 refine⟨os,s',?_,hp,hs'⟩
 rw[hr] at e
 simp only[aI,iQ,aA,dg,cG,Nat.reduceAdd,Nat.reduceSub,ik m (by lia),Em m (by lia),gA] at e ⊢
 simp only[aA,dg,cG,Nat.reduceAdd,Nat.reduceSub,e]
noncomputable def tO (os:List Int):U:=.tup (os.map .int)
theorem lK (n:Nat):aE 0 n=(Vc n).map fun i=>U.int (i:Nat):=by
 rw[gA];unfold aZ;rw[VL];rfl
theorem vD (n:Nat):aZ (n+1)=aZ n++[(n:Int)]:=by
 unfold aZ;rw[List.range_succ,Va];rfl
theorem vE {z:Nat}(h:z≤m):(aZ m).take z=aZ z:=by
 unfold aZ;rw[←Ww,List.take_range,Wb h]
theorem EK (us:List U)(a b:Nat)(h:a≤b)(h2:b≤us.length):ic us (some (a:Int)) (some (b:Int))=(us.drop a).take (b - a):=by
 unfold ic
 rw[HT.sIx_nat,HT.sIx_nat,Wb h2,Wb (VC h h2)]
noncomputable def Iv:Nat→Nat
 |0=>1
 |n+1=>Iv n*(n+1)
theorem Cq (h:os.Perm (aZ k)):(os.take j++[(k:Int)]++os.drop j).Perm (aZ (k+1)):=by
 rw[vD,UZ]
 refine (VO).trans ?_
 rw[UZ]
 have:(os.drop j++os.take j).Perm (aZ k):=(VO).trans (by rw[Vr];exact h)
 exact ((VN [(k:Int)] this)).trans VO
theorem EL {a b c d e f g:Option U}{oss:List (List Int)}(hk:k≤8)(hl:oss.length≤1000)(hp:∀os∈oss,os.Perm (aZ k))(v4:Option U) :
  ∃(ls:List (List Int)) (v4':Option U),gU (dw 4) (jQ (gM "list" 9 gj (ae (gy (fN (ae (aL b9 (ag 8) (gC (.int 1))) ak)) [none,some 4,some 8] (dw 0) du (aL b9 (aL b9 (jx i6 (ag 1) cn (bS (ag 0))) (bR (ae (ag 2) ak))) (jx i6 (ag 1) (bS (ag 0)) cn))) ak))) (oss.map tO)
   [a,b,c,d,v4,e,f,g,some (.int k),some (.lst [])]=.nx [a,b,c,d,v4',e,f,g,some (.int k),some (.lst (ls.map tO))]∧ls.length=oss.length*(k+1)∧∀os∈ls,os.Perm (aZ (k+1)):=by
 obtain⟨ρ',e1,ls,v,e2,l2,p2⟩:=eN (us:=oss.map tO) (sg:=dw 4) (s:=jQ (gM "list" 9 gj (ae (gy (fN (ae (aL b9 (ag 8) (gC (.int 1))) ak)) [none,some 4,some 8] (dw 0) du (aL b9 (aL b9 (jx i6 (ag 1) cn (bS (ag 0))) (bR (ae (ag 2) ak))) (jx i6 (ag 1) (bS (ag 0)) cn))) ak)))
  (fun i ρ=>∃(ls:List (List Int)) (v:Option U),ρ=[a,b,c,d,v,e,f,g,some (.int k),some (.lst (ls.map tO))]∧ls.length=i*(k+1)∧∀os∈ls,os.Perm (aZ (k+1)))
  (fun i u ρ hu h00=>by
   obtain⟨ls,v,hr,IW,De⟩:=h00
   subst hr
   rw[U8] at hu
   cases ho:oss[i]? with
   |none=>rw[ho] at hu;cases hu
   |some os =>
    rw[ho] at hu
    cases hu
    have Dg:=hp os (Vt ho)
    have lo:os.length=k:=by have:=Dg.length_eq;rwa [eI] at this
    have hi:i<oss.length:=by
     rcases W0 i oss.length with z|z
     ·exact z
     ·rw[V_.mpr z] at ho;cases ho
    have sz:UA=16777216:=rfl
    have l1:(1:Nat)≤UA:=by decide
    have e0:pD (rk [none,some 4,some 8] (dw 0) du (aL b9 (aL b9 (jx i6 (ag 1) cn (bS (ag 0))) (bR (ae (ag 2) ak))) (jx i6 (ag 1) (bS (ag 0)) cn)) [a,b,c,d,some (tO os),e,f,g,some (.int k),some (.lst (ls.map tO))]) ((Vc (k+1)).map fun i=>U.int (i:Nat))=.ok ((Vc (k+1)).map fun j=>tO (os.take j++[(k:Int)]++os.drop j)) :=
     fU fun j hj=>by
      have q1:((os.map U.int).take j).length+1≤UA:=by rw[U7,Ux];lia
      have q2:((os.map U.int).take j++[U.int k]).length+((os.map U.int).drop j).length≤UA:=by rw[UH,U7,Vl,Ux,WY];lia
      simp only[aA,dg,cG,Nat.reduceAdd,Nat.reduceSub,tO,dW,jt,l1,q1,q2]
      simp only[Va,Ww,YM,UT,WW]
    have hm:i*(k+1)≤1000*9:=Nat.mul_le_mul (by lia) (by lia)
    have q3:(ls.map tO).length+((Vc (k+1)).map fun j=>tO (os.take j++[(k:Int)]++os.drop j)).length≤UA:=by
     rw[Ux,Ux,Vx];lia
    have ek:(k:Int)+1=((k+1:Nat):Int):=rfl
    refine⟨[a,b,c,d,some (tO os),e,f,g,some (.int k),some (.lst (ls.map tO))],[a,b,c,d,some (tO os),e,f,g,some (.int k),some (.lst ((ls++(Vc (k+1)).map fun j=>os.take j++[(k:Int)]++os.drop j).map tO))],rfl,.inl ?_,_,_,rfl,?_,?_⟩
    ·simp only[aA,dg,cG,Nat.reduceAdd,Nat.reduceSub,ek,ik (k+1) (by lia),lK,e0,Gs,q3]
     simp only[Va,VL]
     rfl
    ·rw[UH,Ux,Vx,IW,Nat.add_mul,Nat.one_mul]
    ·intro x hx
     rcases U2.mp hx with z|z
     ·exact De x z
     ·obtain⟨j,_,rfl⟩:=Vg.mp z
      exact Cq Dg) (ρ:=[a,b,c,d,v4,e,f,g,some (.int k),some (.lst [])]) ⟨[],v4,rfl,by simp,fun x hx=>by cases hx⟩
 subst e2
 rw[Ux] at l2
 exact⟨ls,v,e1,l2,p2⟩
theorem Nm (h:nM m os):os.length=m:=by have:=h.length_eq;rwa [eI] at this
theorem Cr (l:List Int)(k:Nat):(l.drop k++l.take k).Perm l:=(VO).trans (by rw[Vr])
theorem zK (l:List Int)(h:Nat):(((l.drop h).take h++l.take h)++l.drop (h+h)).Perm l:=by
 have e:l=l.take h++((l.drop h).take h++l.drop (h+h)):=by
  rw[←Zf,Vr,Vr]
 have p:((l.drop h).take h++l.take h).Perm (l.take h++(l.drop h).take h):=VO
 refine (VZ _ p).trans ?_
 rw[UZ,←e]
noncomputable def jH (m:Nat)(r:R (U×U)):Prop:=∃(oss:List (List Int)) (s':U),r=.ok (.tup (oss.map tO),s')∧(∀os∈oss,nM m os)∧1≤oss.length∧oss.length≤24∧g7 s'
theorem EM {s:U}{w:Int}(h8:m≤8)(e1:aq [s,.int 6]=.ok (.int w,s1))(fu:g7 s1)(hw:w=4∨w=5):jH m (aO [s,.int m]):=by
 have sz:UA=16777216:=rfl
 obtain⟨t,s2,e2,t0,t1,bE⟩:=bK (m:=4) fu (by decide) (by decide)
 obtain⟨n,hn⟩:∃n:Nat,1+t=n:=⟨(1+t).toNat,by lia⟩
 obtain⟨ys,s3,e3,ly,oss,hy,ho,t7⟩:=iG (G:=gG) (js:=[none,some 0,some 1]) (sg:=dw 0) (ge:=eZ 2 1 aI (ae (ag 2) ak))
  (fun x:U=>[some x,some (.int m),some (.tup (aE 0 m)),some (.int w),none,none,none,none,none,none]) n (fun ys x=>∃oss:List (List Int),ys=oss.map tO∧(∀os∈oss,nM m os)∧g7 x)
  (fun done u x hd h00=>by
   obtain⟨oss,hr,hp,hs⟩:=h00
   obtain⟨os,x',b1,b2,b3⟩:=fj (m:=m) hs (by lia)
   refine⟨[some u,some x,some (.int m)],tO os,[some u,some x',some (.int m)],x',rfl,?_,rfl,oss++[os],by rw[hr,Va];rfl,?_,b3⟩
   ·simp only[aA,dg,cG,Nat.reduceAdd,Nat.reduceSub,b1,tO]
   ·intro y hy
    rcases U2.mp hy with z|z
    ·exact hp y z
    ·rw[U6.mp z];exact b2) (aE 0 n) [] s2 (by rw[aY];simp) ⟨[],rfl,(fun x hx=>by cases hx),bE⟩
 rw[Wc] at hy
 rw[aY] at ly
 have lo:oss.length=n:=by
  have:=congrArg XU hy
  rw[Ux] at this
  lia
 refine⟨oss,s3,?_,ho,by lia,by lia,t7⟩
 rw[hy] at e3
 rcases hw with rfl|rfl<;>simp only[aO,cJ,aA,dg,cG,Nat.reduceAdd,Nat.reduceSub,kT m (by lia),e1,bA,Int.reduceBEq,id,e2,hn,ik n (by lia),e3]
theorem Iw {s:U}(h1:1≤m)(h8:m≤8)(e1:aq [s,.int 6]=.ok (.int 0,s1))(fu:g7 s1):jH m (aO [s,.int m]):=by
 have sz:UA=16777216:=rfl
 have e0:pD (rk [none,some 2] (dw 0) du (aL b9 (jx i6 (ag 1) (bS (ag 0)) cn) (jx i6 (ag 1) cn (bS (ag 0)))) [some s1,some (.int m),some (.tup (aE 0 m)),some (.int 0),none,none,none,none,none,none]) (aE 0 m)
   = .ok ((Vc m).map fun k=>.tup ((aE 0 m).drop k++(aE 0 m).take k)):=by
  have:=fU (f:=rk [none,some 2] (dw 0) du (aL b9 (jx i6 (ag 1) (bS (ag 0)) cn) (jx i6 (ag 1) cn (bS (ag 0)))) [some s1,some (.int m),some (.tup (aE 0 m)),some (.int 0),none,none,none,none,none,none])
   (c:=fun i:Nat=>U.int (i:Nat)) (g:=fun k=>.tup ((aE 0 m).drop k++(aE 0 m).take k)) (xs:=Vc m) fun k hk=>by
    have q:((aE 0 m).drop k).length+((aE 0 m).take k).length≤UA:=by rw[Vl,U7,aY];lia
    simp only[aA,dg,cG,Nat.reduceAdd,Nat.reduceSub,dW,jt,q]
  rwa [←lK] at this
 refine⟨(Vc m).map fun k=>(aZ m).drop k++(aZ m).take k,s1,?_,?_,by rw[Ux,Vx];exact h1,by rw[Ux,Vx];lia,fu⟩
 ·simp only[aO,cJ,aA,dg,cG,Nat.reduceAdd,Nat.reduceSub,kT m (by lia),e1,bA,Int.reduceBEq,id,ik m (by lia),e0]
  rw[VL]
  congr 4
  funext k
  show U.tup _=tO _
  unfold tO
  rw[gA,Va,YM,Ww]
 ·intro os ho
  obtain⟨k,_,rfl⟩:=Vg.mp ho
  exact Cr _ _
theorem Iy {s:U}(h8:m≤8)(e1:aq [s,.int 6]=.ok (.int 1,s1))(fu:g7 s1):jH m (aO [s,.int m]):=by
 have l2:(2:Nat)≤UA:=by decide
 obtain⟨os,s2,b1,b2,b3⟩:=fj (m:=m) fu (by lia)
 refine⟨[aZ m,os],s2,?_,?_,by simp,by simp,b3⟩
 ·simp only[aO,cJ,aA,dg,cG,Nat.reduceAdd,Nat.reduceSub,kT m (by lia),e1,bA,Int.reduceBEq,id,b1,l2,tO,gA]
 ·intro x hx
  simp only[UU,Wz,or_false] at hx
  rcases hx with rfl|rfl
  ·exact Wa _
  ·exact b2
theorem EN {s:U}(h1:1≤m)(h8:m≤8)(e1:aq [s,.int 6]=.ok (.int 2,s1))(fu:g7 s1):jH m (aO [s,.int m]):=by
 have sz:UA=16777216:=rfl
 have l2:(2:Nat)≤UA:=by decide
 have d1:wo (m:Int) 2=true:=sU (by decide) (by decide)
 have d2:kN 2 ((m / 2:Nat):Int)=true:=my (by decide) (by decide)
 have e2:(m:Int) / 2=((m / 2:Nat):Int):=by lia
 have e3:(2:Int)*((m / 2:Nat):Int)=((m / 2+m / 2:Nat):Int):=by lia
 have c1:ic (aE 0 m) (some ((m / 2:Nat):Int)) (some ((m / 2+m / 2:Nat):Int))=((aE 0 m).drop (m / 2)).take (m / 2):=by
  rw[EK _ _ _ (by lia) (by rw[aY];lia),Zb]
 have q1:(((aE 0 m).drop (m / 2)).take (m / 2)).length+((aE 0 m).take (m / 2)).length≤UA:=by rw[U7,Vl,U7,aY];lia
 have q2:(((aE 0 m).drop (m / 2)).take (m / 2)++(aE 0 m).take (m / 2)).length+((aE 0 m).drop (m / 2+m / 2)).length≤UA:=by rw[UH,U7,Vl,U7,Vl,aY];lia
 refine⟨[aZ m,((aZ m).drop (m / 2)).take (m / 2)++(aZ m).take (m / 2)++(aZ m).drop (m / 2+m / 2)],s1,?_,?_,by simp,by simp,fu⟩
 ·simp only[aO,cJ,aA,dg,cG,Nat.reduceAdd,Nat.reduceSub,kT m (by lia),e1,bA,Int.reduceBEq,id,d1,e2,d2,e3,c1,dW,jt,q1,q2,l2]
  simp only[tO,Va,Ww,YM,gA]
 ·intro x hx
  simp only[UU,Wz,or_false] at hx
  rcases hx with rfl|rfl
  ·exact Wa _
  ·exact zK _ _
theorem Gu (h:n≤4):1≤Iv n∧Iv n≤24:=by
 have:n=0∨n=1∨n=2∨n=3∨n=4:=by lia
 rcases this with rfl|rfl|rfl|rfl|rfl<;>decide
theorem Iz {s:U}(h1:1≤m)(h8:m≤8)(e1:aq [s,.int 6]=.ok (.int 3,s1))(fu:g7 s1):jH m (aO [s,.int m]):=by
 have sz:UA=16777216:=rfl
 have l0:(0:Nat)≤UA:=by decide
 have l1:(1:Nat)≤UA:=by decide
 obtain⟨t,s2,e2,t0,t1,bE⟩:=bK (m:=3) fu (by decide) (by decide)
 obtain⟨z,hz⟩:∃z:Nat,(if 2+t<(m:Int) then 2+t else (m:Int))=z:=⟨(if 2+t<(m:Int) then 2+t else (m:Int)).toNat,by split<;>lia⟩
 have zb:1≤z∧z≤4∧z≤m:=by split at hz<;>lia
 obtain⟨ρ',e3,oss,v4,v8,rfl,l3,p3⟩:=eN (us:=aE 0 z) (sg:=dw 8) (s:=(aJ (bu 9 (cD ak))
 (aJ (kF (fM (ag 6)) (dw 4)
 (jQ (gM "list" 9 gj (ae (gy (fN (ae (aL b9 (ag 8) (gC (.int 1))) ak)) [none,some 4,some 8] (dw 0) du (aL b9 (aL b9 (jx i6 (ag 1) cn (bS (ag 0))) (bR (ae (ag 2) ak))) (jx i6 (ag 1) (bS (ag 0)) cn))) ak))))
 (ux 6 9))))
  (fun i ρ=>∃(oss:List (List Int)) (v4 v8:Option U),ρ=[some s2,some (.int m),some (.tup (aE 0 m)),some (.int 3),v4,none,some (.lst (oss.map tO)),some (.int z),v8,none]∧oss.length=Iv i∧∀os∈oss,os.Perm (aZ i))
  (fun i u ρ hu h00=>by
   obtain⟨oss,v4,v8,hr,hl,hp⟩:=h00
   subst hr
   have hi:i<z:=by
    rcases W0 i z with y|y
    ·exact y
    ·rw[V_.mpr (by rw[aY];exact y)] at hu;cases hu
   obtain rfl:u=.int i:=by
    rw[lK,U8,Xk hi] at hu
    cases hu;rfl
   obtain⟨ls,v4',g1,g2,g3⟩:=EL (a:=some s2) (b:=some (.int m)) (c:=some (.tup (aE 0 m))) (d:=some (.int 3)) (e:=none) (f:=some (.lst (oss.map tO))) (g:=some (.int z)) (k:=i) (oss:=oss) (by lia) (by have:=Gu (n:=i) (by lia);lia) hp v4
   refine⟨[some s2,some (.int m),some (.tup (aE 0 m)),some (.int 3),v4,none,some (.lst (oss.map tO)),some (.int z),some (.int i),none],[some s2,some (.int m),some (.tup (aE 0 m)),some (.int 3),v4',none,some (.lst (ls.map tO)),some (.int z),some (.int i),none],rfl,.inl ?_,ls,v4',some (.int i),rfl,by rw[g2,hl];rfl,g3⟩
   simp only[aA,dg,cG,Nat.reduceAdd,Nat.reduceSub,l0,g1])
  (ρ:=[some s2,some (.int m),some (.tup (aE 0 m)),some (.int 3),none,none,some (.lst [.tup []]),some (.int z),none,none]) ⟨[[]],none,none,rfl,rfl,fun x hx=>by rw[U6.mp hx];exact Wa _⟩
 rw[aY] at l3 p3
 have e4:pD (rk [none,some 2,some 7] (dw 0) du (aL b9 (ag 0) (jx i6 (ag 1) (bS (ag 2)) cn)) [some s2,some (.int m),some (.tup (aE 0 m)),some (.int 3),v4,none,some (.lst (oss.map tO)),some (.int z),v8,none]) (oss.map tO)=.ok (oss.map fun os=>tO (os++(aZ m).drop z)) :=
  fU fun os ho=>by
   have lo:os.length=z:=by have:=(p3 os ho).length_eq;rwa [eI] at this
   have q:(os.map U.int).length+((aE 0 m).drop z).length≤UA:=by rw[Ux,Vl,aY];lia
   simp only[aA,dg,cG,Nat.reduceAdd,Nat.reduceSub,tO,jt,q]
   simp only[Va,YM,gA]
 have fb:=Gu (n:=z) zb.2.1
 refine⟨oss.map fun os=>os++(aZ m).drop z,s2,?_,?_,by rw[Ux];lia,by rw[Ux];lia,bE⟩
 ·simp only[aO,cJ,aA,dg,cG,Nat.reduceAdd,Nat.reduceSub,kT m (by lia),e1,bA,Int.reduceBEq,id,l0,l1,e2,hz,ik z (by lia),e3,e4]
  rw[VL]
  rfl
 ·intro x hx
  obtain⟨os,ho,rfl⟩:=Vg.mp hx
  have:(aZ m)=aZ z++(aZ m).drop z:=by
   rw[←vE zb.2.2,Vr]
  show (os++_).Perm (aZ m)
  refine (VZ _ (p3 os ho)).trans ?_
  rw[←this]
theorem wU {s:U}(h:g7 s)(h1:1≤m)(h8:m≤8):jH m (aO [s,.int m]):=by
 obtain⟨w,s1,e1,w0,w1,fu⟩:=bK (m:=6) h (by decide) (by decide)
 have hw:w=0∨w=1∨w=2∨w=3∨w=4∨w=5:=by lia
 rcases hw with rfl|rfl|rfl|rfl|hw
 ·exact Iw h1 h8 e1 fu
 ·exact Iy h8 e1 fu
 ·exact EN h1 h8 e1 fu
 ·exact Iz h1 h8 e1 fu
 ·exact EM h8 e1 fu hw
noncomputable def Uh (n:Nat)(u:U):Prop:=∃d,gO u=some d∧cm d≤n
end Hc
namespace Hc
open L2
theorem iJ:∀ns:List Int,iF (ns.map U.int)=some ns
 | []=>rfl
 |n::ns=>by rw[UT];show (iF (ns.map U.int)).map _=_;rw[iJ ns];rfl
noncomputable def ir (a b:List Int):List Int:=b.map fun i=>a.getD i.toNat 0
theorem EO {a b:List Int}(h:∀i∈b,0≤i∧i<a.length):pD (rk [none,some 0] (dw 0) du (aL fF (ag 1) (ag 0)) [some (aB a),some (aB b)]) (b.map U.int)=.ok ((ir a b).map U.int):=by
 have e:=fU (f:=rk [none,some 0] (dw 0) du (aL fF (ag 1) (ag 0)) [some (aB a),some (aB b)]) (c:=U.int) (g:=fun i:Int=>U.int (a.getD i.toNat 0)) (xs:=b) fun i hi=>by
  obtain⟨h0,h1⟩:=h i hi
  obtain⟨n,rfl⟩:∃n:Nat,i=n:=⟨i.toNat,by lia⟩
  have hn:n<a.length:=by lia
  have e1:jb (a.map U.int) (n:Int)=some (.int a[n]):=by rw[kW,U8,Uv hn];rfl
  have e2:a.getD (n:Int).toNat 0=a[n]:=by rw[VX,Y5,Uv hn];rfl
  simp only[aA,dg,cG,Nat.reduceAdd,Nat.reduceSub,aB,e1,e2]
 rw[e];unfold ir;rw[VL];rfl
theorem kR {a b:List Int}(h:∀i∈b,0≤i∧i<a.length)(hl:b.length≤1000):bF [aB a,aB b]=.ok (aB (ir a b)):=by
 have e:=EO h
 have sz:((ir a b).map U.int).length≤UA:=by rw[Ux];unfold ir;rw[Ux];have:UA=16777216:=rfl;lia
 unfold bF jn
 simp only[aB] at e ⊢
 simp only[aA,dg,cG,Nat.reduceAdd,Nat.reduceSub,e,sz]
theorem IA {s:U}(h:g7 s)(h1:m≤1000):∃(row:List Int) (s':U),eK [s,.int m]=.ok (.tup (row.map .int),s')∧row.length=m∧(∀c∈row,0≤c∧c<10)∧g7 s':=by
 obtain⟨way,s1,e1,w0,w1,h1'⟩:=bK (m:=4) h (by decide) (by decide)
 have key:∀(js:List (Option Nat)) (ge:Ev→R (U×Ev)) (s1:U),g7 s1→(∀u s,g7 s→∃ρi r ρi' s',dw 0 u (fO js [some s,some (.int m),some (.int way)])=.ok ρi∧ge ρi=.ok (.int r,ρi')∧wb fB js ρi' [some s,some (.int m),some (.int way)]=[some s',some (.int m),some (.int way)]∧0≤r∧r<10∧g7 s') →
   ∃(row:List Int) (s':U),kL fB js (dw 0) du ge (aE 0 m) [some s1,some (.int m),some (.int way)]=.ok (row.map .int,[some s',some (.int m),some (.int way)])∧row.length=m∧(∀c∈row,0≤c∧c<10)∧g7 s':=by
  intro js ge s1 fu LA
  obtain⟨ys,s',e,l,row,hr,hc,hs'⟩:=iG (G:=fB) (js:=js) (sg:=dw 0) (ge:=ge) (fun s:U=>[some s,some (.int m),some (.int way)]) m (fun ys s=>∃row:List Int,ys=row.map .int∧(∀c∈row,0≤c∧c<10)∧g7 s)
   (fun done u s _ h00=>by
    obtain⟨row,hr,hc,hs⟩:=h00
    obtain⟨ρi,r,ρi',s',a1,a2,a3,a4,a5,a6⟩:=LA u s hs
    refine⟨ρi,.int r,ρi',s',a1,a2,a3,row++[r],by rw[hr,Va];rfl,fun c L3 => ?_,a6⟩
    rcases U2.mp L3 with z|z
    ·exact hc c z
    ·rw[U6.mp z];exact⟨a4,a5⟩) (aE 0 m) [] s1 (by rw[aY];simp) ⟨[],rfl,(fun c hc=>by cases hc),fu⟩
  rw[aY] at l
  refine⟨row,s',by rw[e,←hr];rfl,?_,hc,hs'⟩
  have:=congrArg XU hr
  simp at this
  lia
 by_cases c:way<2
 ·obtain⟨row,s',a1,a2,a3,a4⟩:=key [none,some 0] (eZ 2 1 aq (ae (gC (.int 2)) ak)) s1 h1' fun u s hs=>by
   obtain⟨r,s',b1,b2,b3,b4⟩:=bK (m:=2) hs (by decide) (by decide)
   refine⟨[some u,some s],r,[some u,some s'],s',rfl,?_,rfl,b2,by lia,b4⟩
   simp only[aA,dg,cG,Nat.reduceAdd,Nat.reduceSub,b1]
  refine⟨row,s',?_,a2,a3,a4⟩
  simp only[eK,iO,aA,dg,cG,Nat.reduceAdd,Nat.reduceSub,e1,decide_eq_true c,ik m (by lia),a1]
 ·have T9:∃z:Int,jb [U.int 3,U.int 10] (way - 2)=some (.int z)∧0<z∧z≤10:=by
   by_cases e:way=2
   ·subst e;exact⟨3,rfl,by decide,by decide⟩
   ·have e:way=3:=by lia
    subst e;exact⟨10,rfl,by decide,by decide⟩
  obtain⟨z,hz,z0,z1⟩:=T9
  have l2:(2:Nat)≤UA:=by decide
  obtain⟨row,s',a1,a2,a3,a4⟩:=key [none,some 0,some 2] (eZ 2 1 aq (ae (aL fF (cD (ae (gC (.int 3)) (ae (gC (.int 10)) ak))) (aL mf (ag 2) (gC (.int 2)))) ak)) s1 h1' fun u s hs=>by
   obtain⟨r,s',b1,b2,b3,b4⟩:=bK (m:=z) hs z0 (by lia)
   refine⟨[some u,some s,some (.int way)],r,[some u,some s',some (.int way)],s',rfl,?_,rfl,b2,by lia,b4⟩
   simp only[aA,dg,cG,Nat.reduceAdd,Nat.reduceSub,l2,hz,b1]
  refine⟨row,s',?_,a2,a3,a4⟩
  simp only[eK,iO,aA,dg,cG,Nat.reduceAdd,Nat.reduceSub,e1,decide_eq_false c,ik m (by lia),a1]
noncomputable def mK (x:Int):List Int→List (List Int)
 | []=>[[x]]
 |y::r=>(x::y::r)::(mK x r).map (y::·)
noncomputable def dM:List Int→List (List Int)
 | []=>[[]]
 |x::xs=>(dM xs).flatMap (mK x)
theorem vF (x:Int):∀l,(mK x l).length=l.length+1
 | []=>rfl
 |y::r=>by unfold mK;rw[UI,Ux,vF x r,UI]
theorem vG (x:Int):∀l r,(l++x::r)∈mK x (l++r)
 | [],[]=>by simp[mK]
 | [],y::r=>by simp[mK]
 |y::l,r=>by
  show (y::(l++x::r))∈mK x (y::(l++r))
  unfold mK
  exact UM _ (WR (vG x l r))
theorem nN:∀{xs r:List Int},r.Perm xs→r∈dM xs
 | [],r,h=>by rw[List.perm_nil.mp h];simp[dM]
 |x::xs,r,h=>by
  obtain⟨l1,l2,e⟩:=List.append_of_mem (h.mem_iff.mpr (UL (a:=x) (l:=xs)))
  subst e
  have h2:(l1++l2).Perm xs:=(List.perm_cons x).mp (List.perm_middle.symm.trans h)
  unfold dM
  exact List.mem_flatMap.mpr ⟨l1++l2,nN h2,vG x l1 l2⟩
theorem nO:∀(xs:List Int),(∀r∈dM xs,r.length=xs.length)∧(dM xs).length=Iv xs.length
 | []=>by simp[dM,Iv]
 |x::xs=>by
  obtain⟨h1,h2⟩:=nO xs
  have ins:∀(l r:List Int),r∈mK x l→r.length=l.length+1:=by
   intro l
   induction l with
   |nil=>intro r h;simp[mK] at h;rw[h];rfl
   |cons y l ih =>
    intro r h
    unfold mK at h
    rcases UU.mp h with rfl|h
    ·rfl
    ·obtain⟨q,hq,rfl⟩:=Vg.mp h
     rw[UI,ih q hq,UI]
  refine⟨fun r h => ?_,?_⟩
  ·unfold dM at h
   obtain⟨q,hq,h⟩:=List.mem_flatMap.mp h
   rw[ins q r h,h1 q hq,UI]
  ·unfold dM
   rw[List.length_flatMap]
   have e:(dM xs).map (fun a=>(mK x a).length)=(dM xs).map fun _=>xs.length+1:=WO fun q hq=>by rw[vF,h1 q hq]
   rw[e,List.map_const',List.sum_replicate_nat,h2,UI]
   rfl
theorem vH {α:Type}[DecidableEq α]:∀{l m:List α},l.Nodup→(∀x∈l,x∈m)→l.length≤m.length
 | [],m,_,_=>Wy _
 |x::l,m,h,s=>by
  obtain⟨h1,h2⟩:=WL.mp h
  have hx:=s x UL
  have:=vH (m:=m.erase x) h2 fun y hy=>(List.mem_erase_of_ne fun e=>h1 (by rw[←e];exact hy)).mpr (s y (UM _ hy))
  rw[List.length_erase_of_mem hx] at this
  have:0<m.length:=List.length_pos_of_mem hx
  rw[UI];lia
theorem kj:∀(l bY:List (List Int)),bY.Nodup→(l.foldl qi bY).Nodup
 | [],bY,h=>h
 |x::l,bY,h=>by
  refine kj l _ ?_
  unfold qi
  split
  ·exact h
  ·rename_i c
   rw[Zt]
   refine⟨h,by simp,fun a ha b hb e=>c ?_⟩
   rw[U6.mp hb] at e
   rw[←e];exact ha
theorem vI:∀(l bY:List (List Int)) (x:List Int),(x∈bY∨x∈l)→x∈l.foldl qi bY
 | [],bY,x,h=>h.elim id fun z=>by cases z
 |y::l,bY,x,h=>by
  refine vI l _ x ?_
  unfold qi
  rcases h with h|h
  ·split
   ·exact .inl h
   ·exact .inl (V4 _ h)
  ·rcases UU.mp h with rfl|h
   ·split
    ·rename_i c;exact .inl c
    ·exact .inl (U9 _ UL)
   ·exact .inr h
noncomputable def yA (base:List (List Int))(m:Nat):Prop:=base.length≤3∧1≤m∧m≤5∧∀b∈base,b.length=m
noncomputable def KI (base rows:List (List Int)):Prop:=rows≠[]∧∀r∈rows,∃b∈base,r.Perm b
theorem KJ (h:n≤5):Iv n≤120:=by
 have:n=0∨n=1∨n=2∨n=3∨n=4∨n=5:=by lia
 rcases this with rfl|rfl|rfl|rfl|rfl|rfl<;>decide
theorem Cs (hb:yA base m)(h:∀r∈rows,∃b∈base,r.Perm b):(fQ rows).length≤360:=by
 have sub:∀x∈fQ rows,x∈base.flatMap dM:=fun x hx=>by
  rcases lr _ _ _ hx with z|z
  ·cases z
  ·obtain⟨b,h1,h2⟩:=h x z
   exact List.mem_flatMap.mpr ⟨b,h1,nN h2⟩
 refine VC (vH (kj rows [] List.nodup_nil) sub) ?_
 rw[List.length_flatMap]
 have lb:∀l:List (List Int),(∀b∈l,b.length=m)→(l.map fun a=>(dM a).length).sum≤l.length*120:=by
  intro l
  induction l with
  |nil=>intro _;simp
  |cons b l ih =>
   intro h
   rw[UT,List.sum_cons,UI]
   have h1:=ih fun c hc=>h c (UM _ hc)
   have h2:(dM b).length≤120:=by rw[(nO b).2,h b UL];exact KJ hb.2.2.1
   lia
 have:=lb base hb.2.2.2
 have:=hb.1
 lia
theorem nP (few:(fQ rows).length≤360)(ne:∀r∈rows,r≠[])(hn:rows≠[]):∃rows',dR [.lst (rows.map aB)]=.ok (.lst (rows'.map aB))∧rows'≠[]∧rows'.length≤360∧(∀x,x∈rows'↔x∈rows)∧rows'.Nodup:=by
 have e1:rQ (rows.map aB)=some rows:=by
  clear few hn
  induction rows with
  |nil=>rfl
  |cons r rows ih =>
   rw[UT]
   unfold rQ
   have e:B_ (aB r)=some r:=by
    unfold B_ aB
    dsimp only
    rw[iJ]
    cases r with
    |nil=>exact absurd rfl (ne [] UL)
    |cons=>rfl
   rw[e,ih fun q hq=>ne q (UM _ hq)]
 have mem:∀x,x∈nD (fQ rows)↔x∈rows:=fun x=>by
  rw[(dQ _).mem_iff]
  constructor
  ·intro hx
   rcases lr _ _ _ hx with z|z
   ·cases z
   ·exact z
  ·exact fun hx=>vI _ _ _ (.inr hx)
 refine⟨nD (fQ rows),?_,fun e => ?_,by rw[(dQ _).length_eq];exact few,mem,(dQ _).nodup_iff.mpr (kj rows [] List.nodup_nil)⟩
 ·unfold dR
  dsimp only
  rw[e1]
  dsimp only
  rw[if_pos (by lia)]
 ·obtain⟨r,hr⟩:=Zh _ hn
  have:=(mem r).mpr hr
  rw[e] at this;cases this
theorem yB:∀(l bY:List (List Int)),(l.foldl qi bY).length≤bY.length+l.length
 | [],bY=>by simp
 |x::l,bY=>by
  refine VC (yB l _) ?_
  unfold qi
  split<;>simp<;>lia
noncomputable def IB (base:List (List Int))(rows:List (List Int)):Prop:=KI base rows∧rows.length≤360
theorem kl (hb:yA base m)(h:KI base rows):∀r∈rows,r.length=m:=fun r hr=>by
 obtain⟨b,h1,h2⟩:=h.2 r hr
 rw[h2.length_eq,hb.2.2.2 b h1]
theorem iS (hb:yA base m)(h:KI base rows):∃rows',dR [.lst (rows.map aB)]=.ok (.lst (rows'.map aB))∧IB base rows'∧∀x,x∈rows'↔x∈rows:=by
 obtain⟨rows',a1,a2,a3,a4,_⟩:=nP (Cs hb h.2) (fun r hr e=>by
  have h3:=kl hb h r hr
  have h4:=hb.2.1
  rw[e] at h3
  rw[←h3] at h4
  exact absurd h4 (by decide)) h.1
 exact⟨rows',a1,⟨⟨a2,fun r hr=>h.2 r ((a4 r).mp hr)⟩,a3⟩,a4⟩
end Hc
namespace Hc
open L2
open Hc.Ts
noncomputable def bU:Nat→U→Prop
 |0,_=>False
 |d+1,u=>(∃cs,u=.tup [.str "end",aB cs])∨u=.tup [.str "again"]∨(∃p q,u=.tup [.str "lay",aB p,q]∧bU d q)∨(∃(ps:List (List Int)) (q:U),u=.tup [.str "mix",.tup (ps.map aB),q]∧bU d q)∨∃(pl:List Int) (ws:List (List Int×U)),u=.tup [.str "look",aB pl,.tup (ws.map iW)]∧ws≠[]∧ws.length≤5∧∀w∈ws,bU d w.2
theorem mL (cs:List Int):bU (d+1) (.tup [.str "end",aB cs]):=by unfold bU;exact .inl ⟨cs,rfl⟩
theorem Ct:bU (d+1) (.tup [.str "again"]):=by unfold bU;exact .inr (.inl rfl)
theorem IC {p:List Int}{q:U}(h:bU d q):bU (d+1) (.tup [.str "lay",aB p,q]):=by unfold bU;exact .inr (.inr (.inl ⟨p,q,rfl,h⟩))
theorem Cu {ps:List (List Int)}{q:U}(h:bU d q):bU (d+1) (.tup [.str "mix",.tup (ps.map aB),q]):=by unfold bU;exact .inr (.inr (.inr (.inl ⟨ps,q,rfl,h⟩)))
theorem oE {pl:List Int}{ws:List (List Int×U)}(h1:ws≠[])(h2:ws.length≤5)(h:∀w∈ws,bU d w.2):bU (d+1) (.tup [.str "look",aB pl,.tup (ws.map iW)]):=by unfold bU;exact .inr (.inr (.inr (.inr ⟨pl,ws,rfl,h1,h2,h⟩)))
theorem tW {s:U}(h:g7 s)(h1:1≤m)(h8:m≤8):∃cs s',eL [s,.int m]=.ok (.tup [.str "end",aB cs],s')∧g7 s':=by
 obtain⟨os,s1,e1,o1,h1'⟩:=fj (m:=m) h (by lia)
 obtain⟨r,s2,e2,r0,r1,h2⟩:=bK (m:=2) h1' (by decide) (by decide)
 have hz:∃z:Int,jb [U.int 2,U.int m] r=some (.int z)∧0<z∧z≤8:=by
  have:r=0∨r=1:=by lia
  rcases this with rfl|rfl
  ·exact⟨2,rfl,by decide,by decide⟩
  ·exact⟨m,rfl,by lia,by lia⟩
 obtain⟨z,hz,z0,z1⟩:=hz
 obtain⟨t,s3,e3,t0,t1,h3⟩:=bK (m:=z) h2 z0 (by lia)
 obtain⟨k,hk⟩:∃k:Nat,1+t=k:=⟨(1+t).toNat,by lia⟩
 have l2:(2:Nat)≤UA:=by decide
 refine⟨os.take k,s3,?_,h3⟩
 simp only[eL,kh,aA,dg,cG,Nat.reduceAdd,Nat.reduceSub,e1,e2,l2,hz,e3,hk,dW]
 unfold aB
 rw[Ww]
theorem Cv {a:List Int}(h:nM a.length os):(ir a os).Perm a:=by
 unfold ir
 refine (h.map _).trans ?_
 have e:(aZ a.length).map (fun i=>a.getD i.toNat 0)=a:=by
  unfold aZ
  rw[VL]
  refine List.ext_getElem (by simp) fun i h1 h2 => ?_
  rw[List.getElem_map,List.getElem_range]
  show a.getD ((i:Int)).toNat 0=_
  rw[VX,Y5,Uv h2];rfl
 rw[e]
theorem wV (h:nM m os):∀i∈os,0≤i∧i<m:=fun i hi=>wD.mp (h.mem_iff.mp hi)
theorem tX (h:nM m os):os.length=m:=by rw[h.length_eq,eI]
theorem Cw (C0:∀u,dw 0 u (fO js ρ)=.ok [some u,some (aB os)])(h:∀r∈rows,∀i∈os,0≤i∧i<r.length)(hl:os.length≤1000) :
  pD (rk js (dw 0) du (iU 2 bF (ae (ag 0) (ae (ag 1) ak))) ρ) (rows.map aB)=.ok ((rows.map fun r=>ir r os).map aB):=by
 rw[VL]
 refine fU fun r hr => ?_
 unfold rk
 rw[C0]
 simp only[aA,dg,cG,Nat.reduceAdd,Nat.reduceSub,kR (h r hr) hl]
 rfl
theorem mM (hb:yA base m)(h:KI base rows):∃r,jb (rows.map aB) 0=some (aB r)∧r.length=m:=by
 obtain⟨r,rs,rfl⟩:=XH h.1
 exact⟨r,by rw[show (0:Int)=((0:Nat):Int) from rfl,kW];rfl,kl hb h r UL⟩
theorem oF (n:Nat):iD 9 (bG n)=bo n:=rfl
theorem tY (n:Nat):iD 11 (eO n)=g6 n:=rfl
noncomputable def wW (base:List (List Int))(n:Nat)(k:Int)(d:Nat):Prop:=∀rows s b,IB base rows→g7 s→∃u s',bo n [s,.lst (rows.map aB),.int k,.bl b]=.ok (u,s')∧bU d u∧g7 s'
noncomputable def KL (base:List (List Int))(n:Nat)(k:Int)(d:Nat):Prop:=∀rows s b,IB base rows→g7 s→∃u s',g6 n [s,.lst (rows.map aB),.int k,.bl b]=.ok (u,s')∧bU d u∧g7 s'
theorem dN {r:List Int}:aB r=.tup (r.map U.int):=rfl
theorem yC (hb:yA base m)(h:KI base rows)(ho:nM m os):∀x∈rows.map (fun r=>ir r os),∃b∈base,x.Perm b:=fun x hx=>by
 obtain⟨r,hr,rfl⟩:=Vg.mp hx
 obtain⟨b,h1,h2⟩:=h.2 r hr
 have l:=kl hb h r hr
 subst l
 exact⟨b,h1,(Cv ho).trans h2⟩
theorem Cy (hb:yA base m){k:Int}(hk:k<2):wW base (n+1) k 1:=fun rows s b hr hs=>by
 obtain⟨r,e0,l0⟩:=mM hb hr.1
 obtain⟨w,s1,e1,w0,w1,fu⟩:=bK (m:=12) hs (by decide) (by decide)
 obtain⟨cs,s2,e2,bE⟩:=tW (m:=m) fu hb.2.1 (by have:=hb.2.2.1;lia)
 refine⟨_,s2,?_,mL cs,bE⟩
 simp only[bo,bG,aA,dg,cG,Nat.reduceAdd,Nat.reduceSub,e0,dN,Ux,l0,e1,decide_eq_true hk,e2]
theorem Cz (hb:yA base m){k w:Int}(hp:wW base n (k - 1) d){s:U}{b:Bool}(hr:IB base rows)(hk:¬k<2)(e1:aq [s,.int 12]=.ok (.int w,s1))(fu:g7 s1)(w0:¬w=0)(wb:w=1→b=false)(w4:w<4) :
  ∃u s',bo (n+1) [s,.lst (rows.map aB),.int k,.bl b]=.ok (u,s')∧bU (d+1) u∧g7 s':=by
 obtain⟨r,e0,l0⟩:=mM hb hr.1
 have m5:=hb.2.2.1
 obtain⟨os,s2,e2,ho,bE⟩:=fj (m:=m) fu (by lia)
 have e3:=Cw (js:=[none,some 6]) (ρ:=[some s2,some (.lst (rows.map aB)),some (.int k),some (.bl b),some (.int m),some (.int w),some (aB os),none,none]) (rows:=rows) (os:=os) (fun u=>rfl)
  (fun r d8=>by rw[kl hb hr.1 r d8];exact wV ho) (by rw[tX ho];lia)
 obtain⟨rows',e4,hr',_⟩:=iS hb (rows:=rows.map fun r=>ir r os) ⟨fun z=>hr.1.1 (YY.mp z),yC hb hr.1 ho⟩
 obtain⟨u,s3,e5,hu,t7⟩:=hp rows' s2 b hr' bE
 have l3:(3:Nat)≤UA:=by decide
 refine⟨.tup [.str "lay",aB os,u],s3,?_,IC hu,t7⟩
 have b1:(w==0)=false:=beq_eq_false_iff_ne.mpr w0
 rw[dN] at e3 ⊢
 rw[bo,bG,oF,tY]
 by_cases c:w=1
 ·have b3:(w==1)=true:=beq_iff_eq.mpr c
  rw[wb c] at *
  simp only[aA,dg,cG,Nat.reduceAdd,Nat.reduceSub,e0,dN,Ux,l0,e1,decide_eq_false hk,bA,b1,b3,id,decide_eq_true w4,e2,e3,e4,e5,l3]
 ·have b3:(w==1)=false:=beq_eq_false_iff_ne.mpr c
  simp only[aA,dg,cG,Nat.reduceAdd,Nat.reduceSub,e0,dN,Ux,l0,e1,decide_eq_false hk,bA,b1,b3,id,decide_eq_true w4,e2,e3,e4,e5,l3]
theorem CA (hb:yA base m){k w:Int}(hp:wW base n (k - 1) d){s:U}{b:Bool}(hr:IB base rows)(hk:¬k<2)(e1:aq [s,.int 12]=.ok (.int w,s1))(fu:g7 s1)(w4:¬w<4)(w8:w<8) :
  ∃u s',bo (n+1) [s,.lst (rows.map aB),.int k,.bl b]=.ok (u,s')∧bU (d+1) u∧g7 s':=by
 obtain⟨r,e0,l0⟩:=mM hb hr.1
 have m5:=hb.2.2.1
 have sz:UA=16777216:=rfl
 obtain⟨oss,s2,e2,ho,n1,n24,bE⟩:=wU (m:=m) fu hb.2.1 (by lia)
 have Jf:=hr.2
 obtain⟨ρ',e3,A,o,rfl,lA,hA⟩:=eN (sg:=dw 6) (s:=jQ (gM "list" 8 gj (ae (gy (fM (ag 1)) [none,some 6] (dw 0) du (iU 2 bF (ae (ag 0) (ae (ag 1) ak)))) ak)))
  (fun i ρ=>∃(A:List (List Int)) (o:Option U),ρ=[some s2,some (.lst (rows.map aB)),some (.int k),some (.bl b),some (.int m),some (.int w),o,some (.tup (oss.map tO)),some (.lst (A.map aB))]∧A.length=i*rows.length∧∀r∈A,∃b∈base,r.Perm b) (us:=oss.map tO)
  (fun i u ρ hu h00=>by
   obtain⟨A,o,hρ,lA,hA⟩:=h00
   subst hρ
   rw[U8] at hu
   obtain⟨os,Lh,rfl⟩:=Xp.mp hu
   have hm:=Vt Lh
   have hi:i<oss.length:=(UJ.mp Lh).1
   have oo:=ho os hm
   have e3:=Cw (js:=[none,some 6]) (ρ:=[some s2,some (.lst (rows.map aB)),some (.int k),some (.bl b),some (.int m),some (.int w),some (tO os),some (.tup (oss.map tO)),some (.lst (A.map aB))]) (rows:=rows) (os:=os) (fun u=>rfl)
    (fun r d8=>by rw[kl hb hr.1 r d8];exact wV oo) (by rw[tX oo];lia)
   have le:i*rows.length≤24*360:=Nat.mul_le_mul (by lia) Jf
   have lx:(A.map aB).length+((rows.map fun r=>ir r os).map aB).length≤UA:=by simp only[Ux];lia
   refine⟨_,_,rfl,.inl (by
    simp only[W6,V6,aA,dg,cG,Nat.reduceAdd,Nat.reduceSub,e3,Gs,lx]
    rfl),A++rows.map (fun r=>ir r os),some (tO os),?_,?_,?_⟩
   ·rw[Va]
   ·rw[UH,Ux,lA,Nat.add_mul,Nat.one_mul]
   ·intro x hx
    rcases U2.mp hx with z|z
    ·exact hA x z
    ·exact yC hb hr.1 oo x z) (ρ:=[some s2,some (.lst (rows.map aB)),some (.int k),some (.bl b),some (.int m),some (.int w),none,some (.tup (oss.map tO)),some (.lst [])]) ⟨[],none,rfl,by simp,fun r h=>by cases h⟩
 rw[Ux] at lA
 have T_:A≠[]:=fun z=>by
  rw[z] at lA
  have h1:0<rows.length:=List.length_pos_iff.mpr hr.1.1
  have:=Nat.mul_pos (show 0<oss.length by lia) h1
  rw[←lA] at this
  exact absurd this (by decide)
 obtain⟨rows',e4,hr',_⟩:=iS hb (rows:=A) ⟨T_,hA⟩
 obtain⟨u,s3,e5,hu,t7⟩:=hp rows' s2 b hr' bE
 have l3:(3:Nat)≤UA:=by decide
 have LB:(0:Nat)≤UA:=by decide
 refine⟨.tup [.str "mix",.tup (oss.map tO),u],s3,?_,Cu hu,t7⟩
 have b1:(w==0)=false:=beq_eq_false_iff_ne.mpr (by lia)
 have b3:(w==1)=false:=beq_eq_false_iff_ne.mpr (by lia)
 rw[bo,bG,oF,tY]
 simp only[aA,dg,cG,Nat.reduceAdd,Nat.reduceSub,e0,dN,Ux,l0,e1,decide_eq_false hk,bA,b1,b3,id,decide_eq_false w4,decide_eq_true w8,e2,e3,e4,e5,l3,LB]
theorem zL (hb:yA base m){k:Int}(hp:wW base n (k - 1) d)(hl:KL base n k (d+1))(hk:¬k<2):wW base (n+1) k (d+1):=fun rows s b hr hs=>by
 obtain⟨r,e0,l0⟩:=mM hb hr.1
 have m5:=hb.2.2.1
 obtain⟨w,s1,e1,w0,w1,fu⟩:=bK (m:=12) hs (by decide) (by decide)
 by_cases c0:w=0
 ·obtain⟨cs,s2,e2,bE⟩:=tW (m:=m) fu hb.2.1 (by lia)
  refine⟨_,s2,?_,mL cs,bE⟩
  subst c0
  simp only[bo,bG,aA,dg,cG,Nat.reduceAdd,Nat.reduceSub,e0,dN,Ux,l0,e1,decide_eq_false hk,bA,Int.reduceBEq,id,e2]
 by_cases c1:w=1∧b=true
 ·obtain⟨rfl,rfl⟩:=c1
  have l1:(1:Nat)≤UA:=by decide
  refine⟨.tup [.str "again"],s1,?_,Ct,fu⟩
  simp only[bo,bG,aA,dg,cG,Nat.reduceAdd,Nat.reduceSub,e0,dN,Ux,l0,e1,decide_eq_false hk,bA,Int.reduceBEq,id,l1]
 by_cases c4:w<4
 ·exact Cz hb hp hr hk e1 fu c0 (fun z=>by cases b with|false=>rfl|true=>exact absurd ⟨z,rfl⟩ c1) c4
 by_cases c8:w<8
 ·exact CA hb hp hr hk e1 fu c4 c8
 obtain⟨u,s2,e5,hu,bE⟩:=hl rows s1 b hr fu
 refine⟨u,s2,?_,hu,bE⟩
 have b1:(w==0)=false:=beq_eq_false_iff_ne.mpr c0
 have b3:(w==1)=false:=beq_eq_false_iff_ne.mpr (by lia)
 rw[bo,bG,oF,tY]
 simp only[aA,dg,cG,Nat.reduceAdd,Nat.reduceSub,e0,dN,Ux,l0,e1,decide_eq_false hk,bA,b1,b3,id,decide_eq_false c4,decide_eq_false c8,e5]
end Hc
namespace Hc
open L2
open Hc.Ts
theorem r6 {α:Type}{f:U→R (Option U)}{c:α→U}{p:α→Bool}:∀{xs:List α},(∀x∈xs,f (c x)=.ok (if p x=true then some (c x) else none))→pD f (xs.map c)=.ok ((xs.filter p).map c)
 | [],_=>rfl
 |x::xs,h=>by
  rw[UT]
  unfold pD
  rw[h x UL]
  show (pD f (xs.map c)).bind _=_
  rw[r6 fun y hy=>h y (UM _ hy)]
  show R.ok _=_
  rw[List.filter_cons]
  cases p x<;>rfl
noncomputable def Qp (p:U→U→R U)(y:U×Ev)(o:Option (Option U)):R (U×Ev):=match o with
 |some (some u)=>(p u y.1).bind fun z=>.ok (z,y.2)
 |_=>.stk
theorem KN {g:Ev→R (U×Ev)}:EJ j p g ρ=if xS ρ[j]? = true then (g ρ).bind fun y=>Qp p y y.2[j]? else .stk:=nr rfl
theorem KO {y:U×Ev}:Qp p y (some (some u))=(p u y.1).bind fun z=>.ok (z,y.2):=nr rfl
theorem kn {k:Bool}:AS [.bl k]=.ok (.int (if k then 1 else 0)):=nr rfl
theorem KP:kP (.lst us) [u]=if us.length<UA then .ok (.non,.lst (us++[u])) else .stk:=nr rfl
theorem KQ {v pl:List Int}(C0:∀u,dw 0 u (fO js ρ)=.ok [some u,some (aB v),some (aB pl)])(h:∀r∈rows,∀i∈pl,0≤i∧i<r.length)(hl:pl.length≤1000) :
  pD (rk js (dw 0) (gB (aL (zU id) (iU 2 bF (ae (ag 0) (ae (ag 2) ak))) (ag 1))) (ag 0) ρ) (rows.map aB)=.ok ((rows.filter fun r=>decide (ir r pl=v)).map aB):=by
 refine r6 fun r hr => ?_
 unfold rk
 rw[C0]
 have e:i5 (aB (ir r pl)) (aB v)=.ok (decide (ir r pl=v)):=B1 _ _
 by_cases c:ir r pl=v
 ·rw[decide_eq_true c] at e ⊢
  simp only[aA,dg,cG,Nat.reduceAdd,Nat.reduceSub,kR (h r hr) hl,e,id]
 ·rw[decide_eq_false c] at e ⊢
  simp only[aA,dg,cG,Nat.reduceAdd,Nat.reduceSub,kR (h r hr) hl,e,id]
theorem CB:∀{d:Nat} {u:U},bU d u→∃us,u=.tup us
 |0,_,h=>by cases h
 |d+1,u,h=>by
  unfold bU at h
  rcases h with⟨_,rfl⟩|rfl|⟨_,_,rfl,_⟩|⟨_,_,rfl,_⟩|⟨_,_,rfl,_⟩<;>exact⟨_,rfl⟩
theorem iH:∀{ws:List (List Int×U)},(∀w∈ws,∃us,w.2=.tup us)→ke (ws.map iW)=some ws
 | [],_=>rfl
 |w::ws,h=>by
  obtain⟨ks,u⟩:=w
  obtain⟨us,hu⟩:=h _ UL
  dsimp only at hu
  subst hu
  rw[UT]
  have e:yz (iW (ks,.tup us))=some (ks,.tup us):=by
   show (iF (ks.map U.int)).map _=_
   rw[iJ];rfl
  unfold ke
  rw[e,iH fun w hw=>h w (UM _ hw)]
theorem vJ:∀{ps:List (List Int×U)} {k:List Int},k∈ps.map (·.1)→∃p∈ps,jl ps k=p.2
 |p::ps,k,h=>by
  unfold jl
  rw[VS]
  by_cases c:k=p.1
  ·rw[c,beq_self_eq_true]
   exact⟨p,UL,rfl⟩
  ·rw[beq_eq_false_iff_ne.mpr c]
   rw[UT] at h
   obtain⟨q,h1,h2⟩:=vJ ((UU.mp h).resolve_left c)
   exact⟨q,UM _ h1,h2⟩
theorem CC {ws:List (List Int×U)}(h:∀w∈ws,bU d w.2)(nd:(ws.map (·.1)).Nodup)(hl:ws.length≤1000):∃ws':List (List Int×U),qm [.lst (ws.map iW)]=.ok (.lst (ws'.map iW))∧ws'.length=ws.length∧∀w∈ws',bU d w.2:=by
 refine⟨vt ws,?_,?_,fun w hw => ?_⟩
 ·unfold qm
  dsimp only
  rw[iH fun w hw=>CB (h w hw)]
  dsimp only
  rw[if_pos ⟨by lia,nd⟩]
 ·unfold vt;rw[Ux,(dQ _).length_eq,Ux]
 ·obtain⟨k,hk,rfl⟩:=Vg.mp hw
  obtain⟨p,h1,h2⟩:=vJ ((dQ _).mem_iff.mp hk)
  dsimp only
  rw[h2];exact h p h1
theorem tZ (r:List Int):gO (aB r)=some (.tup (r.map .int)):=by unfold aB gO;rw[mE];rfl
theorem ju {α:Type}{f:α→U}{g:α→D}(h:∀x,gO (f x)=some (g x)):∀xs:List α,fx (xs.map f)=some (xs.map g)
 | []=>by unfold fx;rfl
 |x::xs=>by rw[UT];unfold fx;rw[h,ju h xs];rfl
theorem yD (r:List Int):cm (.tup (r.map .int))≤1:=by unfold cm;rw[j6];lia
theorem ER (a b:List Int):fE (.tup (a.map .int)) (.tup (b.map .int))=decide (a=b):=by unfold fE;exact jE a b
theorem wX (c:List Int)(rows:List (List Int)):qz not (aB c) (.lst (rows.map aB))=.ok (.bl (!decide (c∈rows))):=by
 unfold qz tF
 rw[tZ]
 show (match some (D.tup (c.map .int)),fx (rows.map aB) with|some dx,some ds=>_|_,_=>_)=_
 rw[ju tZ]
 dsimp only
 rw[if_pos (by rw[List.all_map];exact VM.mpr fun r _=>decide_eq_true (by have:=yD r;show cm (.tup (r.map .int))≤30;lia))]
 congr 3
 rw[List.any_map]
 have:((fun d=>fE d (.tup (c.map .int)))∘fun r:List Int=>D.tup (r.map .int))=fun r=>decide (r=c):=funext fun r=>ER r c
 rw[this]
 by_cases h:c∈rows
 ·rw[decide_eq_true h];exact YH.mpr ⟨c,h,decide_eq_true rfl⟩
 ·rw[decide_eq_false h];exact Zk.mpr fun r hr e=>h (by rw[←of_decide_eq_true e];exact hr)
theorem zM (hb:yA base m){k:Int}(hp:wW base n (k - 1) d):KL base (n+1) k (d+1):=fun rows s b hr hs=>by
 obtain⟨r,e0,l0⟩:=mM hb hr.1
 have m5:=hb.2.2.1
 have m1:=hb.2.1
 have sz:UA=16777216:=rfl
 obtain⟨os,s1,e1,ho,fu⟩:=fj (m:=m) hs (by lia)
 obtain⟨t,s2,e2,t0,t1,bE⟩:=bK (m:=2) fu (by decide) (by decide)
 obtain⟨kk,hk,k1,km⟩:∃kk:Nat,1+t*(if decide (1<(m:Int))=true then 1 else 0)=(kk:Int)∧1≤kk∧kk≤m:=by
  have:t=0∨t=1:=by lia
  by_cases c:1<(m:Int)
  ·rw[decide_eq_true c,if_pos rfl]
   rcases this with rfl|rfl
   ·exact⟨1,rfl,by lia,by lia⟩
   ·exact⟨2,rfl,by lia,by lia⟩
  ·rw[decide_eq_false c,if_neg (by decide)]
   exact⟨1,by lia,by lia,by lia⟩
 have c1:kN t (if decide (1<(m:Int))=true then 1 else 0)=true:=my t0 (by lia)
 obtain⟨pl,kv⟩:∃pl,pl=os.take kk:=⟨_,rfl⟩
 have Me:(os.map U.int).take kk=pl.map U.int:=by rw[kv,Ww]
 have Ua:pl.length=kk:=by rw[kv,U7,tX ho];lia
 have Q3:∀i∈pl,0≤i∧i<(m:Int):=fun i hi=>wV ho i (V5 (kv▸hi))
 have e3:=Cw (js:=[none,some 5]) (ρ:=[some s2,some (.lst (rows.map aB)),some (.int k),some (.bl b),some (.int m),some (aB pl),none,none,none,none,none]) (rows:=rows) (os:=pl) (fun u=>rfl)
  (fun r d8=>by rw[kl hb hr.1 r d8];exact Q3) (by lia)
 have Jf:=hr.2
 obtain⟨seen,e4,ns,_,ms,nds⟩:=nP (rows:=rows.map fun r=>ir r pl) (by
   have:=yB (rows.map fun r=>ir r pl) []
   rw[Ux] at this
   have e:(([]:List (List Int)).length)=0:=rfl
   unfold fQ
   lia) (fun x hx e=>by
   obtain⟨r,_,rfl⟩:=Vg.mp hx
   have:=congrArg XU e
   unfold ir at this
   rw[Ux,Ua] at this
   have e:(([]:List Int).length)=0:=rfl
   lia) (fun z=>hr.1.1 (YY.mp z))
 rw[g6,eO,oF]
 by_cases c4:4<seen.length
 ·obtain⟨cs,s3,e5,t7⟩:=tW (m:=m) bE m1 (by lia)
  refine⟨_,s3,?_,mL cs,t7⟩
  have d4:decide ((4:Int)<(seen.length:Nat))=true:=decide_eq_true (by lia)
  rw[dN] at e3
  simp only[aA,dg,cG,Nat.reduceAdd,Nat.reduceSub,e0,dN,Ux,l0,e1,e2,zA,kn,c1,hk,dW,Me,e3,e4,d4,e5]
 ·have l2:(2:Nat)≤UA:=by decide
  have l3:(3:Nat)≤UA:=by decide
  have LB:(0:Nat)≤UA:=by decide
  have NR:(1:Nat)≤UA:=by decide
  obtain⟨ρ',e5,s3,ws,o8,o9,rfl,hw,hws,t7⟩:=eN (sg:=dw 8) (s:=aJ (bu 9 (gy (fM (ag 1)) [none,some 8,some 5] (dw 0) (gB (aL (zU id) (iU 2 bF (ae (ag 0) (ae (ag 2) ak))) (ag 1))) (ag 0))) (jQ (gM "list" 7 kP (ae (bR (ae (ag 8) (ae (eZ 4 0 (bo n) (ae (ag 9) (ae (aL mf (ag 2) (gC (.int 1))) (ae (ag 3) ak)))) ak))) ak))))
   (fun i ρ=>∃(s:U) (ws:List (List Int×U)) (o8 o9:Option U),ρ=[some s,some (.lst (rows.map aB)),some (.int k),some (.bl b),some (.int m),some (aB pl),some (.lst (seen.map aB)),some (.lst (ws.map iW)),o8,o9,none]∧ws.map (·.1)=seen.take i∧(∀w∈ws,bU d w.2)∧g7 s) (us:=seen.map aB)
   (fun i u ρ hu h00=>by
    obtain⟨s,ws,o8,o9,hρ,hw,hws,hs⟩:=h00
    subst hρ
    rw[U8] at hu
    obtain⟨v,hv,rfl⟩:=Xp.mp hu
    have f1:=KQ (js:=[none,some 8,some 5]) (ρ:=[some s,some (.lst (rows.map aB)),some (.int k),some (.bl b),some (.int m),some (aB pl),some (.lst (seen.map aB)),some (.lst (ws.map iW)),some (aB v),o9,none]) (rows:=rows) (v:=v) (pl:=pl) (fun u=>rfl)
     (fun r d8=>by rw[kl hb hr.1 r d8];exact Q3) (by lia)
    obtain⟨r1,hr1,hv1⟩:=Vg.mp ((ms v).mp (Vt hv))
    obtain⟨u,s',f2,hu,hs'⟩:=hp (rows.filter fun r=>decide (ir r pl=v)) s b ⟨⟨List.ne_nil_of_mem (YN.mpr ⟨hr1,decide_eq_true hv1⟩),fun r d8=>hr.1.2 r (YN.mp d8).1⟩,VC (List.length_filter_le _ _) Jf⟩ hs
    have lw:(ws.map iW).length<UA:=by
     have:=congrArg XU hw
     rw[Ux,U7] at this
     rw[Ux];lia
    refine⟨_,_,rfl,.inl (by
     simp only[W6,V6,aA,dg,cG,Nat.reduceAdd,Nat.reduceSub,f1,f2,l2,KP,lw]
     rfl),s',ws++[(v,u)],some (aB v),some (.lst ((rows.filter fun r=>decide (ir r pl=v)).map aB)),?_,?_,?_,hs'⟩
    ·rw[Va];rfl
    ·rw[Va,hw,List.take_succ,hv];rfl
    ·intro w Jg
     rcases U2.mp Jg with z|z
     ·exact hws w z
     ·rw[U6.mp z];exact hu) (ρ:=[some s2,some (.lst (rows.map aB)),some (.int k),some (.bl b),some (.int m),some (aB pl),some (.lst (seen.map aB)),some (.lst []),none,none,none]) ⟨s2,[],none,none,rfl,rfl,(fun w h=>by cases h),bE⟩
  rw[Ux,WU] at hw
  have lw:ws.length=seen.length:=by rw[←hw,Ux]
  have ls:0<seen.length:=List.length_pos_iff.mpr ns
  have nw:ws≠[]:=fun z=>by rw[z] at lw;have e:(([]:List (List Int×U)).length)=0:=rfl;lia
  obtain⟨q,s4,e6,q0,q1,GI⟩:=bK (m:=6) t7 (by decide) (by decide)
  have d4:decide ((4:Int)<(seen.length:Nat))=false:=decide_eq_false (by lia)
  rw[dN] at e3 e5
  by_cases cq:q=0
  ·subst cq
   obtain⟨ys,s5,e7,ly,cs,hy,hs5⟩:=iG (G:=gZ) (js:=[none,some 0]) (sg:=dw 0) (ge:=eZ 2 1 aq (ae (gC (.int 10)) ak))
    (fun x:U=>[some x,some (.lst (rows.map aB)),some (.int k),some (.bl b),some (.int m),some (.tup (pl.map U.int)),some (.lst (seen.map aB)),some (.lst (ws.map iW)),o8,o9,none]) pl.length (fun ys x=>∃cs:List Int,ys=cs.map U.int∧g7 x)
    (fun done u x hd h00=>by
     obtain⟨cs,hr,hs⟩:=h00
     obtain⟨r,x',b1,_,_,b4⟩:=bK (m:=10) hs (by decide) (by decide)
     refine⟨[some u,some x],.int r,[some u,some x'],x',rfl,?_,rfl,cs++[r],by rw[hr,Va];rfl,b4⟩
     simp only[aA,dg,cG,Nat.reduceAdd,Nat.reduceSub,b1]) (pl.map U.int) [] s4 (by rw[Ux];simp) ⟨[],rfl,GI⟩
   rw[Wc] at hy
   subst hy
   have e8:qz not (.tup (cs.map U.int)) (.lst (seen.map aB))=.ok (.bl (!decide (cs∈seen))):=wX cs seen
   by_cases cc:cs∈seen
   ·rw[decide_eq_true cc] at e8
    refine⟨.tup [.str "look",.tup (pl.map U.int),.tup (ws.map iW)],s5,?_,oE nw (by lia) hws,hs5⟩
    simp only[aA,dg,cG,Nat.reduceAdd,Nat.reduceSub,e0,dN,Ux,l0,e1,e2,zA,kn,c1,hk,dW,Me,e3,e4,d4,e5,LB,e6,bA,Int.reduceBEq,id,e7,e8,Ya,l3]
   ·rw[decide_eq_false cc] at e8
    obtain⟨ds,s6,e9,hs6⟩:=tW (m:=m) hs5 m1 (by lia)
    obtain⟨ws',e10,lw',hws'⟩:=CC (d:=d) (ws:=ws++[(cs,.tup [.str "end",aB ds])]) (fun w Jg=>by
     rcases U2.mp Jg with z|z
     ·exact hws w z
     ·rw[U6.mp z]
      cases d with
      |zero=>obtain⟨w,hw3⟩:=Zh _ nw;cases hws w hw3
      |succ=>exact mL ds) (by
     rw[Va,hw]
     show (seen++[cs]).Nodup
     rw[Zt]
     exact⟨nds,by simp,fun a ha c hc e=>cc (by rw[U6.mp hc] at e;rw[←e];exact ha)⟩) (by rw[UH];show ws.length+1≤1000;lia)
    rw[UH] at lw'
    have Q4:ws'.length=ws.length+1:=lw'
    have lc:ws.length+1≤UA:=by lia
    rw[Va] at e10
    have Ub:List.map iW [(cs,.tup [.str "end",aB ds])]=[.tup [.tup (cs.map U.int),.tup [.str "end",aB ds]]]:=rfl
    rw[Ub,dN] at e10
    refine⟨.tup [.str "look",.tup (pl.map U.int),.tup (ws'.map iW)],s6,?_,oE (fun z=>by rw[z] at Q4;cases Q4) (by lia) hws',hs6⟩
    simp only[aA,dg,cG,Nat.reduceAdd,Nat.reduceSub,e0,dN,Ux,l0,e1,e2,zA,kn,c1,hk,dW,Me,e3,e4,d4,e5,LB,e6,bA,Int.reduceBEq,id,e7,e8,Yw,KN,KO,NR,l2,l3,e9,lc,e10]
  ·have b6:(q==0)=false:=beq_eq_false_iff_ne.mpr cq
   refine⟨.tup [.str "look",.tup (pl.map U.int),.tup (ws.map iW)],s4,?_,oE nw (by lia) hws,GI⟩
   simp only[aA,dg,cG,Nat.reduceAdd,Nat.reduceSub,e0,dN,Ux,l0,e1,e2,zA,kn,c1,hk,dW,Me,e3,e4,d4,e5,LB,e6,bA,b6,id,l3]
theorem qt {base:List (List Int)}{m:Nat}(hb:yA base m):∀(k n:Nat),wW base (2*k+n+1) ((k:Int)+1) (k+1)
 |0,n=>Cy hb (by lia)
 |k+1,n=>by
  have h1:=qt hb k (n+1)
  have h2:=qt hb k n
  have e:((k+1:Nat):Int)+1 - 1=(k:Int)+1:=by lia
  rw[show 2*(k+1)+n+1=(2*k+(n+1)+1)+1 by lia]
  refine zL hb (by rw[e];exact h1) ?_ (by lia)
  rw[show 2*k+(n+1)+1=(2*k+n+1)+1 by lia]
  exact zM hb (by rw[e];exact h2)
end Hc
namespace Hc
open L2
open Hc.Ts
theorem Rv {a b:U}:rh 2 (g_ (dw i) (g_ (dw j) rg)) (.tup [a,b]) ρ=.ok ((ρ.set i (some a)).set j (some b)):=nr rfl
noncomputable def ID (T1 T2:String)(u:U)(ρ:Ev):R (U×Ev):=if zj u="script" then .stk else .ok (.bl (fc (zj u) T1||fc (zj u) T2),ρ)
theorem yE {T1 T2:String}{g:Ev→R (U×Ev)}:wC T1 T2 g ρ=(g ρ).bind fun x=>ID T1 T2 x.1 x.2:=nr rfl
theorem ES {i:Int}:ID "tuple" "list" (.int i) ρ=.ok (.bl false,ρ):=(if_neg (show ¬("int"="script") by decide)).trans (congrArg (fun z=>R.ok (U.bl z,ρ)) (show (fc "int" "tuple"||fc "int" "list")=false by decide))
theorem ET:ID "tuple" "list" .non ρ=.ok (.bl false,ρ):=(if_neg (show ¬("NoneType"="script") by decide)).trans (congrArg (fun z=>R.ok (U.bl z,ρ)) (show (fc "NoneType" "tuple"||fc "NoneType" "list")=false by decide))
theorem IE:i5 .non .non=.ok true:=by unfold i5 gO;dsimp only;unfold cm;rw[if_pos (by lia)];unfold fE;rfl
noncomputable def iu:Option Int→U
 |none=>.non
 |some i=>.int i
theorem CD:∀z:Option Int,dq 20 [iu z,iu z]=.ok (.bl true)
 |none=>by
  have e:iu none=.non:=rfl
  simp only[dq,eQ,aA,dg,cG,Nat.reduceAdd,Nat.reduceSub,e,yE,ET,IE,Gb,beq_self_eq_true,id]
 |some i=>by
  have e:iu (some i)=.int i:=rfl
  simp only[dq,eQ,aA,dg,cG,Nat.reduceAdd,Nat.reduceSub,e,yE,ES,En,Gb,beq_self_eq_true,id]
theorem iz:jb (u::us) 0=some u:=by rw[show (0:Int)=((0:Nat):Int) from rfl,kW];rfl
theorem iY {v:U}:jb (u::v::us) 1=some v:=by rw[show (1:Int)=((1:Nat):Int) from rfl,kW];rfl
theorem yF {v w:U}:jb (u::v::w::us) 2=some w:=by rw[show (2:Int)=((2:Nat):Int) from rfl,kW];rfl
theorem r9:(UO "end"==UO "end")=true∧(UO "end"==UO "again")=false∧(UO "end"==UO "lay")=false∧(UO "end"==UO "mix")=false∧(UO "end"==UO "look")=false∧(UO "again"==UO "end")=false∧(UO "again"==UO "again")=true∧(UO "again"==UO "lay")=false∧(UO "again"==UO "mix")=false∧(UO "again"==UO "look")=false∧(UO "lay"==UO "end")=false∧(UO "lay"==UO "again")=false∧(UO "lay"==UO "lay")=true∧(UO "lay"==UO "mix")=false∧(UO "lay"==UO "look")=false∧(UO "mix"==UO "end")=false∧(UO "mix"==UO "again")=false∧(UO "mix"==UO "lay")=false∧(UO "mix"==UO "mix")=true∧(UO "mix"==UO "look")=false∧(UO "look"==UO "end")=false∧(UO "look"==UO "again")=false∧(UO "look"==UO "lay")=false∧(UO "look"==UO "mix")=false∧(UO "look"==UO "look")=true:=by decide
theorem KR {f:Bool→Bool}(hx:gO u=some dx)(hs:fx us=some ds)(hd:∀d∈ds,cm d≤30):qz f u (.tup us)=.ok (.bl (f (ds.any fun d=>fE d dx))):=by
 unfold qz
 rw[hx,show (tF (.tup us)).bind fx=some ds from hs]
 dsimp only
 rw[if_pos (VM.mpr fun d h=>decide_eq_true (hd d h))]
theorem Nn {f:Bool→Bool}(hx:gO u=some dx)(hs:fx us=some ds)(hd:∀d∈ds,cm d≤30):qz f u (.lst us)=.ok (.bl (f (ds.any fun d=>fE d dx))):=by
 unfold qz
 rw[hx,show (tF (.lst us)).bind fx=some ds from hs]
 dsimp only
 rw[if_pos (VM.mpr fun d h=>decide_eq_true (hd d h))]
theorem jv {a b c:Str}:qz id (.str a) (.tup [.str b,.str c])=.ok (.bl (b==a||c==a)):=by
 rw[KR (dx:=.str a) (ds:=[.str b,.str c]) (by simp[gO]) (by simp[fx,gO]) (by
  intro d h
  simp only[UU,YF,or_false] at h
  rcases h with rfl|rfl<;>(unfold cm;lia))]
 simp[fE]
theorem EU (n:Nat):fZ .S 1 (eP n)=dU n:=rfl
theorem CF {B:Int}:∀{zs:List Int},(∀z∈zs,0≤z∧z≤B)→0≤zs.sum∧zs.sum≤zs.length*B
 | [],_=>by simp
 |z::zs,h=>by
  have:=CF fun y hy=>h y (UM _ hy)
  have:=h z UL
  rw[List.sum_cons,UI,Int.natCast_add,Int.add_mul]
  lia
theorem CG {α β:Type}{f:U→R (Option U)}{c:α→U}{g:β→U}{P:β→Prop}:∀{xs:List α},(∀x∈xs,∃y,f (c x)=.ok (some (g y))∧P y)→∃ys:List β,pD f (xs.map c)=.ok (ys.map g)∧ys.length=xs.length∧∀y∈ys,P y
 | [],_=>⟨[],rfl,rfl,fun y h=>by cases h⟩
 |x::xs,h=>by
  obtain⟨y,h1,h2⟩:=h x UL
  obtain⟨ys,h3,h4,h5⟩:=CG (P:=P) (g:=g) fun z hz=>h z (UM _ hz)
  refine⟨y::ys,?_,by rw[UI,UI,h4],fun z hz=>(UU.mp hz).elim (fun e=>e▸h2) (h5 z)⟩
  rw[UT,UT]
  unfold pD
  rw[h1]
  show (pD f (xs.map c)).bind _=_
  rw[h3];rfl
theorem oG:∀{d n:Nat} {u:U},bU d u→d≤n→d≤6→∃z:Int,dU n [u]=.ok (.int z)∧0≤z∧z≤10 ^ d
 |0,_,_,h,_,_=>by cases h
 |d+1,0,_,_,h,_=>by lia
 |d+1,n+1,u,h,hn,hd=>by
  have p1:(1:Int)≤10 ^ d:=by have:(0:Int)<10 ^ d:=Int.pow_pos (by decide);lia
  have p2:(10:Int) ^ (d+1)=10 ^ d*10:=Int.pow_succ _ _
  have p3:(10:Int) ^ d≤100000:=by
   have:d=0∨d=1∨d=2∨d=3∨d=4∨d=5:=by lia
   rcases this with rfl|rfl|rfl|rfl|rfl|rfl<;>decide
  have l2:(2:Nat)≤UA:=by decide
  rw[dU,eP,EU,p2]
  unfold bU at h
  rcases h with⟨cs,rfl⟩|rfl|⟨p,q,rfl,hq⟩|⟨ps,q,rfl,hq⟩|⟨pl,ws,rfl,h1,h5,hw⟩
  ·exact⟨1,by simp only[aA,dg,cG,Nat.reduceAdd,Nat.reduceSub,iz,jv,r9,X1,b_,id,l2],by lia,by lia⟩
  ·exact⟨1,by simp only[aA,dg,cG,Nat.reduceAdd,Nat.reduceSub,iz,jv,r9,X1,b_,id,l2],by lia,by lia⟩
  ·obtain⟨z,e,z0,z1⟩:=oG (n:=n) hq (by lia) (by lia)
   exact⟨1+z,by simp only[aA,dg,cG,Nat.reduceAdd,Nat.reduceSub,iz,yF,jv,r9,Bool.true_or,b_,id,e,l2],by lia,by lia⟩
  ·obtain⟨z,e,z0,z1⟩:=oG (n:=n) hq (by lia) (by lia)
   exact⟨1+z,by simp only[aA,dg,cG,Nat.reduceAdd,Nat.reduceSub,iz,yF,jv,r9,Bool.or_true,b_,id,e,l2],by lia,by lia⟩
  ·obtain⟨zs,e,lz,hz⟩:=CG (f:=rk [none] (dw 0) du (iU 1 (dU n) (ae (aL fF (ag 0) (gC (.int 1))) ak)) [some (.tup [.str "look",aB pl,.tup (ws.map iW)])]) (c:=iW) (g:=U.int) (P:=fun z=>0≤z∧z≤10 ^ d) (xs:=ws) fun w Jg=>by
    obtain⟨z,e,z0,z1⟩:=oG (n:=n) (hw w Jg) (by lia) (by lia)
    refine⟨z,?_,z0,z1⟩
    unfold iW
    simp only[aA,dg,cG,Nat.reduceAdd,Nat.reduceSub,iY,e]
   obtain⟨s0,s1⟩:=CF hz
   have sm:qj zs=true:=by
    unfold qj
    rw[Vu]
    exact⟨decide_eq_true (by lia),VM.mpr fun z h=>decide_eq_true (by have:=hz z h;lia)⟩
   have ps:vn [.lst (zs.map U.int)]=.ok (.int zs.sum):=by
    unfold vn
    dsimp only
    rw[iJ]
    dsimp only
    rw[if_pos sm]
   refine⟨1+zs.sum,?_,by lia,?_⟩
   ·simp only[aA,dg,cG,Nat.reduceAdd,Nat.reduceSub,iz,yF,jv,r9,X1,b_,id,e,ps,l2]
   ·have:(zs.length:Int)*10 ^ d≤5*10 ^ d:=Int.mul_le_mul_of_nonneg_right (by lia) (by lia)
    lia
noncomputable def iw (ps:List (List Int)):U:=.tup (ps.map aB)
theorem CH (ps:List (List Int)):gO (iw ps)=some (.tup (ps.map fun r=>.tup (r.map .int))):=by unfold iw gO;rw[ju tZ];rfl
theorem CI {B:Nat}:∀{ds:List D},(∀d∈ds,cm d≤B)→gc ds≤B+1
 | [],_=>by unfold gc;lia
 |d::ds,h=>by
  have h1:=h d UL
  have h2:=CI fun x hx=>h x (UM _ hx)
  unfold gc
  lia
theorem EV (ps:List (List Int))(ms:List (List (List Int))):∃b,qz id (iw ps) (.tup (ms.map iw))=.ok (.bl b):=by
 refine⟨_,KR (CH ps) (ju CH ms) fun d hd => ?_⟩
 obtain⟨m,_,rfl⟩:=Vg.mp hd
 unfold cm
 have:=CI (B:=1) (ds:=m.map fun r=>D.tup (r.map .int)) fun x hx=>by
  obtain⟨r,_,rfl⟩:=Vg.mp hx
  exact yD r
 lia
noncomputable def zN:Option Int→D
 |none=>.non
 |some i=>.int i
theorem EW (z:Option Int):gO (iu z)=some (zN z):=by cases z<;>simp[iu,zN,gO]
theorem EX (z:Option Int):cm (zN z)=0:=by cases z<;>simp[zN,cm]
theorem IF (zs:List (Option Int)):qz id .non (.lst (zs.map iu))=.ok (.bl (decide (none∈zs))):=by
 rw[Nn (dx:=.non) (by simp[gO]) (ju EW zs) fun d hd=>by
  obtain⟨z,_,rfl⟩:=Vg.mp hd
  rw[EX];lia]
 congr 2
 rw[List.any_map]
 have:((fun d=>fE d D.non)∘zN)=fun z=>decide (z=none):=funext fun z=>by cases z<;>simp[zN,fE]
 rw[this]
 show List.any zs _=_
 by_cases h:none∈zs
 ·rw[decide_eq_true h];exact YH.mpr ⟨none,h,decide_eq_true rfl⟩
 ·rw[decide_eq_false h];exact Zk.mpr fun r hr e=>h (by rw[←of_decide_eq_true e];exact hr)
theorem vK:∀{zs:List (Option Int)},none∉zs→∃ks:List Int,zs.map iu=ks.map U.int∧ks.length=zs.length
 | [],_=>⟨[],rfl,rfl⟩
 |none::zs,h=>absurd UL h
 |some k::zs,h=>by
  obtain⟨ks,e,l⟩:=vK fun z=>h (UM _ z)
  exact⟨k::ks,by rw[UT,e];rfl,by rw[UI,l];rfl⟩
theorem IG {ks:List Int}(h:ks≠[]):∃k,ql [.lst (ks.map U.int)]=.ok (.int k):=by
 obtain⟨n,ns,rfl⟩:=XH h
 refine⟨tE n ns,?_⟩
 unfold ql
 dsimp only
 rw[iJ]
theorem EY (z:Option Int):Kt (iu z):=by cases z;exact Ep;exact Eo _
theorem IH (n:Nat):fZ .S 4 (fA n)=cI n:=rfl
theorem II (n:Nat):fZ .S 4 (d7 n)=bB n:=rfl
end Hc
namespace Hc
open L2
open Hc.Ts
theorem wY {i:Int}:iu (some i)=.int i:=rfl
theorem mN:iu none=.non:=rfl
theorem oH {f:U→R (Option U)}:pD f []=.ok []:=rfl
theorem yG:i5 (.lst []) (.lst [])=.ok true:=B0 (us:=[]) fun u h=>by cases h
theorem yH {P:U→Option Int→Prop}:∀{us:List U},(∀u∈us,∃z,P u z)→∃xs:List (U×Option Int),xs.map (·.1)=us∧∀x∈xs,P x.1 x.2
 | [],_=>⟨[],rfl,fun x h=>by cases h⟩
 |u::us,h=>by
  obtain⟨z,hz⟩:=h u UL
  obtain⟨xs,e,hx⟩:=yH fun w hw=>h w (UM _ hw)
  exact⟨(u,z)::xs,by rw[UT,e],fun x h=>(UU.mp h).elim (fun e=>e▸hz) (hx x)⟩
theorem EZ {F:List U→R U}{M:U}{xs:List (U×Option Int)}(C0:∀u,dw 0 u (fO js ρ)=.ok [some u,some M])(h:∀x∈xs,F [x.1,M]=.ok (iu x.2)) :
  pD (rk js (dw 0) du (iU 2 F (ae (ag 0) (ae (ag 1) ak))) ρ) (xs.map (·.1))=.ok ((xs.map (·.2)).map iu):=by
 rw[VL]
 refine fU fun x hx => ?_
 unfold rk
 rw[C0]
 simp only[aA,dg,cG,Nat.reduceAdd,Nat.reduceSub,h x hx]
 rfl
theorem yI {xs:List (U×Option Int)}(hx:xs≠[]):i5 (.lst ((xs.map (·.2)).map iu)) (.lst [])=.ok false∧((qz id .non (.lst ((xs.map (·.2)).map iu))=.ok (.bl true))∨(qz id .non (.lst ((xs.map (·.2)).map iu))=.ok (.bl false)∧∃k,ql [.lst ((xs.map (·.2)).map iu)]=.ok (.int k))):=by
 refine⟨?_,?_⟩
 ·rw[B0 fun u hu=>by obtain⟨z,_,rfl⟩:=Vg.mp hu;exact EY z]
  obtain⟨x,xs,rfl⟩:=XH hx
  rfl
 ·rw[IF]
  by_cases c:none∈xs.map (·.2)
  ·exact .inl (by rw[decide_eq_true c])
  ·refine .inr ⟨by rw[decide_eq_false c],?_⟩
   obtain⟨ks,e,l⟩:=vK c
   rw[e]
   refine IG fun z=>hx ?_
   rw[z,Ux] at l
   exact VJ l.symm
theorem qu (ms:List (List (List Int))):∀{d n:Nat} {u:U},bU d u→d≤n→∃z,cI n [u,.tup (ms.map iw)]=.ok (iu z)∧bB n [u,.tup (ms.map iw)]=.ok (iu z)
 |0,_,_,h,_=>by cases h
 |d+1,0,_,_,h=>by lia
 |d+1,n+1,u,h,hn=>by
  have l0:(0:Nat)≤UA:=by decide
  have l1:(1:Nat)≤UA:=by decide
  rw[cI,fA,IH,bB,d7,II]
  unfold bU at h
  rcases h with⟨cs,rfl⟩|rfl|⟨p,q,rfl,hq⟩|⟨ps,q,rfl,hq⟩|⟨pl,ws,rfl,h1,h5,hw⟩
  ·refine⟨some 0,?_,?_⟩<;>simp only[aA,dg,cG,Nat.reduceAdd,Nat.reduceSub,iz,r9,b_,id,wY]
  ·refine⟨none,?_,?_⟩<;>simp only[aA,dg,cG,Nat.reduceAdd,Nat.reduceSub,iz,r9,b_,id,mN,l0,oH,yG]
  ·refine⟨none,?_,?_⟩<;>simp only[aA,dg,cG,Nat.reduceAdd,Nat.reduceSub,iz,r9,b_,id,mN,l0,oH,yG]
  ·obtain⟨b,eb⟩:=EV ps ms
   have eb:qz id (.tup (ps.map aB)) (.tup (ms.map iw))=.ok (.bl b):=eb
   cases b with
   |false =>
    refine⟨none,?_,?_⟩<;>simp only[aA,dg,cG,Nat.reduceAdd,Nat.reduceSub,iz,iY,r9,b_,id,mN,l0,oH,yG,eb]
   |true =>
    obtain⟨z,ea,el⟩:=qu ms (n:=n) hq (by lia)
    have d1:=EZ (F:=cI n) (js:=[none,some 1]) (ρ:=[some (.tup [.str "mix",.tup (ps.map aB),q]),some (.tup (ms.map iw)),some (.lst [q]),none]) (M:=.tup (ms.map iw)) (xs:=[(q,z)]) (fun u=>rfl) (fun x hx=>by rw[U6.mp hx];exact ea)
    have d2:=EZ (F:=bB n) (js:=[none,some 1]) (ρ:=[some (.tup [.str "mix",.tup (ps.map aB),q]),some (.tup (ms.map iw)),some (.lst [q]),none]) (M:=.tup (ms.map iw)) (xs:=[(q,z)]) (fun u=>rfl) (fun x hx=>by rw[U6.mp hx];exact el)
    obtain⟨t1,t2⟩:=yI (xs:=[(q,z)]) (by simp)
    simp only[UT,WW] at d1 d2 t1 t2
    rcases t2 with t2|⟨t2,k,t3⟩
    ·refine⟨none,?_,?_⟩<;>simp only[aA,dg,cG,Nat.reduceAdd,Nat.reduceSub,iz,iY,yF,r9,b_,id,mN,l0,l1,eb,d1,d2,t1,t2]
    ·refine⟨some (1+k),?_,?_⟩<;>simp only[aA,dg,cG,Nat.reduceAdd,Nat.reduceSub,iz,iY,yF,r9,b_,id,wY,l0,l1,eb,d1,d2,t1,t2,t3]
  ·by_cases c:pl.length=1
   ·have c1:(((pl.map U.int).length:Nat):Int)==1:=by rw[Ux,c];rfl
    obtain⟨xs,ex,hx⟩:=yH (P:=fun u z=>cI n [u,.tup (ms.map iw)]=.ok (iu z)∧bB n [u,.tup (ms.map iw)]=.ok (iu z)) (us:=ws.map (·.2)) fun u hu=>by
     obtain⟨w,Jg,rfl⟩:=Vg.mp hu
     exact qu ms (n:=n) (hw w Jg) (by lia)
    have ew:∀ρ,pD (rk [none] (dw 0) du (aL fF (ag 0) (gC (.int 1))) ρ) (ws.map iW)=.ok (ws.map (·.2)):=fun ρ=>fU fun w _=>by
     unfold iW
     unfold rk
     rw[show dw 0 (U.tup [aB w.1,w.2]) (fO [none] ρ)=.ok [some (.tup [aB w.1,w.2])] from rfl]
     simp only[aA,dg,cG,Nat.reduceAdd,Nat.reduceSub,iY]
    have d1:=EZ (F:=cI n) (js:=[none,some 1]) (ρ:=[some (.tup [.str "look",.tup (pl.map U.int),.tup (ws.map iW)]),some (.tup (ms.map iw)),some (.lst (ws.map (·.2))),none]) (M:=.tup (ms.map iw)) (xs:=xs) (fun u=>rfl) (fun x h=>(hx x h).1)
    have d2:=EZ (F:=bB n) (js:=[none,some 1]) (ρ:=[some (.tup [.str "look",.tup (pl.map U.int),.tup (ws.map iW)]),some (.tup (ms.map iw)),some (.lst (ws.map (·.2))),none]) (M:=.tup (ms.map iw)) (xs:=xs) (fun u=>rfl) (fun x h=>(hx x h).2)
    rw[ex] at d1 d2
    obtain⟨t1,t2⟩:=yI (xs:=xs) (fun z=>by rw[z] at ex;exact h1 (YY.mp ex.symm))
    rcases t2 with t2|⟨t2,k,t3⟩
    ·refine⟨none,?_,?_⟩<;>simp only[aA,dg,cG,Nat.reduceAdd,Nat.reduceSub,iz,iY,yF,r9,dN,b_,bA,c1,id,mN,l0,l1,ew,d1,d2,t1,t2]
    ·refine⟨some (1+k),?_,?_⟩<;>simp only[aA,dg,cG,Nat.reduceAdd,Nat.reduceSub,iz,iY,yF,r9,dN,b_,bA,c1,id,wY,l0,l1,ew,d1,d2,t1,t2,t3]
   ·have c1:((((pl.map U.int).length:Nat):Int)==1)=false:=by rw[Ux];exact beq_eq_false_iff_ne.mpr (by lia)
    refine⟨none,?_,?_⟩<;>simp only[aA,dg,cG,Nat.reduceAdd,Nat.reduceSub,iz,iY,yF,r9,dN,b_,bA,c1,id,mN,l0,oH,yG]
end Hc
namespace Hc
open L2
open Hc.Ts
theorem wZ {n:Int}(h0:0≤n)(h1:n≤100000):nE (.lst [u]) (.int n)=.ok (.lst (VT n.toNat u)):=by
 have e:nE (.lst [u]) (.int n)=if 0≤n∧n≤100000∧[u].length*n.toNat≤100000∧[u].isEmpty=false then .ok (.lst (VT n.toNat [u]).flatten) else .stk:=nr rfl
 rw[e,if_pos ⟨h0,h1,by simp;lia,rfl⟩]
 congr 2
 generalize n.toNat=m
 induction m with
 |zero=>rfl
 |succ m ih=>rw[Wf,Vj,ih,Wf];rfl
theorem IJ (n:Nat):fZ .S 4 (cP n)=cf n:=rfl
theorem lL:∀{d n:Nat} {u:U},bU d u→d≤n→d≤6→∃sh:List (List (List Int)),cf n [u]=.ok (.lst (sh.map iw))∧sh.length≤10 ^ d
 |0,_,_,h,_,_=>by cases h
 |d+1,0,_,_,h,_=>by lia
 |d+1,n+1,u,h,hn,hd=>by
  have sz:UA=16777216:=rfl
  have p1:1≤10 ^ d:=Nat.one_le_iff_ne_zero.mpr (by have:=Nat.pow_pos (n:=d) (show 0<10 by decide);lia)
  have p2:10 ^ (d+1)=10 ^ d*10:=WG _ _
  have p3:10 ^ d≤100000:=by
   have:d=0∨d=1∨d=2∨d=3∨d=4∨d=5:=by lia
   rcases this with rfl|rfl|rfl|rfl|rfl|rfl<;>decide
  have l0:(0:Nat)≤UA:=by decide
  have l1:(1:Nat)≤UA:=by decide
  have l2:(2:Nat)≤UA:=by decide
  rw[cf,cP,IJ,p2]
  unfold bU at h
  rcases h with⟨cs,rfl⟩|rfl|⟨p,q,rfl,hq⟩|⟨ps,q,rfl,hq⟩|⟨pl,ws,rfl,h1,h5,hw⟩
  ·exact⟨[],by simp only[aA,dg,cG,Nat.reduceAdd,Nat.reduceSub,iz,jv,r9,Bool.true_or,id,l0,l2],by rw[WM];lia⟩
  ·exact⟨[],by simp only[aA,dg,cG,Nat.reduceAdd,Nat.reduceSub,iz,jv,r9,Bool.or_true,id,l0,l2],by rw[WM];lia⟩
  ·obtain⟨sh,e,l⟩:=lL (n:=n) hq (by lia) (by lia)
   refine⟨sh,?_,by lia⟩
   have m0:nE (.lst [aB p]) (.int 0)=.ok (.lst []):=wZ (by decide) (by decide)
   have lx:0+sh.length≤UA:=by lia
   simp only[aA,dg,cG,Nat.reduceAdd,Nat.reduceSub,iz,iY,yF,jv,r9,X1,b_,id,l1,l2,kn,Vi,if_false,m0,e,Ux,lx]
  ·obtain⟨sh,e,l⟩:=lL (n:=n) hq (by lia) (by lia)
   by_cases c:((ps.length:Nat):Int)<7
   ·refine⟨ps::sh,?_,by rw[UI];lia⟩
    have m0:nE (.lst [.tup (ps.map aB)]) (.int 1)=.ok (.lst [.tup (ps.map aB)]):=wZ (by decide) (by decide)
    have lx:0+1+sh.length≤UA:=by lia
    have Uc:1+sh.length≤UA:=by lia
    simp only[aA,dg,cG,Nat.reduceAdd,Nat.reduceSub,iz,iY,yF,jv,r9,X1,b_,id,l1,l2,kn,Ux,decide_eq_true c,if_true,m0,e,lx,Uc,iw]
   ·refine⟨sh,?_,by lia⟩
    have m0:nE (.lst [.tup (ps.map aB)]) (.int 0)=.ok (.lst []):=wZ (by decide) (by decide)
    have lx:0+sh.length≤UA:=by lia
    simp only[aA,dg,cG,Nat.reduceAdd,Nat.reduceSub,iz,iY,yF,jv,r9,X1,b_,id,l1,l2,kn,Ux,decide_eq_false c,Vi,if_false,m0,e,lx]
  ·obtain⟨ρ',e,A,o2,o3,rfl,lA⟩:=eN (sg:=rh 2 (g_ (dw 2) (g_ (dw 3) rg))) (s:=bu 1 (aL b9 (ag 1) (iU 1 (cf n) (ae (ag 3) ak)))) (us:=ws.map iW)
    (fun i ρ=>∃(A:List (List (List Int))) (o2 o3:Option U),ρ=[some (.tup [.str "look",aB pl,.tup (ws.map iW)]),some (.lst (A.map iw)),o2,o3]∧A.length≤i*10 ^ d)
    (fun i u ρ hu h00=>by
     obtain⟨A,o2,o3,hρ,lA⟩:=h00
     subst hρ
     rw[U8] at hu
     obtain⟨w,hv,rfl⟩:=Xp.mp hu
     have hi:i<ws.length:=(UJ.mp hv).1
     obtain⟨sh,e,l⟩:=lL (n:=n) (hw w (Vt hv)) (by lia) (by lia)
     have le:i*10 ^ d≤5*10 ^ d:=Nat.mul_le_mul_right _ (by lia)
     have lx:A.length+sh.length≤UA:=by lia
     refine⟨_,_,Rv,.inl (by
      simp only[W6,V6,aA,dg,cG,Nat.reduceAdd,Nat.reduceSub,e,Ux,lx]
      rfl),A++sh,some (aB w.1),some w.2,?_,?_⟩
     ·rw[Va]
     ·rw[UH,Nat.add_mul,Nat.one_mul];lia) (ρ:=[some (.tup [.str "look",aB pl,.tup (ws.map iW)]),some (.lst []),none,none]) ⟨[],none,none,rfl,by simp⟩
   rw[Ux] at lA
   have le:ws.length*10 ^ d≤5*10 ^ d:=Nat.mul_le_mul_right _ h5
   refine⟨A,?_,by lia⟩
   simp only[aA,dg,cG,Nat.reduceAdd,Nat.reduceSub,iz,yF,jv,r9,X1,b_,id,l0,l2,e]
theorem IK (n:Nat):iD 7 (dD n)=cy n:=rfl
theorem r_ {G:Gm}{js:List (Option Nat)}{sg:U→Ev→R Ev}{ge:Ev→R (U×Ev)}{σ:Type}(ev:σ→Ev)(I:List U→σ→Prop) :
  ∀(us done:List U) (s:σ),(∀done u s,u∈us→I done s→∃ρi y ρi' s',sg u (fO js (ev s))=.ok ρi∧ge ρi=.ok (y,ρi')∧wb G js ρi' (ev s)=ev s'∧I (done++[y]) s')→I done s→∃ys s',kL G js sg du ge us (ev s)=.ok (ys,ev s')∧ys.length=us.length∧I (done++ys) s'
 | [],done,s,_,h=>⟨[],s,rfl,rfl,by rw[Vw];exact h⟩
 |u::us,done,s,step,h=>by
  obtain⟨ρi,y,ρi',s',e1,e2,e3,h'⟩:=step done u s UL h
  obtain⟨ys,CL,e4,e5,h''⟩:=r_ ev I us (done++[y]) s' (fun d u s hu=>step d u s (UM _ hu)) h'
  refine⟨y::ys,CL,?_,by rw[UI,UI,e5],by rw[UZ] at h'';exact h''⟩
  rw[BJ,e1,qG,yb,qG,if_pos rfl,e2,qG,e3,e4,qG]
theorem mO {m:Nat}(m1:1≤m)(m8:m≤8):∀(k n:Nat) (s:U),k<n→g7 s→∃u s',cy n [s,.int m,.int k]=.ok (u,s')∧bU (k+1) u∧g7 s'
 |k,0,_,h,_=>by lia
 |k,n+1,s,h,hs=>by
  have l1:(1:Nat)≤UA:=by decide
  have l2:(2:Nat)≤UA:=by decide
  have l3:(3:Nat)≤UA:=by decide
  obtain⟨w,s1,e1,w0,w1,fu⟩:=bK (m:=3) hs (by decide) (by decide)
  rw[cy,dD,IK]
  by_cases c:k=0∨w=0
  ·obtain⟨os,s2,e2,ho,bE⟩:=fj (m:=m) fu (by lia)
   obtain⟨t,s3,e3,t0,t1,t7⟩:=bK (m:=m) bE (by lia) (by lia)
   obtain⟨z,hz⟩:∃z:Nat,1+t=z:=⟨(1+t).toNat,by lia⟩
   refine⟨.tup [.str "end",aB (os.take z)],s3,?_,mL _,t7⟩
   by_cases c0:k=0
   ·subst c0
    have b0:(((0:Nat):Int)==0)=true:=rfl
    simp only[aA,dg,cG,Nat.reduceAdd,Nat.reduceSub,e1,bA,b0,id,e2,e3,hz,dW,l2,dN,Ww]
   ·have cw:w=0:=c.resolve_left c0
    subst cw
    have b0:(((k:Nat):Int)==0)=false:=beq_eq_false_iff_ne.mpr (by lia)
    simp only[aA,dg,cG,Nat.reduceAdd,Nat.reduceSub,e1,bA,b0,Int.reduceBEq,id,e2,e3,hz,dW,l2,dN,Ww]
  ·obtain⟨k,rfl⟩:∃j,k=j+1:=⟨k - 1,by lia⟩
   have b0:(((k+1:Nat):Int)==0)=false:=beq_eq_false_iff_ne.mpr (by lia)
   have b1:(w==0)=false:=beq_eq_false_iff_ne.mpr (by lia)
   have ek:((k+1:Nat):Int) - 1=(k:Nat):=by lia
   by_cases c1:w=1
   ·subst c1
    obtain⟨os,s2,e2,ho,bE⟩:=fj (m:=m) fu (by lia)
    obtain⟨ot,s3,e3,ht,t7⟩:=fj (m:=m) bE (by lia)
    obtain⟨t,s4,e4,t0,t1,GI⟩:=bK (m:=2) t7 (by decide) (by decide)
    have hz:∃ps:List (List Int),jb [U.tup [.tup (os.map U.int)],U.tup [.tup (os.map U.int),.tup (ot.map U.int)]] t=some (.tup (ps.map aB)):=by
     have:t=0∨t=1:=by lia
     rcases this with rfl|rfl
     ·exact⟨[os],iz⟩
     ·exact⟨[os,ot],iY⟩
    obtain⟨ps,hz⟩:=hz
    obtain⟨u,s5,e5,hu,hs5⟩:=mO m1 m8 k n s4 (by lia) GI
    refine⟨.tup [.str "mix",.tup (ps.map aB),u],s5,?_,Cu hu,hs5⟩
    simp only[aA,dg,cG,Nat.reduceAdd,Nat.reduceSub,e1,bA,b0,Int.reduceBEq,id,e2,e3,e4,l1,l2,l3,hz,ek,e5]
   ·have b2:(w==1)=false:=beq_eq_false_iff_ne.mpr c1
    obtain⟨t,s2,e2,t0,t1,bE⟩:=bK (m:=3) fu (by decide) (by decide)
    obtain⟨z,hz⟩:∃z:Nat,1+t=z:=⟨(1+t).toNat,by lia⟩
    obtain⟨ys,s3,e3,ly,ws,hy,hws,t7⟩:=r_ (G:=fI) (js:=[none,some 0,some 1,some 2]) (sg:=dw 0) (ge:=bR (ae (bR (ae (ag 0) ak)) (ae (eZ 3 1 (cy n) (ae (ag 2) (ae (aL mf (ag 3) (gC (.int 1))) ak))) ak)))
     (fun x:U=>[some x,some (.int m),some (.int ((k+1:Nat):Int)),some (.int w),none,none,none]) (fun ys x=>∃ws:List (List Int×U),ys=ws.map iW∧(∀w∈ws,bU (k+1) w.2)∧g7 x) (aE 0 z) [] s2
     (fun done u x hu h00=>by
      obtain⟨ws,hr,hws,hx⟩:=h00
      rw[gA] at hu
      obtain⟨c,_,rfl⟩:=Vg.mp hu
      obtain⟨v,x',f1,hv,oI⟩:=mO m1 m8 k n x (by lia) hx
      refine⟨_,iW ([c],v),[some (.int c),some x',some (.int m),some (.int ((k+1:Nat):Int))],x',rfl,?_,rfl,ws++[([c],v)],by rw[hr,Va];rfl,?_,oI⟩
      ·simp only[fO,V6,aA,dg,cG,Nat.reduceAdd,Nat.reduceSub,ek,f1,l1,l2]
       rfl
      ·intro y hy
       rcases U2.mp hy with q|q
       ·exact hws y q
       ·rw[U6.mp q];exact hv) ⟨[],rfl,(fun w h=>by cases h),bE⟩
    rw[Wc] at hy
    subst hy
    rw[aY,Ux] at ly
    obtain⟨q,s4,e4,q0,q1,GI⟩:=bK (m:=m) t7 (by lia) (by lia)
    refine⟨.tup [.str "look",aB [q],.tup (ws.map iW)],s4,?_,oE (fun y=>by rw[y] at ly;have e:(([]:List (List Int×U)).length)=0:=rfl;lia) (by lia) hws,GI⟩
    simp only[aA,dg,cG,Nat.reduceAdd,Nat.reduceSub,e1,bA,b0,b1,b2,id,e2,hz,ik z (by lia),e3,e4,l1,l3,dN]
end Hc
namespace Hc
open L2
open Hc.Ts
theorem E1 {s:U}(hs:g7 s):∃(base:List (List Int)) (m:Nat) (rows:List (List Int)) (s':U),fS [s,.int 3]=.ok (.lst (rows.map aB),s')∧yA base m∧IB base rows∧g7 s':=by
 obtain⟨t,s1,e1,t0,t1,fu⟩:=bK (m:=5) hs (by decide) (by decide)
 obtain⟨m,hm⟩:∃m:Nat,1+t=m:=⟨(1+t).toNat,by lia⟩
 obtain⟨q,s2,e2,q0,q1,bE⟩:=bK (m:=3) fu (by decide) (by decide)
 obtain⟨z,hz⟩:∃z:Nat,1+q=z:=⟨(1+q).toNat,by lia⟩
 obtain⟨ys,s3,e3,ly,base,hy,hb,t7⟩:=iG (G:=jo) (js:=[none,some 0,some 2]) (sg:=dw 0) (ge:=eZ 2 1 eK (ae (ag 2) ak))
  (fun x:U=>[some x,some (.int 3),some (.int m),none]) z (fun ys x=>∃base:List (List Int),ys=base.map aB∧(∀b∈base,b.length=m)∧g7 x)
  (fun done u x hd h00=>by
   obtain⟨base,hr,hb,hx⟩:=h00
   obtain⟨row,x',f1,f2,_,oI⟩:=IA (m:=m) hx (by lia)
   refine⟨[some u,some x,some (.int m)],aB row,[some u,some x',some (.int m)],x',rfl,?_,rfl,base++[row],by rw[hr,Va];rfl,?_,oI⟩
   ·simp only[aA,dg,cG,Nat.reduceAdd,Nat.reduceSub,f1,dN]
   ·intro b Ud
    rcases U2.mp Ud with y|y
    ·exact hb b y
    ·rw[U6.mp y];exact f2) (aE 0 z) [] s2 (by rw[aY];simp) ⟨[],rfl,(fun b h=>by cases h),bE⟩
 rw[Wc] at hy
 subst hy
 rw[aY,Ux] at ly
 have bas:yA base m:=⟨by lia,by lia,by lia,hb⟩
 obtain⟨rows,e4,hr,_⟩:=iS bas (rows:=base) ⟨fun y=>by rw[y] at ly;have e:(([]:List (List Int)).length)=0:=rfl;lia,fun r hr=>⟨r,hr,Wa _⟩⟩
 refine⟨base,m,rows,s3,?_,bas,hr,t7⟩
 simp only[fS,jq,aA,dg,cG,Nat.reduceAdd,Nat.reduceSub,e1,hm,e2,hz,ik z (by lia),e3,e4]
theorem CJ {s:U}{b:Bool}(hb:yA base m)(hr:IB base rows)(hs:g7 s):∃u s',d6 [s,.lst (rows.map aB),.int 4,.bl b]=.ok (u,s')∧bU 4 u∧g7 s':=by
 obtain⟨rows',e1,hr',_⟩:=iS hb hr.1
 obtain⟨u,s1,e2,hu,fu⟩:=qt hb 3 1 rows' s b hr' hs
 have e2:bo 8 [s,.lst (rows'.map aB),.int 4,.bl b]=.ok (u,s1):=e2
 obtain⟨z,e3,_,_⟩:=oG (n:=20) hu (by decide) (by decide)
 have l1:(1:Nat)≤UA:=by decide
 have l2:(2:Nat)≤UA:=by decide
 by_cases c:z<61
 ·refine⟨u,s1,?_,hu,fu⟩
  simp only[d6,gq,aA,dg,cG,Nat.reduceAdd,Nat.reduceSub,e1,e2,e3,decide_eq_true c]
 ·refine⟨.tup [.str "end",aB [0]],s1,?_,mL _,fu⟩
  simp only[d6,gq,aA,dg,cG,Nat.reduceAdd,Nat.reduceSub,e1,e2,e3,decide_eq_false c,l1,l2,dN]
noncomputable def KS (u:U)(ρ:Ev):R (U×Ev):=match u with
 | .lst us=>.ok (.lst us.reverse,ρ)
 |_=>.stk
theorem KU {g:Ev→R (U×Ev)}:EG g ρ=(g ρ).bind fun x=>KS x.1 x.2:=nr rfl
theorem KW:KS (.lst us) ρ=.ok (.lst us.reverse,ρ):=nr rfl
noncomputable def bI:Ev→SR:=(aJ (bu 6 (jx i6 (iU 1 (cf 20) (ae (ag 5) ak)) cn (bS (gC (.int 3)))))
 (aJ (bu 7 (bR (ae (eZ 2 2 aI (ae (ag 4) ak)) ak)))
 (aJ (bu 8 (cD (ae (jx i6 (fL df (ae (aL b9 (ag 6) (cD (ae (ag 7) ak))) ak)) cn (bS (gC (.int 3)))) (ae (fL df (ae (aL b9 (jx i6 (ag 6) (bS (gC (.int 1))) cn) (cD (ae (ag 7) ak))) ak)) (ae (bR (ae (ag 7) ak)) (ae (jx i6 (fL df (ae (aL b9 (EG (ag 6)) (cD (ae (ag 7) ak))) ak)) cn (bS (gC (.int 3)))) ak))))))
 (kF (fM (ag 8)) (dw 9)
 (iV (ze (gB (iU 2 (dq 20) (ae (iU 2 (cI 20) (ae (ag 5) (ae (ag 9) ak))) (ae (iU 2 (bB 20) (ae (ag 5) (ae (ag 9) ak))) ak))))) (bV (gC (.bl false))) bT)))))
noncomputable def bL:Ev→SR:=(aJ (bu 2 (iU 2 d5 (ae (ag 0) (ae (ag 1) ak))))
 (aJ (bu 3 (eZ 2 2 fS (ae (gC (.int 3)) ak)))
 (aJ (bu 4 (fL iE (ae (aL fF (ag 3) (gC (.int 0))) ak)))
 (kF (fM (cD (ae (eZ 4 2 d6 (ae (ag 3) (ae (gC (.int 4)) (ae (aL (fR id) (eZ 2 2 aq (ae (gC (.int 3)) ak)) (gC (.int 0))) ak)))) (ae (eZ 3 2 (cy 6) (ae (ag 4) (ae (gC (.int 3)) ak))) ak)))) (dw 5) bI))))
theorem CK:Co=(aJ (kF (fN (ae (fL uE (ae (gC (.int 1)) (ae (fL rm (ae (fL iE (ae (ag 0) ak)) (ae (gC (.int 4)) ak))) ak))) ak)) (dw 1) bL) (bV (gC (.bl true)))):=rfl
theorem Np:ic us none (some 3)=us.take 3:=dW us 3
theorem KY:ic us (some 1) none=us.drop 1:=jt us 1
theorem KZ (m8:m≤8){x0 x1 x3 x6 x7 x8 x9:Option U}{s:U}(hs:g7 s)(hu:bU d u)(hd:d≤6):∃(s':U) (y6 y7 y8 y9:Option U),bI [x0,x1,some s,x3,some (.int m),some u,x6,x7,x8,x9]=.nx [x0,x1,some s',x3,some (.int m),some u,y6,y7,y8,y9]∧g7 s':=by
 have sz:UA=16777216:=rfl
 obtain⟨sh,e1,_⟩:=lL (n:=20) hu (by lia) hd
 obtain⟨os,s1,e2,ho,fu⟩:=fj (m:=m) hs (by lia)
 obtain⟨fs,hfs⟩:∃fs,fs=sh.take 3:=⟨_,rfl⟩
 have ef:(sh.map iw).take 3=fs.map iw:=by rw[hfs,Ww]
 have lf:fs.length≤3:=by rw[hfs,U7];lia
 have l1:(1:Nat)≤UA:=by decide
 have l4:(4:Nat)≤UA:=by decide
 have lx:fs.length+1≤UA:=by lia
 have ly:fs.length - 1+1≤UA:=by lia
 have mA:(fs.map iw++[U.tup [.tup (os.map U.int)]]).take 3=((fs++[[os]]).take 3).map iw:=by rw[Ww,Va];rfl
 have mB:(fs.map iw).drop 1++[U.tup [.tup (os.map U.int)]]=(fs.drop 1++[[os]]).map iw:=by rw[Va,YM];rfl
 have mC:[U.tup [.tup (os.map U.int)]]=([[os]]:List (List (List Int))).map iw:=rfl
 have mD:((fs.map iw).reverse++[U.tup [.tup (os.map U.int)]]).take 3=((fs.reverse++[[os]]).take 3).map iw:=by rw[Ww,Va,List.map_reverse];rfl
 have fin:∀(Ms:List (List (List (List Int)))) (y6 y7 y8:Option U),∃y9,gU (dw 9) (iV (ze (gB (iU 2 (dq 20) (ae (iU 2 (cI 20) (ae (ag 5) (ae (ag 9) ak))) (ae (iU 2 (bB 20) (ae (ag 5) (ae (ag 9) ak))) ak))))) (bV (gC (.bl false))) bT) (Ms.map fun ms=>.tup (ms.map iw)) [x0,x1,some s1,x3,some (.int m),some u,y6,y7,y8,x9]=.nx [x0,x1,some s1,x3,some (.int m),some u,y6,y7,y8,y9]:=by
  intro Ms y6 y7 y8
  obtain⟨ρ',e,y9,rfl⟩:=eN (sg:=dw 9) (s:=iV (ze (gB (iU 2 (dq 20) (ae (iU 2 (cI 20) (ae (ag 5) (ae (ag 9) ak))) (ae (iU 2 (bB 20) (ae (ag 5) (ae (ag 9) ak))) ak))))) (bV (gC (.bl false))) bT) (us:=Ms.map fun ms=>.tup (ms.map iw)) (fun _ ρ=>∃y9,ρ=[x0,x1,some s1,x3,some (.int m),some u,y6,y7,y8,y9])
   (fun i v ρ hv h00=>by
    obtain⟨y9,hρ⟩:=h00
    subst hρ
    rw[U8] at hv
    obtain⟨ms,_,rfl⟩:=Xp.mp hv
    obtain⟨z,f1,f2⟩:=qu ms (n:=20) hu (by lia)
    refine⟨_,_,rfl,.inl (by
     simp only[W6,V6,aA,dg,cG,Nat.reduceAdd,Nat.reduceSub,f1,f2,CD]
     rfl),_,rfl⟩) (ρ:=[x0,x1,some s1,x3,some (.int m),some u,y6,y7,y8,x9]) ⟨_,rfl⟩
  exact⟨y9,e⟩
 have em:[(fs++[[os]]).take 3,fs.drop 1++[[os]],[[os]],(fs.reverse++[[os]]).take 3].map (fun ms=>U.tup (ms.map iw))=[U.tup ((fs.map iw++[U.tup [.tup (os.map U.int)]]).take 3),U.tup ((fs.map iw).drop 1++[U.tup [.tup (os.map U.int)]]),U.tup [U.tup [.tup (os.map U.int)]],U.tup (((fs.map iw).reverse++[U.tup [.tup (os.map U.int)]]).take 3)]:=by
  rw[mA,mB,mD];rfl
 obtain⟨y9,e3⟩:=fin [(fs++[[os]]).take 3,fs.drop 1++[[os]],[[os]],(fs.reverse++[[os]]).take 3] (some (.lst (fs.map iw))) (some (.tup [.tup (os.map U.int)])) (some (.lst [U.tup ((fs.map iw++[U.tup [.tup (os.map U.int)]]).take 3),U.tup ((fs.map iw).drop 1++[U.tup [.tup (os.map U.int)]]),U.tup [U.tup [.tup (os.map U.int)]],U.tup (((fs.map iw).reverse++[U.tup [.tup (os.map U.int)]]).take 3)]))
 rw[em] at e3
 refine⟨s1,some (.lst (fs.map iw)),some (.tup [.tup (os.map U.int)]),some (.lst [U.tup ((fs.map iw++[U.tup [.tup (os.map U.int)]]).take 3),U.tup ((fs.map iw).drop 1++[U.tup [.tup (os.map U.int)]]),U.tup [U.tup [.tup (os.map U.int)]],U.tup (((fs.map iw).reverse++[U.tup [.tup (os.map U.int)]]).take 3)]),y9,?_,fu⟩
 unfold bI
 simp only[aA,dg,cG,Nat.reduceAdd,Nat.reduceSub,e1,Np,KY,ef,e2,l1,l4,KU,KW,Ux,YX,Vl,lx,ly,e3]
theorem K0 {x2 x3 x4 x5 x6 x7 x8 x9:Option U}:∃a b c d e f g h:Option U,bL [some (.scr (ns.map .int)),some (.int i),x2,x3,x4,x5,x6,x7,x8,x9]=.nx [some (.scr (ns.map .int)),some (.int i),a,b,c,d,e,f,g,h]:=by
 obtain⟨s0,e0,h0⟩:=Cp (us:=[]) (u:=.scr (ns.map .int)) (ns:=ns) (k:=i) (.inl rfl) (by lia)
 obtain⟨base,m,rows,s1,e1,hb,hr,h1⟩:=E1 h0
 have m5:=hb.2.2.1
 obtain⟨r,e2,NS⟩:=mM hb hr.1
 obtain⟨t,s2,e3,_,_,h2⟩:=bK (m:=3) h1 (by decide) (by decide)
 obtain⟨u,s3,e4,hu,h3⟩:=CJ (b:=t==0) hb hr h2
 obtain⟨v,s4,e5,hv,h4⟩:=mO (m:=m) hb.2.1 (by lia) 3 6 s3 (by decide) h3
 have e5:cy 6 [s3,.int m,.int 3]=.ok (v,s4):=e5
 have l2:(2:Nat)≤UA:=by decide
 obtain⟨ρ',e6,s',a,b,c,d,o,rfl,_⟩:=eN (sg:=dw 5) (s:=bI) (us:=[u,v]) (fun _ ρ=>∃(s':U) (a b c d o:Option U),ρ=[some (.scr (ns.map .int)),some (.int i),some s',some (.lst (rows.map aB)),some (.int m),o,a,b,c,d]∧g7 s')
  (fun j w ρ hw h00=>by
   obtain⟨s',a,b,c,d,o,hρ,hs'⟩:=h00
   subst hρ
   have hp:bU 4 w:=by
    have hm:=Vt hw
    simp only[UU,YF,or_false] at hm
    rcases hm with rfl|rfl
    ·exact hu
    ·exact hv
   obtain⟨CL,y6,y7,y8,y9,q,hq⟩:=KZ (m:=m) (by lia) (x0:=some (.scr (ns.map .int))) (x1:=some (.int i)) (x3:=some (.lst (rows.map aB))) (x6:=a) (x7:=b) (x8:=c) (x9:=d) hs' hp (by decide)
   exact⟨_,_,rfl,.inl q,_,_,_,_,_,_,rfl,hq⟩)
  (ρ:=[some (.scr (ns.map .int)),some (.int i),some s4,some (.lst (rows.map aB)),some (.int m),x5,x6,x7,x8,x9]) ⟨_,_,_,_,_,_,rfl,h4⟩
 refine⟨some s',some (.lst (rows.map aB)),some (.int m),o,a,b,c,d,?_⟩
 unfold bL
 simp only[aA,dg,cG,Nat.reduceAdd,Nat.reduceSub,e0,e1,e2,dN,Ux,NS,e3,bA,id,e4,e5,l2,e6]
theorem pure_law (ns:List Int)(hl:ns.length≤63):vx [.scr (ns.map .int)]=.ok (.bl true):=by
 obtain⟨z,hz⟩:∃z:Nat,(if (if (4:Int)<(((ns.map U.int).length:Nat):Int) then 4 else (((ns.map U.int).length:Nat):Int))>1 then (if (4:Int)<(((ns.map U.int).length:Nat):Int) then 4 else (((ns.map U.int).length:Nat):Int)) else 1)=z:=⟨(if (if (4:Int)<(((ns.map U.int).length:Nat):Int) then 4 else (((ns.map U.int).length:Nat):Int))>1 then (if (4:Int)<(((ns.map U.int).length:Nat):Int) then 4 else (((ns.map U.int).length:Nat):Int)) else 1).toNat,by split<;>(try split)<;>lia⟩
 have zb:z≤1000:=by split at hz<;>(try split at hz)<;>lia
 obtain⟨ρ',e,a,b,c,d,e',f,g,h,j,rfl⟩:=eN (us:=aE 0 z) (sg:=dw 1) (s:=bL) (fun _ ρ=>∃a b c d e f g h j:Option U,ρ=[some (.scr (ns.map .int)),a,b,c,d,e,f,g,h,j])
  (fun i u ρ hu h00=>by
   obtain⟨a,b,c,d,e,f,g,h,j,hr⟩:=h00
   subst hr
   have hi:i<z:=by
    rcases W0 i z with y|y
    ·exact y
    ·rw[V_.mpr (by rw[aY];exact y)] at hu;cases hu
   obtain rfl:u=.int i:=by
    rw[lK,U8,Xk hi] at hu
    cases hu;rfl
   obtain⟨a1,b1,c1,d1,e1,f1,g1,h1,q⟩:=K0 (ns:=ns) (i:=i) (x2:=b) (x3:=c) (x4:=d) (x5:=e) (x6:=f) (x7:=g) (x8:=h) (x9:=j)
   exact⟨_,_,rfl,.inl q,_,_,_,_,_,_,_,_,_,rfl⟩)
  (ρ:=[some (.scr (ns.map .int)),none,none,none,none,none,none,none,none,none]) ⟨_,_,_,_,_,_,_,_,_,rfl⟩
 unfold vx
 rw[CK]
 simp only[aA,dg,cG,Nat.reduceAdd,Nat.reduceSub,hz,ik z (by lia),e]
end Hc
namespace Hc
open L2
theorem walk {q:XI}{d:DefRec}{K:Params→UB}(K5:d.params.defaults=[])(hY:∀(w:Xx) (h:Xi),YP w h→(K w.params).In h)(F:∀(w:Xx) (mg:Str→Option Uz) (fa:UY) (h:Xi),(K w.params).In h→h.Ns U3 mg→mg d.name=some (.ref fa) →
   ∃fd:YJ,(∀(s:UQ) (u:Uz),BindsTo s fd ⟨[u],[]⟩ [("script",u)])∧∀base:Xi,(K w.params).In base→base.Ns U3 mg→jL PySem.Challenge.rw_hushcards_k71_plans_of_a_menu.prog w (K w.params) mg base uj 23 fa fd ["script"] (uA (K w.params))) :
  PySem.W.WalkO q loose XP YP PySem.Challenge.rw_hushcards_k71_plans_of_a_menu.row.toRowW d [] (fun f vs=>PySem.call f vs) :=
 L2.walk_of (l:=PySem.Challenge.rw_hushcards_k71_plans_of_a_menu) (n:=63) (k:=23) (x:="script") (CX:=fun _=>uj) (sp:=fun w=>uA (K w.params)) rfl (by decide) K5 ⟨rfl,by decide,by decide⟩ hY F (fun _ _ a ns hl hO hS=>⟨a,ns,rfl,HB hO hS,hl,fun _=>rfl⟩) fun _ _ _ _ _ z=>z
end Hc
open PySem PySem.W PyProof.Rows
set_option maxRecDepth 100000 in
set_option maxHeartbeats 0 in
theorem PySem.Challenge.cw_hushcards_k71_plans_of_a_menu_holds : PySem.Challenge.rw_hushcards_k71_plans_of_a_menu.Holds := by
 w_on;o_law;k_head;(case hw=>w_witness2)
 k_fill
 refine Hc.walk rfl (fun w h Y=>PySem.W.kIn_of Y) ?F
 case F =>
  intro w mg fa h KX G K6
  refine' Hc.all_mk KX G K6 ?a0 ?l0 ?c0 ?k0 ?a1 ?l1 ?c1 ?k1 ?a2 ?l2 ?c2 ?k2 ?a3 ?l3 ?c3 ?k3 ?a4 ?l4 ?c4 ?k4 ?a5 ?l5 ?c5 ?k5 ?a6 ?l6 ?c6 ?k6 ?a7 ?l7 ?c7 ?k7 ?a8 ?l8 ?c8 ?k8 ?a9 ?l9 ?c9 ?k9 ?N9 ?N_ ?Oa ?Ob ?Om ?Oo ?Oq ?Ot ?OD ?OE ?OF ?OG ?OR ?OS ?OT ?OU ?O4 ?O5 ?O6 ?O7 ?Pg ?Ph ?Pj ?Pl ?Px ?Py ?Pz ?PB ?PU ?PV ?PX ?PY ?L_ ?Ma ?Mb ?Mc ?z_all ?z_bool ?z_int ?z_isinstance ?z_len ?z_list ?z_max ?z_min ?z_range ?z_set ?z_sorted ?z_sum ?z_tuple ?z_zip Hc.pure_law
  (case a0=>k_is)
  (case l0=>k_is)
  (case c0=>k_is)
  (case k0=>k_is)
  (case a1=>k_is)
  (case l1=>k_is)
  (case c1=>k_is)
  (case k1=>k_is)
  (case a2=>k_is)
  (case l2=>k_is)
  (case c2=>k_is)
  (case k2=>k_is)
  (case a3=>k_is)
  (case l3=>k_is)
  (case c3=>k_is)
  (case k3=>k_is)
  (case a4=>k_is)
  (case l4=>k_is)
  (case c4=>k_is)
  (case k4=>k_is)
  (case a5=>k_is)
  (case l5=>k_is)
  (case c5=>k_is)
  (case k5=>k_is)
  (case a6=>k_is)
  (case l6=>k_is)
  (case c6=>k_is)
  (case k6=>k_is)
  (case a7=>k_is)
  (case l7=>k_is)
  (case c7=>k_is)
  (case k7=>k_is)
  (case a8=>k_is)
  (case l8=>k_is)
  (case c8=>k_is)
  (case k8=>k_is)
  (case a9=>k_is)
  (case l9=>k_is)
  (case c9=>k_is)
  (case k9=>k_is)
  (case N9=>k_is)
  (case N_=>k_is)
  (case Oa=>k_is)
  (case Ob=>k_is)
  (case Om=>k_is)
  (case Oo=>k_is)
  (case Oq=>k_is)
  (case Ot=>k_is)
  (case OD=>k_is)
  (case OE=>k_is)
  (case OF=>k_is)
  (case OG=>k_is)
  (case OR=>k_is)
  (case OS=>k_is)
  (case OT=>k_is)
  (case OU=>k_is)
  (case O4=>k_is)
  (case O5=>k_is)
  (case O6=>k_is)
  (case O7=>k_is)
  (case Pg=>k_is)
  (case Ph=>k_is)
  (case Pj=>k_is)
  (case Pl=>k_is)
  (case Px=>k_is)
  (case Py=>k_is)
  (case Pz=>k_is)
  (case PB=>k_is)
  (case PU=>k_is)
  (case PV=>k_is)
  (case PX=>k_is)
  (case PY=>k_is)
  (case L_=>k_is)
  (case Ma=>k_is)
  (case Mb=>k_is)
  (case Mc=>k_is)
  (case z_all=>k_is)
  (case z_bool=>k_is)
  (case z_int=>k_is)
  (case z_isinstance=>k_is)
  (case z_len=>k_is)
  (case z_list=>k_is)
  (case z_max=>k_is)
  (case z_min=>k_is)
  (case z_range=>k_is)
  (case z_set=>k_is)
  (case z_sorted=>k_is)
  (case z_sum=>k_is)
  (case z_tuple=>k_is)
  (case z_zip=>k_is)