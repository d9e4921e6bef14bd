import PyProof.Rows.All
import Wide.All
import OpenK.AllK
import Wide.FinOn
import Lean
import PyProof.EqAt
import PyProof.EqKinds
import PyProof.TupleCall
import PyProof.NeKinds
import PyProof.TupleKey
import PyProof.DictRoadsH
import PySem.SetTable
import PyProof.SetRoads
import PyProof.DictKeyH
import PyProof.IsRules
import PyProof.Rows.SetFrom
import PyProof.WalksMore
import PyProof.ListMulRoad
import PyProof.FactsAll.subtypes_4
import PyProof.Rows.ListMulArg
import PyProof.ZipIter
import PyProof.Rows.SortRuns
import PyProof.Rows.SortKey
import PyProof.Rows.SortShell
import PyProof.Rows.SortWalk
import KE.KSortTup
import KE.KDictList
import PyProof.AutoListH
import PyProof.SumWalk
import PyProof.WalkInts
import PySem.Challenge.RW_hushcards_k21_plans_looked_at
abbrev hG:=@decide_eq_true
abbrev hJ:=@decide_eq_false
abbrev hU.{u}:=@if_neg.{u}
abbrev hV.{u}:=@if_pos.{u}
set_option Elab.async false
set_option linter.all false
set_option maxRecDepth 100000
set_option maxHeartbeats 4000000
open PySem renaming wpAny_bind->X6,sizeLine->Yf,wpAny_pure->Yg,Value->Yj,Shared->Yv,starEach->YC,wpAny->YE,Addr->YG,model->YQ,mainGlobals->Y2,bootBuiltins->Zg,Around->Zk,wpAny_newObj_type->Zl,compareOp->Zn,mem_of_lookup->ZC,wpAny_callSpecial?_slot->ZD,wpAny_call_entry->ZG,wpAny_truthy_bool->ZI,wpAny_setState_of->ZK,wpAny_mono->ZR,wpAny_holding->Z6,wpAny_field->aaa,foldedSetIterable->aah,sizeLine_eq->aau,wpAny_askSetting->aaw,Expr->aaE,codeAny_builtin->aaG,wpAny_setField_rec->aaR,wpAny_seqItems->aaV,Heap->aaX,wpAny_passesOwn->aaZ,binaryOp->aa3,assignEach->aa6,wpAny_rule->aa8,Program->aa9,World->abc,backTo->abe,cLine->abg,behindInMarks->abl,IsPair->abq,SetTable->abx,unsupported->abF,eval->abN,start->abO,wpAny_attempt->abW,Stmt->ab4,wpAny_pyIter_list->ab5,sliceBounds->ab8,call_meets->ab9,HeapKind->ach,wpAny_setField->aci,codeAny_mono->acj,wpAny_typeOf->acm,wpAny_updateSeq_pair->acs,FuncData->acu,wpAny_execs_nil->acA,swapsWith->acB,letOwnedTupleGo->acC,wpAny_of_eq->acF,wpAny_setEntries_of->acI,wpAny_pyIter_tuple->acS,wpAny_Call_Name_kw->acU,intKind->ac2,wpAny_runValue->ac4,firstArgMember->ac7,Scope->ada,seqIndex?->adg,NameKind->adn,PassesOwn->ado,pickOrder->adq
open List renaming getElem?_eq_getElem->X7,length_map->X8,length_cons->X_,mem_cons_of_mem->Ya,mem_cons_self->Yb,length_append->Yc,size_toArray->Yh,mem_cons->Yk,all_eq_true->Yo,map_cons->Yp,getElem?_eq_some_iff->Yr,mem_singleton->Yw,mem_append->Yx,length_take->Yy,mem_map->Yz,length_singleton->YA,append_assoc->YB,getElem?_map->YL,mem_append_right->YM,length_nil->YN,length_drop->YO,not_mem_nil->YR,range->YS,map_append->YT,append_nil->YV,set_cons_zero->YY,replicate->YZ,getElem?_set_ne->Y5,mem_of_getElem?->Y6,flatten_cons->Y7,map_map->Y9,take_append_drop->Y_,getElem_mem->Za,set_cons_succ->Zb,mem_of_mem_take->Zd,length_range->Zh,mem_range->Zi,mem_of_mem_drop->Zr,getElem?_append_right->Zs,eq_nil_of_length_eq_zero->Zv,nil_append->Zx,perm_append_comm->ZA,getElem?_cons_succ->ZE,length_pos_iff->ZF,lookup_cons->ZH,getElem?_append_left->ZJ,all_cons->ZU,exists_cons_of_ne_nil->ZX,mem_append_left->ZY,take_of_length_le->ZZ,drop_eq_getElem_cons->Z1,getElem?_eq_none_iff->Z2,pairwise_map->Z9,length_set->aab,take_succ_eq_append_getElem->aag,length->aai,map_congr_left->aam,exists_mem_of_ne_nil->aao,nodup_cons->aaq,zip_cons_cons->aat,mem_nil_iff->aav,take_length->aax,mem_iff_getElem->aay,map_nil->aaz,replicate_succ->aaH,flatten_append->aaI,mem_map_of_mem->aaJ,map_eq_nil_iff->aaK,pairwise_iff_getElem->aaU,extract_eq_take_drop->aaW,getElem?_range->aa4,sum_cons->aa5,drop_eq_nil_of_le->aa_,pairwise_cons->abb,perm_ext_iff_of_nodup->abp,getD->abv,drop_length->aby,cons_append->abB,isEmpty_nil->abC,any_eq_true->abD,mem_flatMap->abE,reverse_append->abG,forIn_cons->abS,getElem?_drop->abT,foldl_cons->abU,getElem?_take->abX,map_take->abZ,getElem?_set_self->ab1,sum_replicate_nat->ab3,nodup_append->acd,getElem_take->ace,drop_zero->acg,length_replicate->ack,nodup_range->acq,mem_filter->acy,filterMap_cons->acz,of_mem_zip->acD,getD_eq_getElem?_getD->acR,mem_filterMap->acT,all_map->acW,nodup_nil->ac6,drop_drop->ac9,getElem?_take_of_lt->ade,filterMap_cons_some->adi,ext_getElem?->adj,flatMap_cons->adm,Nodup->ads
open PySem.Heap renaming get?_push_of_some->X9,get?_push_size->Ym,lt_size->Yu,size_push->ZQ,get?_update_self->aaM,SameBut->abd
open Bool renaming false_ne_true->Yd,false_eq_true->Yn,and_eq_true->Ys,false_and->YU,not_false->YX,true_and->Y1,not_true->Ze,or_eq_false_iff->Zq,and_false->Zy,eq_false_iff->ZT,eq_iff_iff->aap,and_true->aaN,or_eq_true->abh
open PySem.W renaming Frag->Ye,mg_none_of->Zc,nsIn->Zw,kia_one->Z0,fnOf->aaf,keepIn->aa7,mg_of->abY,findIn->acf,codeIn->ac3,methodObj->adb
open Array renaming length_toList->Yi,getElem?_toList->YJ,getElem?_eq_getElem->YW,toList_append->Zo,getElem?_eq_some_iff->Zt,toList_extract->aaY,toList_push->aa2,toList_reverse->abt,getD->aca,toList_setIfInBounds->acP,perm_iff_toList_perm->acQ
open Nat renaming le_refl->Yl,ne_of_lt->YK,lt_of_lt_of_le->Y4,le_trans->Zj,min_eq_left->Z4,le_add_right->Z7,lt_irrefl->Z_,mul_assoc->aac,add_sub_cancel_left->aad,zero_le->aak,mul_comm->aar,zero_add->aaA,pow_succ->aaB,lt_succ_of_lt->aaC,le_of_lt_succ->aaD,lt_or_ge->aaO,ne_of_gt->abf,succ_pos->abi,mod_lt->abo,pow_le_pow_right->abr,lt_of_le_of_lt->abR,mul_left_comm->ab_,lt_trichotomy->acb,lt_succ_self->acp,sub_self->acY,add_zero->acZ,add_sub_cancel->ac1
open PySem.Str renaming ofString->Yq
open PyProof.Rows renaming wpS_bind->Yt,wpS_pure->YD,SortSt->YH,Keyed->YI,pendingOf->Y0,arrOf->Y8,kindOf->ZM,wpS_forRange->ZO,IntsAre->ZS,step_dedup->ZW,slot_tuple_getitem->aaj,callWith_type1->aaF,wpS_mono->aaS,SortKind->abz,failedOf->abA,wpS_modify->abI,reverseSlice'->acx,envOfC->acV,seqObj->acX,gallopOf->ac0,elem'->ac8,wpS_get->ac_,KeyOrd->adp
open Option.some renaming inj->YF
open PyProof.Rows.KeyOrd renaming kle_trans->Y3,kle_of_klt->Zm,kle_refl->Z5
open PySem.Builtin.SmallTypes renaming nextOf->Zf,ownedTupleIsFree->Z8,ownedTupleHandOut->abw
open Int renaming toNat_natCast->Zu,emod_lt_of_pos->aaP,emod_nonneg->abj
open List.Perm renaming append_left->Zz,append_right->ZL,refl->Z3
open PySem.Builtin.Tuple renaming tupleExact->ZN,tupleCompareSizes->ab7,tupleItemsOf->acM,tupleIsExact->acN,tupleTooMany->acO
open PySem.PassesOwn renaming never->ZP
open PySem.F renaming plainAttrs_list->ZV,slot_tuple_iterator_next->aaL,slot_int_rmul->abk,args_tuple_add_2->abH,slot_list_append->abJ,type_list_append->abK,slot_list_extend->abL,type_list_extend->abM,entry_tuple_add->abQ,slot_tuple_add->ab2,args_tuple_iterator_next_1->acw,entry_tuple_iterator_next->acG,slot_zip_next->acH
open PySem.Around renaming under_plainId->aae
open PySem.Heap.SameBut renaming update->aal
open Classical renaming byContradiction->aan
open List.Nodup renaming length_le_of_subset->aas
open PySem.Obj renaming data_mapFields->aaQ,mapSeq->abn,isFreed_of_fields->acn,putSet->adk,cls_mapFields->adl
open PySem.Builtin.Slice renaming slicePlaces->aaT,sliceAdjust->abu,sliceApplied->acL
open PySem.Builtin.List renaming listTooLong->aa0,listExtendWith->acE,listLengthHint->acJ
open List.Pairwise renaming imp_of_mem->aa1
open Option renaming map_eq_some_iff->aba,getD_none->aco,getD_some->acr
open False renaming elim->abm
open PySem.Builtin.Range renaming rangeSize->abP
open PyProof.Rows.F renaming plain_set_update_loop->abV
open Nat.Coprime renaming dvd_of_dvd_mul_right->ab0
open PySem.SeqAt renaming EqAt->ab6
open PySem.Builtin.Frozenset renaming updateFrom->acv
open PySem.Calls renaming Name_function_global->acK,call_function_entry->ac5
open PySem.AutoSeq1 renaming sub_tuple_tuple->adf
open PySem.SeqAt.RcAt renaming lists_lengths->adh
open PySem PySem.Spec PyProof.Rows
variable {a b it f z i1 i2 a1 a2:YG}{o y l T ra rb S:List YI}{P prog:aa9}{w:abc}{h h':aaX}{t' N i j k n g d m mask bc ep dep:Nat}{ch fp:List YG}{x qual:Str}{M:Model}{A:YG->Prop}{E Q:Yj->Yv->Prop}{t:abx}{s:Yv}{pins:List (YG×Obj)}{pos p2:Pos}{op op':CmpOp}{c tg iter elt:aaE}{K:Ye}{st:ab4}{es:Array (Int×Yj)}{body:List ab4}{lo hi:Int}{pl ns os:List Int}{C:Nat->Option (Int×Yj)}{its:List Yj}{mg:Str->Option Yj}{base rows:List (List Int)}{fd:acu}{ps loose:List Str}{scope:ada}{items ys:Array Yj}{XP:(Str->Option Yj)->aaX->Prop}{YP:abc->aaX->Prop}{js:List (Option Nat)}{vK:List aaE}{l1 l2:Bool}{arr:Array YI}
namespace L2
noncomputable abbrev vN:=Sum Int Str
noncomputable def L9:vN->Yj->Bool
 | .inl k,v=>Value.isInt k v
 | .inr x,v=>Value.isStrOf x v
noncomputable def Tq (w:abc):vN->Int
 | .inl k=>hashInt k
 | .inr x=>hashStr w x
theorem dN:∀{k:vN} {v:Yj},L9 k v=true->(∃i t,k=Sum.inl i/\v=Value.int i t)\/(∃x t,k=Sum.inr x/\v=Value.str x t)
 | .inl i,v,h=>by
  obtain⟨t,e⟩:=Value.isInt_shape (k:=i) (v:=v) h;exact .inl ⟨i,t,rfl,e⟩
 | .inr x,v,h=>by
  obtain⟨t,e⟩:=Value.isStrOf_shape (x:=x) (v:=v) h;exact .inr ⟨x,t,rfl,e⟩
theorem NO (a b:Int):decide ((Sum.inl a:vN)=Sum.inl b)=(a==b):=by
 by_cases e:a=b
 ·subst e;simp
 ·have h:¬(Sum.inl a:vN)=Sum.inl b:=λq=>e (Sum.inl.inj q);rw[hJ h];exact (beq_eq_false_iff_ne.mpr e).symm
theorem NP (a b:Str):decide ((Sum.inr a:vN)=Sum.inr b)=decide (a=b):=by
 by_cases e:a=b
 ·subst e;simp
 ·have h:¬(Sum.inr a:vN)=Sum.inr b:=λq=>e (Sum.inr.inj q);rw[hJ h,hJ e]
def NQ (a:Int)(b:Str):decide ((Sum.inl a:vN)=Sum.inr b)=false:=hJ (λq=>nomatch q)
def NR (a:Str)(b:Int):decide ((Sum.inr a:vN)=Sum.inl b)=false:=hJ (λq=>nomatch q)
noncomputable def xP (prog:aa9)(w:abc):PySem.KeyKind prog w vN where
 is:=L9
 hash:=Tq w
 inj:=λv a b ha hb=>by
  rcases dN ha with⟨i,t,rfl,rfl⟩|⟨x,t,rfl,rfl⟩
  ·rcases dN hb with⟨j,u,rfl,e⟩|⟨y,u,rfl,e⟩
   ·injection e with e1 _;rw[e1]
   ·exact nomatch e
  ·rcases dN hb with⟨j,u,rfl,e⟩|⟨y,u,rfl,e⟩
   ·exact nomatch e
   ·injection e with e1 _;rw[e1]
 byValue:=λk v h=>by
  rcases dN h with⟨i,t,rfl,rfl⟩|⟨x,t,rfl,rfl⟩<;>rfl
 pyHash:=λhv h=>by
  rcases dN hv with⟨i,t,rfl,rfl⟩|⟨x,t,rfl,rfl⟩
  ·exact wpAny_pyHash_int h
  ·exact wpAny_pyHash_str h
 eqBool:=λhu hv h=>by
  rcases dN hu with⟨i,t,rfl,rfl⟩|⟨x,t,rfl,rfl⟩
  ·rcases dN hv with⟨j,u,rfl,rfl⟩|⟨y,u,rfl,rfl⟩
   ·rw[NO] at h;exact wpAny_eqBool_int h
   ·rw[NQ] at h;exact SeqAt.EqAt.int_str i t y u _ _ _ _ h
  ·rcases dN hv with⟨j,u,rfl,rfl⟩|⟨y,u,rfl,rfl⟩
   ·rw[NR] at h;exact SeqAt.EqAt.str_int x t j u _ _ _ _ h
   ·rw[NP] at h;exact wpAny_eqBool_str h
 «strs»:=λk x t v h=>by
  rcases dN h with⟨i,u,rfl,e⟩|⟨y,u,rfl,e⟩
  ·exact nomatch e
  ·injection e with e1 _
   subst e1;cases v<;>rfl
end L2
namespace L2
inductive V where
 |non|bl (b:Bool)|int (i:Int)|str (x:Str)|byt (b:Array UInt8)|flt (b:UInt64)|ref (a:YG)|ty (n:String)
 deriving DecidableEq
def cK:V->Yj->Prop
 | .non,u=>u=Value.none
 | .bl b,u=>u=Value.bool b
 | .int i,u=>∃t,u=Value.int i t
 | .str x,u=>∃t,u=Value.str x t
 | .byt b,u=>∃t,u=Value.bytes b t
 | .flt b,u=>∃t,u=Value.float b t
 | .ref a,u=>u=Value.ref a
 | .ty n,u=>u=Value.type n
abbrev bC:List V->List Yj->Prop:=Paired cK
def bC.length {xs:List V}{us:List Yj}(r:bC xs us):xs.length=us.length:=Paired.length r
theorem bC.get:∀{xs:List V} {us:List Yj} {i:Nat} {x:V},bC xs us->xs[i]? = some x->∃u,us[i]? = some u/\cK x u
 |_,_,_,_,.nil,e=>by simp at e
 |_,_,0,_,.cons r _,e=>by simp at e;subst e;exact⟨_,rfl,r⟩
 |_,_,i+1,x,.cons _ t,e=>by
  obtain⟨u,h1,h2⟩:=bC.get (i:=i) (x:=x) t (by simpa using e);exact⟨u,by simpa using h1,h2⟩
theorem bC.set {x:V}{u:Yj}(r:cK x u):∀{xs:List V} {us:List Yj} (i:Nat),bC xs us->bC (xs.set i x) (us.set i u)
 |_,_,_,.nil=>.nil
 |_,_,0,.cons _ t=>.cons r t
 |_,_,i+1,.cons q t=>.cons q (bC.set r i t)
theorem bC.append:∀{xs ys:List V} {us ws:List Yj},bC xs us->bC ys ws->bC (xs++ys) (us++ws)
 |_,_,_,_,.nil,s=>s
 |_,_,_,_,.cons r t,s=>.cons r (bC.append t s)
theorem bC.take:∀{xs:List V} {us:List Yj} (n:Nat),bC xs us->bC (xs.take n) (us.take n)
 |_,_,0,_=>.nil
 |_,_,_+1,.nil=>.nil
 |_,_,n+1,.cons r t=>.cons r (bC.take n t)
theorem bC.drop:∀{xs:List V} {us:List Yj} (n:Nat),bC xs us->bC (xs.drop n) (us.drop n)
 |_,_,0,r=>r
 |_,_,_+1,.nil=>.nil
 |_,_,n+1,.cons _ t=>bC.drop n t
def NT:Option V->Option Yj->Prop
 |some v,some u=>cK v u
 |none,none=>True
 |_,_=>False
def KV {κ:Type}:List (κ×V)->List (κ×Yj)->Prop:=Paired λ(p:κ×V) (q:κ×Yj)=>p.1=q.1/\cK p.2 q.2
noncomputable def kV:vN->V
 | .inl i=>.int i
 | .inr x=>.str x
inductive HO where
 |lst (xs:List V)
 |tup (xs:List V)
 |dK (kl:List (vN×V))|dT (kl:List (List vN×V))
 |set (S:Int->Bool) (n:Nat)
 |ins (C dx:YG) (fs:List (Str×V))
 |own (x:YG)
 |xd (fs:List (Str×V))
 |met (f x:YG)
 |rng (lo hi:Int)
 |frz (o:Obj) (u:HO)
 |tbl (ps:Array Yj)
 |ext (φ:aaX->Prop)
noncomputable abbrev Hp:=YG->Option HO
noncomputable def eY (H:Hp)(a:YG)(o:HO):Hp:=λb=>if b=a then some o else H b
def dg {H:Hp}{o:HO}:eY H a o a=some o:=by unfold eY;rw[hV rfl]
def bY {H:Hp}{o:HO}(h:b≠a):eY H a o b=H b:=by unfold eY;rw[hU h]
theorem c9 {H:Hp}{o:HO}(h:H a=some o)(h':H b=none):a≠b:=by
 intro e;subst e;rw[h] at h';cases h'
section
variable (P:aa9)(w:abc)
def eJ (H:Hp)(h:aaX)(a:YG):HO->Prop
 | .lst xs=>xs.length<=Yf/\∃(its:List Yj) (n:Nat),bC xs its/\h.get? a=some {cls:=.type "list",data:=.seq its.toArray n}
 | .tup xs=>xs.length<=Yf/\∃its:List Yj,bC xs its/\IsTup h a its.toArray/\∃n,h.get? a=some {cls:=.type "tuple",data:=.seq its.toArray n}
 | .dK kl=>kl.length<=Yf/\(a==sysModules)=false/\∃vs,KV kl vs/\h.DictOf (xP P w) a vs
 | .dT kl=>kl.length<=Yf/\(a==sysModules)=false/\∃xs:List (List vN×YG×Yj),
   Paired (λ(p:List vN×V) (q:List vN×YG×Yj)=>p.1=q.1/\H q.2.1=some (.tup (p.1.map kV))/\cK p.2 q.2.2) kl xs/\
   ∃o es ep,h.get? a=some o/\o.ExactDict/\o.data=.dict es ep/\es.toList=xs.map (entryOfKey (tupleKind (xP P w)))/\(xs.map (·.1)).Nodup
 | .set S n=>h.SetOf (ac2 P w) a S n
 | .ins C dx fs=>H dx=some (.own a)/\fs.length<=1000/\dx≠a/\h.get? a=some (PySem.W.instObj C dx)/\
   ∃mA,h.Ns1 dx mA/\(∀f,NT (fs.lookup f) (mA f))/\PySem.Within mA (fs.map (·.1))
 | .own _=>∃o,h.get? a=some o
 | .xd fs=>∃mA,h.Ns1 a mA/\∀f,NT (fs.lookup f) (mA f)
 | .rng lo hi=>∃t u v,h.get? a=some {cls:=.type "range",data:=.fields #[.int lo t,.int hi u,.int 1 v]}
 | .frz o u=>h.get? a=some o/\eJ H h a u
 | .tbl ps=>h.get? a=some {cls:=.none,data:=.fields ps}
 | .met f x=>h.get? a=some (adb (.ref f) (.ref x))
 | .ext φ=>φ h/\(∃o,h.get? a=some o)/\∀h1 h2:aaX,φ h1->(∀o,h1.get? a=some o->h2.get? a=some o)->φ h2
def qw (H:Hp)(h:aaX):Prop:=∀a o,H a=some o->eJ P w H h a o
end
section
variable {H H':Hp}{o:HO}
theorem eJ.lt (x:eJ P w H h a o):a<h.objs.size:=by
 cases o with
 |lst xs=>obtain⟨_,_,_,_,e⟩:=x;exact Yu e
 |tup xs=>obtain⟨_,_,_,p,_⟩:=x;exact p.lt
 |dK kl=>obtain⟨_,_,_,_,o,_,_,e,_⟩:=x;exact Yu e
 |dT kl=>obtain⟨_,_,_,_,o,_,_,e,_⟩:=x;exact Yu e
 |set S n=>obtain⟨o,_,_,_,e,_⟩:=x;exact Yu e
 |ins C dx fs=>obtain⟨_,_,_,e,_⟩:=x;exact Yu e
 |own y=>obtain⟨_,e⟩:=x;exact Yu e
 |xd fs=>obtain⟨_,⟨_,_,_,e,_⟩,_⟩:=x;exact Yu e
 |rng lo hi=>obtain⟨_,_,_,e⟩:=x;exact Yu e
 |frz ob u=>obtain⟨e,_⟩:=x;exact Yu e
 |tbl ps=>exact Yu (show h.get? a=some _ from x)
 |met f y=>exact Yu (show h.get? a=some _ from x)
 |ext φ=>obtain⟨_,⟨_,e⟩,_⟩:=x;exact Yu e
theorem Paired.mapP {α β:Type}{F G:α->β->Prop}:∀{l₁:List α} {l₂:List β},Paired F l₁ l₂->(∀a b,F a b->G a b)->Paired G l₁ l₂
 |_,_,.nil,_=>.nil
 |_,_,.cons r t,f=>.cons (f _ _ r) (Paired.mapP t f)
theorem eJ.stay (x:eJ P w H h a o)(k:∀b u,(b=a\/H b=some (.own a))->h.get? b=some u->h'.get? b=some u)
  (ho:∀b,H b=some (.own a)->H' b=some (.own a)) (ht:∀b xs,H b=some (.tup xs)->H' b=some (.tup xs)):eJ P w H' h' a o:=by
 induction o with
 |lst xs=>obtain⟨z,its,n,r,e⟩:=x;exact⟨z,its,n,r,k _ _ (.inl rfl) e⟩
 |tup xs=>obtain⟨z,its,r,⟨ob,e,c⟩,n2,e2⟩:=x;exact⟨z,its,r,⟨ob,k _ _ (.inl rfl) e,c⟩,n2,k _ _ (.inl rfl) e2⟩
 |dK kl=>obtain⟨z,y,vs,r,ob,es,ep,e,c⟩:=x;exact⟨z,y,vs,r,ob,es,ep,k _ _ (.inl rfl) e,c⟩
 |dT kl=>
  obtain⟨z,y,xs,r,ob,es,ep,e,c⟩:=x;exact⟨z,y,xs,Paired.mapP r λp q z=>⟨z.1,ht _ _ z.2.1,z.2.2⟩,ob,es,ep,k _ _ (.inl rfl) e,c⟩
 |set S n=>obtain⟨ob,es,ep,t,e,c⟩:=x;exact⟨ob,es,ep,t,k _ _ (.inl rfl) e,c⟩
 |ins C dx fs=>
  obtain⟨d,z,ne,e,mA,⟨od,es,ep,e2,c⟩,r⟩:=x;exact⟨ho _ d,z,ne,k _ _ (.inl rfl) e,mA,⟨od,es,ep,k _ _ (.inr d) e2,c⟩,r⟩
 |own y=>obtain⟨ob,e⟩:=x;exact⟨ob,k _ _ (.inl rfl) e⟩
 |xd fs=>obtain⟨mA,⟨od,es,ep,e,c⟩,r⟩:=x;exact⟨mA,⟨od,es,ep,k _ _ (.inl rfl) e,c⟩,r⟩
 |rng lo hi=>obtain⟨t,u,v,e⟩:=x;exact⟨t,u,v,k _ _ (.inl rfl) e⟩
 |frz ob u ih=>obtain⟨e,q⟩:=x;exact⟨k _ _ (.inl rfl) e,ih q⟩
 |tbl ps=>
  have e:h.get? a=some {cls:=.none,data:=.fields ps}:=x;show h'.get? a=some {cls:=.none,data:=.fields ps};exact k a _ (.inl rfl) e
 |met f y=>
  have e:h.get? a=some (adb (.ref f) (.ref y)):=x;show h'.get? a=some (adb (.ref f) (.ref y));exact k a _ (.inl rfl) e
 |ext φ=>obtain⟨p,⟨o,e⟩,st⟩:=x;exact⟨st _ _ p λo q=>k _ _ (.inl rfl) q,⟨o,k _ _ (.inl rfl) e⟩,st⟩
def qw.lt (x:qw P w H h)(e:H a=some o):a<h.objs.size:=(x a o e).lt
theorem qw.fresh (x:qw P w H h)(e:h.objs.size<=a):H a=none:=by
 cases q:H a with
 |none=>rfl
 |some u=>exact absurd (Y4 (x.lt q) e) (Z_ _)
def qw.kept (x:qw P w H h)(k:∀b u,h.get? b=some u->h'.get? b=some u):qw P w H h':=λa o e=>
 (x a o e).stay (λb u _ q=>k b u q) (λ_ q=>q) λ_ _ q=>q
theorem qw.laid (x:qw P w H h)(k:∀b u,h.get? b=some u->h'.get? b=some u)(hp:h.objs.size<=a)(new:eJ P w (eY H a o) h' a o):qw P w (eY H a o) h':=λb u e=>by
 have hn:=x.fresh hp;by_cases hb:b=a
 ·subst hb;rw[dg] at e;cases e;exact new
 ·rw[bY hb] at e;exact (x b u e).stay (λc v _ q=>k c v q) (λc q=>by rw[bY (c9 q hn)];exact q) λc xs q=>by rw[bY (c9 q hn)];exact q
end
def Rd (H:Hp)(a:YG)(u:HO):Prop:=H a=some u\/∃o,H a=some (.frz o u)
theorem Rd.ok {H:Hp}{u:HO}(r:Rd H a u)(x:qw P w H h):eJ P w H h a u:=by
 rcases r with r|⟨o,r⟩
 ·exact x a u r
 ·obtain⟨_,q⟩:=x a _ r;exact q
def SV:Option HO->Prop
 |some (.lst _)=>True
 |some (.dK _)=>True
 |some (.dT _)=>True
 |some (.set _ _)=>True
 |some (.ins _ _ _)=>True
 |some (.ext _)=>True
 |_=>False
section
variable {H:Hp}{x e:YG}{o':HO}
theorem qw.write (ok:qw P w H h)(mu:SV (H x))(he:e=x\/H e=some (.own x))(k:∀b u,b≠e->h.get? b=some u->h'.get? b=some u)(Qo:∃u,h'.get? e=some u)
  (new:eJ P w (eY H x o') h' x o'):qw P w (eY H x o') h':=λb u q=>by
 have Si:∀c y,H c=some (.own y)->c≠x:=λc y r z=>by subst z;rw[r] at mu;exact mu
 have UG:∀c xs,H c=some (.tup xs)->c≠x:=λc xs r z=>by subst z;rw[r] at mu;exact mu
 by_cases hb:b=x
 ·subst hb;rw[dg] at q;cases q;exact new
 ·rw[bY hb] at q;by_cases hbe:b=e
  ·have q':H b=some (.own x):=by
    rcases he with z|z
    ·exact absurd (hbe.trans z) hb
    ·rw[hbe];exact z
   rw[q] at q';cases q';obtain⟨v,hv⟩:=Qo;exact⟨v,by rw[hbe];exact hv⟩
  ·refine (ok b u q).stay (λc v hc r=>k c v ?_ r) (λc r=>by rw[bY (Si c b r)];exact r) λc xs r=>by rw[bY (UG c xs r)];exact r
   rcases hc with rfl|hc
   ·exact hbe
   ·rintro rfl;rcases he with z|z
    ·exact Si c b hc z
    ·rw[hc] at z;cases z;exact hb rfl
end
structure Un (fs ex:List YG)(H H':Hp)(h h':aaX):Prop where
 keep:∀b o,h.get? b=some o->H b=none->b∉fs->b∉ex->h'.get? b=some o
 slot:∀b o,h.get? b=some o->H b=none->b∈fs->b∉ex->∃sl,h'.get? b=some {o with slots:=sl}
 free:∀b o,h.get? b=some o->H b=none->b∉ex->H' b=none
 there:∀b o,h.get? b=some o->b∉ex->∃o',h'.get? b=some o'
 tups:∀b xs,H b=some (.tup xs)->H' b=some (.tup xs)
 frzs:∀b o u,H b=some (.frz o u)->H' b=some (.frz o u)
 tbls:∀b ps,H b=some (.tbl ps)->∃more,H' b=some (.tbl (ps++more))
section
variable {fs fs' ex ex':List YG}{H H1 H2:Hp}{h1 h2:aaX}{x e:YG}{o:HO}
def Un.any (u:Un fs ex H H1 h h1){ob:Obj}(q:h.get? b=some ob)(n:H b=none)(hx:b∉ex):∃sl,h1.get? b=some {ob with slots:=sl}:=by
 by_cases hb:b∈fs
 ·exact u.slot b ob q n hb hx
 ·exact⟨ob.slots,u.keep b ob q n hb hx⟩
def Un.kept (k:∀b u,h.get? b=some u->h'.get? b=some u):Un fs ex H H h h' :=
 ⟨λb ob q _ _ _=>k b ob q,λb ob q _ _ _=>⟨ob.slots,k b ob q⟩,λ_ _ _ n _=>n,λb ob q _=>⟨ob,k b ob q⟩,λ_ _ q=>q,λ_ _ _ q=>q,λ_ ps q=>⟨#[],by rw[q];simp⟩⟩
def Un.refl:Un fs ex H H h h:=Un.kept λ_ _ q=>q
def Un.laid (k:∀b u,h.get? b=some u->h'.get? b=some u)(hp:h.objs.size<=a)(hn:H a=none):Un fs ex H (eY H a o) h h' where
 keep:=λb u q _ _ _=>k b u q
 slot:=λb u q _ _ _=>⟨u.slots,k b u q⟩
 free:=λb u q n _=>by rw[bY (YK (Y4 (Yu q) hp))];exact n
 there:=λb u q _=>⟨u,k b u q⟩
 tups:=λb xs q=>by rw[bY (c9 q hn)];exact q
 frzs:=λb u xs q=>by rw[bY (c9 q hn)];exact q
 tbls:=λb ps q=>⟨#[],by rw[bY (c9 q hn),q];simp⟩
theorem Un.write (mu:SV (H x))(he:e=x\/H e=some (.own x))(k:∀b u,b≠e->h.get? b=some u->h'.get? b=some u)(Qo:∃u,h'.get? e=some u):Un fs ex H (eY H x o) h h':=by
 have hx:∀b,H b=none->b≠x:=λb n z=>by subst z;rw[n] at mu;exact mu
 have hb:∀b,H b=none->b≠e:=λb n z=>by
  subst z;rcases he with r|r
  ·exact hx b n r
  ·rw[n] at r;cases r
 have hm:∀b u,H b=some u->¬SV (some u)->b≠x:=λb u q nm z=>by subst z;rw[q] at mu;exact nm mu
 refine⟨λb u q n _ _=>k b u (hb b n) q,λb u q n _ _=>⟨u.slots,k b u (hb b n) q⟩,λb u q n _=>by rw[bY (hx b n)];exact n,λb u q _=>?_,
  λb xs q=>by rw[bY (hm b _ q λz=>z)];exact q,λb u xs q=>by rw[bY (hm b _ q λz=>z)];exact q,λb ps q=>⟨#[],by rw[bY (hm b _ q λz=>z),q];simp⟩⟩
 by_cases hbe:b=e
 ·subst hbe;exact Qo
 ·exact⟨u,k b u hbe q⟩
end
noncomputable def SW (h:aaX)(H:Hp):List YG:=(YS h.objs.size).filter λa=>(H a).isSome
noncomputable def xQ (h:aaX)(H:Hp):aaX:=PySem.W.hideAll h (SW h H)
def E9 (h:aaX)(H:Hp):(xQ h H).objs.size=h.objs.size:=PySem.W.hideAll_size _ _
def Gz {H:Hp}{o:Obj}(e:h.get? b=some o)(n:H b=none):(xQ h H).get? b=some o:=
 PySem.W.hideAll_get _ e λhm=>by
  have q:(H b).isSome=true:=(acy.mp hm).2;rw[n] at q;simp at q
theorem Kg {H:Hp}{o:Obj}(e:(xQ h H).get? b=some o):h.get? b=some o/\H b=none:=by
 have e':h.get? b=some o:=PySem.W.of_hideAll (SW h H) e;refine⟨e',?_⟩;cases q:H b with
 |none=>rfl
 |some x=>
  have hm:b∈SW h H:=acy.mpr ⟨Zi.mpr (Yu e'),by simp[q]⟩;have z:(xQ h H).get? b=none:=PySem.W.hideAll_none (SW h H) hm;rw[z] at e;cases e
end L2
variable {xs vs:List L2.V}{H H' H1 H2:L2.Hp}{v:L2.V}
namespace L2
structure Mod (K:Ye)(mg:Str->Option Yj)(base:aaX):Prop where
 kin:K.In base
 glob:base.Ns Y2 mg
 blt:∃mb,base.Ns builtinsNs mb/\∀x:Str,x≠"__name__"->mb x=Zg x
 nolimit:base.NoLimit
structure Cx where
 prog:aa9
 w:abc
 K:Ye
 mg:Str->Option Yj
 base:aaX
 A:Zk
 N:List Str
 s₀:Yv
 H₀:Hp
 env:Env
 outer:List Env
 stack:List Env
 ex:List YG
 fn:Str->Bool
 calm:Bool
 pn:List (YG×Obj)
 xe:Yj->Yv->Prop
noncomputable def Dk (l:List Env):List YG:=l.filterMap (·.frame)
noncomputable abbrev Cx.fs (X:Cx):List YG:=Dk X.outer
def GA (sc:ada)(x:Str):Prop:=sc.names.lookup x=some .local\/sc.names.lookup x=some .cell\/sc.names.lookup x=some .free
def Gk (sc:ada)(x:Str):Prop:=sc.names.lookup x=some .local\/sc.names.lookup x=some .cell
def Tr (env:Env)(h:aaX)(m:Str->Option Yj)(x:Str)(u:Yj):Prop:=
 (env.kindOf x=some .local/\m x=some u)\/((env.kindOf x=some .cell\/env.kindOf x=some .free)/\∃c,env.cells.lookup x=some c/\h.IsCell c (some u))
structure Cx.Ok (X:Cx):Prop where
 mod:Mod X.K X.mg X.base
 kind:X.env.scope.kind=.function
 glob:X.env.globals=Y2
 blt:X.env.builtins=builtinsNs
 above:X.s₀.heap.objs.size<=X.env.locals
 inj:∀x y c,X.env.cells.lookup x=some c->X.env.cells.lookup y=some c->x=y
 has:∀x,(X.env.kindOf x=some .cell\/X.env.kindOf x=some .free)->∃c,X.env.cells.lookup x=some c
 cab:∀x c,X.fn x=true->X.env.cells.lookup x=some c->X.s₀.heap.objs.size<=c
 hd:X.calm=true->X.A.handled=none
 frames:X.A.frames=some X.stack
 stk:X.stack=X.outer\/(X.stack=X.env::X.outer/\X.env.frame=some X.env.locals)
 exf:∀b∈X.ex,b≠X.env.locals/\∀x c,X.env.cells.lookup x=some c->c≠b
 bs:∀b o,X.base.get? b=some o->X.s₀.heap.get? b=some o/\X.H₀ b=none
 bsz:X.base.objs.size<=X.s₀.heap.objs.size
 noex:∀b o,X.base.get? b=some o->b∉X.ex
 exfs:∀b∈X.ex,b∉X.fs
 funs:X.s₀.heap.FunFrames X.base X.outer
 frf:∀b∈X.fs,X.H₀ b=none
structure a_ (X:Cx)(pins:List (YG×Obj))(σ:List (Option V))(H:Hp)(s:Yv):Prop where
 ok:X.Ok
 os:s.os=X.s₀.os
 bare:AllBare s.gens
 base:Un X.fs X.ex X.H₀ H X.s₀.heap s.heap
 loc:∃m,s.heap.Ns X.env.locals m/\∀(i:Nat) (x:Str) (v:V),X.N[i]? = some x->σ[i]? = some (some v)->GA X.env.scope x->∃u,cK v u/\Tr X.env s.heap m x u
 cell:∀x c,X.env.cells.lookup x=some c->∃v,s.heap.IsCell c v
 free:H X.env.locals=none
 freeC:∀x c,X.env.cells.lookup x=some c->H c=none
 pin:∀p∈X.pn++pins,s.heap.get? p.1=some p.2/\H p.1=none/\p.1≠X.env.locals/\p.1∉X.fs/\∀v,p.2.data≠.cell v
 hok:qw X.prog X.w H s.heap
 len:σ.length=X.N.length
section
variable {X:Cx}{σ:List (Option V)}
theorem Cx.Ok.nofr (ok:X.Ok){o:Obj}(e:X.base.get? b=some o):b∉X.fs:=λhb=>by
 have:=(ok.funs.mem hb).1;rw[e] at this;cases this
def a_.bs (I:a_ X pins σ H s):∀b o,X.base.get? b=some o->s.heap.get? b=some o/\H b=none:=λb o e=>
 ⟨I.base.keep b o (I.ok.bs b o e).1 (I.ok.bs b o e).2 (I.ok.nofr e) (I.ok.noex b o e),I.base.free b o (I.ok.bs b o e).1 (I.ok.bs b o e).2 (I.ok.noex b o e)⟩
def a_.bk (I:a_ X pins σ H s):∀b o,X.base.get? b=some o->s.heap.get? b=some o:=λb o e=>(I.bs b o e).1
def a_.mod (I:a_ X pins σ H s):Mod X.K X.mg X.base:=I.ok.mod
def a_.kIn (I:a_ X pins σ H s):X.K.In s.heap:=I.ok.mod.kin.keeps I.bk
def a_.lt (I:a_ X pins σ H s):X.env.locals<s.heap.objs.size:=let ⟨_,hn,_⟩:=I.loc;hn.lt
def a_.sz (I:a_ X pins σ H s):X.s₀.heap.objs.size<=s.heap.objs.size:=Zj I.ok.above (Nat.le_of_lt I.lt)
theorem a_.nofs (I:a_ X pins σ H s)(h:s.heap.objs.size<=a):a∉X.fs:=λhb=>by
 obtain⟨_,o,ho,_⟩:=I.ok.funs.mem hb;exact absurd (Y4 (Yu ho) (Zj I.sz h)) (Z_ _)
theorem a_.cne (I:a_ X pins σ H s):∀x c,X.env.cells.lookup x=some c->c≠X.env.locals:=λx c e z=>by
 obtain⟨v,o,ho,hd⟩:=I.cell x c e;obtain⟨m,⟨o',es,ep,C7,hd',_⟩,_⟩:=I.loc;rw[z,C7] at ho;cases ho;rw[hd'] at hd;cases hd
theorem a_.funs (I:a_ X pins σ H s):s.heap.FunFrames X.base X.outer:=by
 have all:∀(l:List Env),(∀b∈Dk l,b∈X.fs)->X.s₀.heap.FunFrames X.base l->s.heap.FunFrames X.base l:=by
  intro l
  induction l with
  |nil=>intro _ _;trivial
  |cons env r ih=>
   intro hs hl;obtain⟨hk,⟨L,o,hf,hn,ho,hd⟩,hr⟩:=hl;have hL:L∈X.fs:=hs L (by unfold Dk;rw[acz,hf];exact Yb);obtain⟨sl,e⟩:=I.base.slot L o ho (I.ok.frf L hL) hL λz=>I.ok.exfs L z hL;exact⟨hk,⟨L,_,hf,hn,e,hd⟩,ih (λb hb=>hs b (by unfold Dk;rw[acz,hf];exact Ya _ hb)) hr⟩
 exact all X.outer (λ_ hb=>hb) I.ok.funs
theorem a_.stack (I:a_ X pins σ H s):s.heap.FunFrames X.base X.stack:=by
 rcases I.ok.stk with e|⟨e,hf⟩
 ·rw[e];exact I.funs
 ·rw[e];obtain⟨m,hn,_⟩:=I.loc;refine .cons (by rw[I.ok.kind];decide) hf hn ?_ I.funs;exact Heap.get?_none_of_le (Zj I.ok.bsz I.ok.above)
theorem a_.stkSub (I:a_ X pins σ H s):∀b∈Dk X.stack,b∈X.env.locals::X.fs:=λb hb=>by
 rcases I.ok.stk with e|⟨e,hf⟩
 ·rw[e] at hb;exact Ya _ hb
 ·rw[e] at hb;unfold Dk at hb;rw[acz,hf] at hb;exact hb
theorem a_.stkFree (I:a_ X pins σ H s):∀b∈Dk X.stack,H b=none:=λb hb=>by
 rcases Yk.mp (I.stkSub b hb) with e|hb
 ·rw[e];exact I.free
 ·obtain⟨_,o,ho,_⟩:=I.ok.funs.mem hb;exact I.base.free b o ho (I.ok.frf b hb) λz=>I.ok.exfs b z hb
theorem a_.step {t':Nat}{g':Array GenState}{d':Drawn}(I:a_ X pins σ H s)(J8:∀b∈ch,(b∈X.ex\/X.s₀.heap.objs.size<=b)/\b≠X.env.locals/\(∀x c,X.env.cells.lookup x=some c->c≠b)/\∀p∈X.pn++pins,p.1≠b)(keep:∀b o,b≠X.env.locals->b∉X.fs->b∉ch->s.heap.get? b=some o->H b=none->h'.get? b=some o)(slot:∀b o,b≠X.env.locals->b∈X.fs->b∉ch->s.heap.get? b=some o->H b=none->∃sl,h'.get? b=some {o with slots:=sl})(free:∀b o,b∉ch->s.heap.get? b=some o->H b=none->H' b=none)(there:∀b o,b∉ch->s.heap.get? b=some o->∃o',h'.get? b=some o')(tups:∀b xs,H b=some (.tup xs)->H' b=some (.tup xs))(frzs:∀b o u,H b=some (.frz o u)->H' b=some (.frz o u))(tbls:∀b ps,H b=some (.tbl ps)->∃more,H' b=some (.tbl (ps++more)))(ns:∀m,s.heap.Ns X.env.locals m->h'.Ns X.env.locals m)(hok:qw X.prog X.w H' h')(hg:AllBare g') :
  a_ X pins σ H' {s with heap:=h',gens:=g',drawn:=d',toks:=t'}:=by
 have VH:∀b o,X.s₀.heap.get? b=some o->b≠X.env.locals:=λb o e=>YK (Y4 (Yu e) I.ok.above);have Tf:∀b o,X.s₀.heap.get? b=some o->b∉X.ex->b∉ch:=λb o e hx hb=>by
  rcases (J8 b hb).1 with z|z
  ·exact hx z
  ·exact absurd (Y4 (Yu e) z) (Z_ _)
 have Nz:∀x c,X.env.cells.lookup x=some c->∀v,s.heap.IsCell c v->h'.IsCell c v:=λx c e v h00=>by
  obtain⟨o,ho,hd⟩:=h00;have Sj:c∉ch:=λz=>(J8 c z).2.2.1 x c e rfl;by_cases hc:c∈X.fs
  ·obtain⟨sl,q⟩:=slot c o (I.cne x c e) hc Sj ho (I.freeC x c e);exact⟨_,q,hd⟩
  ·exact⟨o,keep c o (I.cne x c e) hc Sj ho (I.freeC x c e),hd⟩
 refine⟨I.ok,I.os,hg,⟨λb o e n hb hx=>?_,λb o e n hb hx=>?_,λb o e n hx=>?_,λb o e hx=>?_,λb xs e=>tups b xs (I.base.tups b xs e),λb o xs e=>frzs b o xs (I.base.frzs b o xs e),λb ps e=>?_⟩,?_,λx c e=>?_,?_,λx c e=>?_,λp hp=>?_,hok,I.len⟩
 ·exact keep b o (VH b o e) hb (Tf b o e hx) (I.base.keep b o e n hb hx) (I.base.free b o e n hx)
 ·obtain⟨sl,e1⟩:=I.base.slot b o e n hb hx;obtain⟨sl',e2⟩:=slot b _ (VH b o e) hb (Tf b o e hx) e1 (I.base.free b o e n hx);exact⟨sl',e2⟩
 ·obtain⟨o',e1⟩:=I.base.there b o e hx;exact free b o' (Tf b o e hx) e1 (I.base.free b o e n hx)
 ·obtain⟨o',e1⟩:=I.base.there b o e hx;exact there b o' (Tf b o e hx) e1
 ·obtain⟨m1,e1⟩:=I.base.tbls b ps e;obtain⟨m2,e2⟩:=tbls b _ e1;exact⟨m1++m2,by rw[e2,Array.append_assoc]⟩
 ·obtain⟨m,hn,hl⟩:=I.loc;refine⟨m,ns m hn,λi x v e1 e2 e3=>?_⟩;obtain⟨u,r,l⟩:=hl i x v e1 e2 e3;refine⟨u,r,?_⟩;rcases l with l|⟨k,c,e,z⟩
  ·exact .inl l
  ·exact .inr ⟨k,c,e,Nz x c e _ z⟩
 ·obtain⟨v,z⟩:=I.cell x c e;exact⟨v,Nz x c e v z⟩
 ·obtain⟨m,⟨o,_,_,ho,_⟩,_⟩:=I.loc;exact free _ o (λz=>(J8 _ z).2.1 rfl) ho I.free
 ·obtain⟨v,o,ho,hd⟩:=I.cell x c e;exact free c o (λz=>(J8 c z).2.2.1 x c e rfl) ho (I.freeC x c e)
 ·obtain⟨e,n,ne,nf,d⟩:=I.pin p hp;have Sj:p.1∉ch:=λz=>(J8 p.1 z).2.2.2 p hp rfl;exact⟨keep p.1 p.2 ne nf Sj e n,free p.1 p.2 Sj e n,ne,nf,d⟩
theorem a_.un {t':Nat}(I:a_ X pins σ H s)(u:Un X.fs [] H H' s.heap h')(hok:qw X.prog X.w H' h'):a_ X pins σ H' {s with heap:=h',toks:=t'}:=by
 obtain⟨m,⟨o,es,ep,ho,r⟩,_⟩:=id I.loc;obtain⟨sl,hL⟩:=u.any ho I.free (by simp);exact I.step (g':=s.gens) (d':=s.drawn) (ch:=[]) (λ_ z=>nomatch z) (λb o _ hb _ e n=>u.keep b o e n hb (by simp)) (λb o _ hb _ e n=>u.slot b o e n hb (by simp)) (λb o _ e n=>u.free b o e n (by simp)) (λb o _ e=>u.there b o e (by simp)) u.tups u.frzs u.tbls (λm' hm=>by
  obtain⟨o',JY,ep',C7,r'⟩:=hm;rw[ho] at C7;cases C7;exact⟨_,JY,ep',hL,r'⟩) hok I.bare
theorem a_.call {t':Nat}{g':Array GenState}{d':Drawn}(I:a_ X pins σ H s)(u:Un (Dk X.stack) ch H H' s.heap h')(hok:qw X.prog X.w H' h')(hg:AllBare g')(J8:∀b∈ch,(b∈X.ex\/X.s₀.heap.objs.size<=b)/\b≠X.env.locals/\(∀x c,X.env.cells.lookup x=some c->c≠b)/\∀p∈X.pn++pins,p.1≠b) :
  a_ X pins σ H' {s with heap:=h',gens:=g',drawn:=d',toks:=t'}:=by
 obtain⟨m,⟨o,es,ep,ho,r⟩,_⟩:=id I.loc;obtain⟨sl,hL⟩:=u.any ho I.free λz=>(J8 _ z).2.1 rfl;exact I.step (ch:=ch) J8 (λb o hL hb hc e n=>u.keep b o e n (λz=>(Yk.mp (I.stkSub b z)).elim hL hb) hc) (λb o _ _ hc e n=>u.any e n hc) (λb o hc e n=>u.free b o e n hc) (λb o hc e=>u.there b o e hc) u.tups u.frzs u.tbls (λm' hm=>by
  obtain⟨o',JY,ep',C7,r'⟩:=hm;rw[ho] at C7;cases C7;exact⟨_,JY,ep',hL,r'⟩) hok hg
theorem a_.turned {t':Nat}(I:a_ X pins σ H s)(k:∀b o,b≠it->s.heap.get? b=some o->h'.get? b=some o)(hn:H it=none)(hL:it≠X.env.locals)(h1:it∈X.ex\/X.s₀.heap.objs.size<=it)(h2:∀x c,X.env.cells.lookup x=some c->c≠it)(h3:∀p∈X.pn++pins,p.1≠it):a_ X pins σ H {s with heap:=h',toks:=t'}:=by
 have VI:∀b u,H b=some u->b≠it:=λb u e z=>by rw[z,hn] at e;cases e
 refine I.step (g':=s.gens) (d':=s.drawn) (ch:=[it]) (λb hb=>?_) (λb o _ _ hc e _=>k b o (λz=>hc (by simp[z])) e) (λb o _ _ hc e _=>⟨o.slots,k b o (λz=>hc (by simp[z])) e⟩) (λ_ _ _ _ n=>n)
  (λb o hc e=>⟨o,k b o (λz=>hc (by simp[z])) e⟩) (λ_ _ e=>e) (λ_ _ _ e=>e) (λb ps e=>⟨#[],by rw[e];simp⟩) (λm hm=>?_) (λb u e=>?_) I.bare
 ·have e:b=it:=by simpa using hb
  subst e;exact⟨h1,hL,h2,h3⟩
 ·obtain⟨o,es,ep,ho,r⟩:=hm;exact⟨o,es,ep,k _ o (Ne.symm hL) ho,r⟩
 ·refine (I.hok b u e).stay (λc v hc q=>k c v ?_ q) (λ_ q=>q) λ_ _ q=>q;rcases hc with z|z
  ·rw[z];exact VI b u e
  ·exact VI c _ z
def a_.tok (I:a_ X pins σ H s)(t:Nat):a_ X pins σ H {s with toks:=t}:=I.un (h':=s.heap) (t':=t) Un.refl I.hok
def a_.kept {t':Nat}(I:a_ X pins σ H s)(k:∀b u,s.heap.get? b=some u->h'.get? b=some u):a_ X pins σ H {s with heap:=h',toks:=t'}:=I.un (Un.kept k) (I.hok.kept k)
def a_.laid {t':Nat}{o:HO}(I:a_ X pins σ H s)(k:∀b u,s.heap.get? b=some u->h'.get? b=some u)(hp:s.heap.objs.size<=a)(new:eJ X.prog X.w (eY H a o) h' a o) :
  a_ X pins σ (eY H a o) {s with heap:=h',toks:=t'}:=I.un (Un.laid k hp (I.hok.fresh hp)) (I.hok.laid k hp new)
def a_.write {t':Nat}{x e:YG}{o:HO}(I:a_ X pins σ H s)(mu:SV (H x))(he:e=x\/H e=some (.own x))(k:∀b u,b≠e->s.heap.get? b=some u->h'.get? b=some u)(Qo:∃u,h'.get? e=some u)(new:eJ X.prog X.w (eY H x o) h' x o):a_ X pins σ (eY H x o) {s with heap:=h',toks:=t'}:=I.un (Un.write mu he k Qo) (I.hok.write mu he k Qo new)
def a_.pins_of {NA:List (YG×Obj)}(I:a_ X pins σ H s)(h:∀p∈NA,s.heap.get? p.1=some p.2/\H p.1=none/\p.1≠X.env.locals/\p.1∉X.fs/\∀v,p.2.data≠.cell v):a_ X NA σ H s:=
 ⟨I.ok,I.os,I.bare,I.base,I.loc,I.cell,I.free,I.freeC,λp hp=>(Yx.mp hp).elim (λz=>I.pin p (ZY _ z)) (h p),I.hok,I.len⟩
theorem zk {N:List Str}(hN:N.Nodup)(a:N[i]? = some x)(b:N[j]? = some x):i=j:=by
 obtain⟨h1,e1⟩:=Yr.mp a;obtain⟨h2,e2⟩:=Yr.mp b;exact (List.getElem_inj hN).mp (e1.trans e2.symm)
theorem wM {A:Zk}{u:Yj}{Q:Unit->Yv->Prop}(I:a_ X pins σ H s)(hN:X.N.Nodup)(hi:X.N[i]? = some x)(hx:Gk X.env.scope x)(r:cK v u)(h:∀s',a_ X pins (σ.set i (some v)) H s'->(∃a,abd a s.heap s'.heap/\(a=X.env.locals\/X.env.cells.lookup x=some a))->Q () s')(hf:X.fn x=true\/X.env.scope.names.lookup x=some .local:=by first|exact .inl rfl|exact .inr rfl|assumption):YE M A (storeName X.env x u) Q E s:=by
 obtain⟨m,hn,hl⟩:=id I.loc;have UH:(X.env.scope.kind==.class||(X.env.scope.kind==.module&&X.env.locals != X.env.globals))=false:=by rw[I.ok.kind];rfl
 have VJ:i<σ.length:=by rw[I.len];exact (Yr.mp hi).1
 have cne:=I.cne;have E4:∀{a:YG} {h':aaX},(∃o,s.heap.get? a=some o/\H a=none)->abd a s.heap h'->qw X.prog X.w H h':=λ{a h'} ha hs b ob e=>by
  obtain⟨_,_,vL⟩:=ha;refine (I.hok b ob e).stay (λc w' hc q=>(hs.2 c ?_).trans q) (λ_ q=>q) λ_ _ q=>q;rintro rfl;rcases hc with rfl|hc
  ·rw[vL] at e;cases e
  ·rw[vL] at hc;cases hc
 rcases hx with hk|hk
 ·refine wpAny_storeName_local hk hn (λh' Qp hs=>?_) UH;obtain⟨oL,_,_,P0,_⟩:=id hn;refine h _ ⟨I.ok,I.os,I.bare,⟨λb o e n hb hx=>?_,λb o e n hb hx=>?_,I.base.free,λb o e hx=>?_,I.base.tups,I.base.frzs,I.base.tbls⟩,⟨_,Qp,λj y v' e1 e2 e3=>?_⟩,λy c e=>?_,I.free,I.freeC,λp hp=>?_,E4 ⟨oL,P0,I.free⟩ hs,by simpa using I.len⟩ ⟨_,hs,.inl rfl⟩
  ·exact (hs.2 b (YK (Y4 (Yu e) I.ok.above))).trans (I.base.keep b o e n hb hx)
  ·obtain⟨sl,e1⟩:=I.base.slot b o e n hb hx;exact⟨sl,(hs.2 b (YK (Y4 (Yu e) I.ok.above))).trans e1⟩
  ·obtain⟨o',e1⟩:=I.base.there b o e hx;exact⟨o',(hs.2 b (YK (Y4 (Yu e) I.ok.above))).trans e1⟩
  ·by_cases hj:j=i
   ·subst hj;rw[hi] at e1;cases e1;rw[ab1 VJ] at e2;cases e2;exact⟨u,r,.inl ⟨hk,by simp⟩⟩
   ·rw[Y5 (Ne.symm hj)] at e2;obtain⟨u',r',q⟩:=hl j y v' e1 e2 e3;refine⟨u',r',?_⟩;rcases q with⟨k,e⟩|⟨k,c,e,z⟩
    ·refine .inl ⟨k,?_⟩;have:y≠x:=λe=>hj (zk hN e1 (e▸hi));simp[this,e]
    ·exact .inr ⟨k,c,e,z.sameBut hs (cne y c e)⟩
  ·obtain⟨w',z⟩:=I.cell y c e;exact⟨w',z.sameBut hs (cne y c e)⟩
  ·obtain⟨e,n,ne,nf,d⟩:=I.pin p hp;exact⟨(hs.2 p.1 ne).trans e,n,ne,nf,d⟩
 ·have UI:X.fn x=true:=by
   rcases hf with z|z
   ·exact z
   ·rw[z] at hk;cases hk
  obtain⟨c,hc⟩:=I.ok.has x (.inl hk);obtain⟨w',z⟩:=I.cell x c hc;refine wpAny_storeName_cell I.ok.kind hk hc z (λh' Tg hs=>?_);obtain⟨oc,hoc,hocd⟩:=id z;refine h {s with heap:=h'} ⟨I.ok,I.os,I.bare,⟨λb o e n hb hx=>?_,λb o e n hb hx=>?_,I.base.free,λb o e hx=>?_,I.base.tups,I.base.frzs,I.base.tbls⟩,⟨m,hn.sameBut hs (Ne.symm (cne x c hc)),λj y v' e1 e2 e3=>?_⟩,λy c' e=>?_,I.free,I.freeC,λp hp=>?_,E4 ⟨oc,hoc,I.freeC x c hc⟩ hs,by simpa using I.len⟩ ⟨c,hs,.inr hc⟩
  ·exact (hs.2 b (YK (Y4 (Yu e) (I.ok.cab x c UI hc)))).trans (I.base.keep b o e n hb hx)
  ·obtain⟨sl,e1⟩:=I.base.slot b o e n hb hx;exact⟨sl,(hs.2 b (YK (Y4 (Yu e) (I.ok.cab x c UI hc)))).trans e1⟩
  ·obtain⟨o',e1⟩:=I.base.there b o e hx;exact⟨o',(hs.2 b (YK (Y4 (Yu e) (I.ok.cab x c UI hc)))).trans e1⟩
  ·by_cases hj:j=i
   ·subst hj;rw[hi] at e1;cases e1;rw[ab1 VJ] at e2;cases e2;exact⟨u,r,.inr ⟨.inl hk,c,hc,Tg⟩⟩
   ·rw[Y5 (Ne.symm hj)] at e2;obtain⟨u',r',q⟩:=hl j y v' e1 e2 e3;refine⟨u',r',?_⟩;rcases q with q|⟨k,c',e,z'⟩
    ·exact .inl q
    ·refine .inr ⟨k,c',e,z'.sameBut hs ?_⟩;rintro rfl;exact hj (zk hN e1 (I.ok.inj _ _ _ e hc▸hi))
  ·by_cases hcc:c'=c
   ·subst hcc;exact⟨_,Tg⟩
   ·obtain⟨w2,z2⟩:=I.cell y c' e;exact⟨w2,z2.sameBut hs hcc⟩
  ·obtain⟨e,n,ne,nf,d⟩:=I.pin p hp;refine⟨(hs.2 p.1 ?_).trans e,n,ne,nf,d⟩;intro q;rw[q,hoc] at e;have q':oc=p.2:=YF e;exact d w' (by rw[←q'];exact hocd)
def t9 {A:Zk}{u:Yj}{Q:Unit->Yv->Prop}(I:a_ X pins σ H s)(hN:X.N.Nodup)(hi:X.N[i]? = some x)(hx:Gk X.env.scope x)(r:cK v u)(h:∀s',a_ X pins (σ.set i (some v)) H s'->Q () s')(hf:X.fn x=true\/X.env.scope.names.lookup x=some .local:=by first|exact .inl rfl|exact .inr rfl|assumption):YE M A (storeName X.env x u) Q E s:=
 wM I hN hi hx r (λs' I' _=>h s' I') hf
theorem a_.call' {s':Yv}(I:a_ X pins σ H s)(ho:s'.os=s.os)(u:Un (Dk X.stack) ch H H' s.heap s'.heap)(hok:qw X.prog X.w H' s'.heap)(hg:AllBare s'.gens)(J8:∀b∈ch,(b∈X.ex\/X.s₀.heap.objs.size<=b)/\b≠X.env.locals/\(∀x c,X.env.cells.lookup x=some c->c≠b)/\∀p∈X.pn++pins,p.1≠b):a_ X pins σ H' s':=by
 obtain⟨h',g',d',t',o'⟩:=s';have e:o'=s.os:=ho;subst e;exact I.call (g':=g') (t':=t') (d':=d') u hok hg J8
end
abbrev XK:=Yj->Option YG->Hp->Prop
noncomputable abbrev St:=List (Option V)
abbrev VK:=V->Hp->Prop
abbrev TE:=St->Hp->VK->Prop
abbrev TT:=St->Hp->(Bool->Hp->Prop)->Prop
abbrev TA:=St->Hp->(List V->Hp->Prop)->Prop
structure t_ where
 nx:St->Hp->Prop
 rt:VK
 bk:St->Hp->Prop:=λ_ _=>False
 ct:St->Hp->Prop:=λ_ _=>False
abbrev TS:=t_->St->Hp->Prop
def EP (X:Cx)(pins:List (YG×Obj))(σ:St)(Q:VK)(u:Yj)(s':Yv):Prop:=∃v H',a_ X pins σ H' s'/\cK v u/\Q v H'
def TP (X:Cx)(pins:List (YG×Obj))(σ:St)(Q:Bool->Hp->Prop)(b:Bool)(s':Yv):Prop:=∃H',a_ X pins σ H' s'/\Q b H'
def AP (X:Cx)(pins:List (YG×Obj))(σ:St)(Q:List V->Hp->Prop)(us:List Yj)(s':Yv):Prop:=∃vs H',a_ X pins σ H' s'/\bC vs us/\Q vs H'
def SP (X:Cx)(pins:List (YG×Obj))(D:t_)(f:Flow)(s':Yv):Prop:=
 match f with
 | .next=>∃σ' H',a_ X pins σ' H' s'/\D.nx σ' H'
 | .brk=>∃σ' H',a_ X pins σ' H' s'/\D.bk σ' H'
 | .cont=>∃σ' H',a_ X pins σ' H' s'/\D.ct σ' H'
 | .ret u=>∃v σ' H',a_ X pins σ' H' s'/\cK v u/\D.rt v H'
def PE (X:Cx)(e:aaE)(t:TE):Prop:=
 ∀(pins:List (YG×Obj)) (s:Yv) (σ:St) (H:Hp) (Q:VK),a_ X pins σ H s->t σ H Q->YE (YQ X.prog X.w) X.A (abN e X.env) (EP X pins σ Q) X.xe s
def PT (X:Cx)(e:aaE)(t:TT):Prop:=
 ∀(pins:List (YG×Obj)) (s:Yv) (σ:St) (H:Hp) (Q:Bool->Hp->Prop),a_ X pins σ H s->t σ H Q->YE (YQ X.prog X.w) X.A (isTrue e X.env (abN e X.env)) (TP X pins σ Q) X.xe s
def PW (X:Cx)(e:aaE)(t:TT):Prop:=
 ∀(qt:Sem Yj) (pins:List (YG×Obj)) (s:Yv) (σ:St) (H:Hp) (Q:Bool->Hp->Prop),a_ X pins σ H s->t σ H Q->YE (YQ X.prog X.w) X.A (isTrue e X.env qt) (TP X pins σ Q) X.xe s
def PW.pt {X:Cx}{e:aaE}{t:TT}(h:PW X e t):PT X e t:=h _
def PA (X:Cx)(es:List aaE)(t:TA):Prop:=
 ∀(pos:Pos) (pins:List (YG×Obj)) (s:Yv) (σ:St) (H:Hp) (Q:List V->Hp->Prop),a_ X pins σ H s->t σ H Q->YE (YQ X.prog X.w) X.A (spliced (abe pos (YC es X.env))) (AP X pins σ Q) X.xe s
def PS (X:Cx)(st:ab4)(t:TS):Prop:=
 ∀(pins:List (YG×Obj)) (s:Yv) (σ:St) (H:Hp) (D:t_),a_ X pins σ H s->t D σ H->YE (YQ X.prog X.w) X.A (exec st X.env) (SP X pins D) X.xe s
def wN (X:Cx)(st:List ab4)(t:TS):Prop:=
 ∀(pins:List (YG×Obj)) (s:Yv) (σ:St) (H:Hp) (D:t_),a_ X pins σ H s->t D σ H->YE (YQ X.prog X.w) X.A (execs st X.env) (SP X pins D) X.xe s
def eT {α:Type}{t:Sem α}{Q Q':α->Yv->Prop}{A:Zk}(h:YE M A t Q E s)(hQ:∀a s,Q a s->Q' a s):YE M A t Q' E s:=ZR h hQ λ_ _ x=>x
end L2
variable {X:L2.Cx}{σ:L2.St}{te:L2.TE}
namespace L2
section
def XM {a b:aaE}{ta tb:TE}(ha:PE X a ta)(hb:PE X b tb){R:V->V->Hp->Prop}(I:a_ X pins σ H s)(h:ta σ H λx H1=>tb σ H1 λy H2=>R x y H2){α:Type}{Q:α->Yv->Prop}{f:Yj->Yj->Sem α}(hf:∀v u s2 x y H2,a_ X pins σ H2 s2->cK x v->cK y u->R x y H2->YE (YQ X.prog X.w) X.A (f v u) Q X.xe s2) :
  YE (YQ X.prog X.w) X.A (abN a X.env) (λv s₁=>YE (YQ X.prog X.w) X.A (abN b X.env) (λu s₂=>YE (YQ X.prog X.w) X.A (f v u) Q X.xe s₂) X.xe s₁) X.xe s:=by
 refine eT (ha pins s σ H _ I h) λv s1 ⟨x,H1,I1,r1,q1⟩=>?_;refine eT (hb pins s1 σ H1 _ I1 q1) λu s2 ⟨y,H2,I2,r2,q2⟩=>?_;exact hf v u s2 x y H2 I2 r1 r2 q2
def NU (i:Nat):TE:=λσ H Q=>∃v,σ[i]? = some (some v)/\Q v H
def tC (v:V):TE:=λ_ H Q=>Q v H
theorem mH (hN:X.N[i]? = some x)(hv:GA X.env.scope x)(hd:(x==("__debug__":Str))=false:=by decide)(tw:(x==("__classdict__":Str))=false:=by decide):PE X (.Name x pos) (NU i):=by
 intro pins s σ H Q I h;obtain⟨v,e,h⟩:=h;obtain⟨m,hn,hl⟩:=I.loc;obtain⟨u,r,l⟩:=hl i x v hN e hv;have fin:EP X pins σ Q u s:=⟨v,H,I,r,h⟩;rcases l with⟨hk,hm⟩|⟨hk,c,hc,sQ⟩
 ·exact wpAny_Name (wpAny_loadName_local I.ok.kind hk hn hm fin) hd
 ·rcases hk with hk|hk
  ·exact wpAny_Name (wpAny_loadName_cell I.ok.kind hk hc sQ fin) hd
  ·exact wpAny_Name (wpAny_loadName_free I.ok.kind hk hc sQ fin tw) hd
def NV {i j pos}:PE X (.Constant (.int i) j pos) (tC (.int i)):=λ_ _ _ H _ I h=>wpAny_Constant_int ⟨.int i,H,I.tok _,⟨_,rfl⟩,h⟩
def Qw {b j pos}:PE X (.Constant (.bool b) j pos) (tC (.bl b)):=λ_ _ _ H _ I h=>Constant_bool ⟨.bl b,H,I,rfl,h⟩
def NW {j pos}:PE X (.Constant .none j pos) (tC .non):=λ_ _ _ H _ I h=>Constant_none ⟨.non,H,I,rfl,h⟩
def NY {x j pos}:PE X (.Constant (.str x) j pos) (tC (.str x)):=λ_ _ _ H _ I h=>Calls.Constant_str ⟨.str x,H,I.tok _,⟨_,rfl⟩,h⟩
def Gl (X:Cx)(x:Str):Prop:=X.env.kindOf x=some .globalImplicit
def Dl {u:Yj}(I:a_ X pins σ H s)(hg:Gl X x)(hm:X.mg x=some u)(h:Q u s)(hd:(x==("__debug__":Str))=false:=by decide):YE (YQ X.prog X.w) X.A (abN (.Name x pos) X.env) Q E s:=
 acK I.ok.kind hg (Calls.loadGlobal_global (by rw[I.ok.glob];exact I.mod.glob.keeps I.bk) hm h) hd
theorem qx {u:Yj}(I:a_ X pins σ H s)(hg:Gl X x)(hm:X.mg x=none)(hv:Zg x=some u)(h:Q u s)(hn:x≠"__name__":=by decide)(hd:(x==("__debug__":Str))=false:=by decide):YE (YQ X.prog X.w) X.A (abN (.Name x pos) X.env) Q E s:=by
 obtain⟨mb,h1,h2⟩:=I.mod.blt;exact acK I.ok.kind hg (Calls.loadGlobal_builtin (by rw[I.ok.glob];exact I.mod.glob.keeps I.bk) hm (by rw[I.ok.blt];exact h1.keeps I.bk) ((h2 x hn).trans hv) h) hd
def Kh {u:Yj}(hg:Gl X x)(hm:X.mg x=some u)(r:cK v u)(hd:(x==("__debug__":Str))=false:=by decide):PE X (.Name x pos) (tC v):=
 λ_ _ _ H _ I h=>Dl I hg hm ⟨v,H,I,r,h⟩ hd
def Ki {u:Yj}(hg:Gl X x)(hm:X.mg x=none)(hv:Zg x=some u)(r:cK v u)(hn:x≠"__name__":=by decide)(hd:(x==("__debug__":Str))=false:=by decide):PE X (.Name x pos) (tC v):=
 λ_ _ _ H _ I h=>qx I hg hm hv ⟨v,H,I,r,h⟩ hn hd
variable {a b:aaE}{ta tb:TE}
def PC (X:Cx)(op:CmpOp)(a b:aaE)(t:TE):Prop:=
 ∀(pins:List (YG×Obj)) (s:Yv) (σ:St) (H:Hp) (Q:VK),a_ X pins σ H s->t σ H Q->
  YE (YQ X.prog X.w) X.A (abN a X.env) (λv s₁=>YE (YQ X.prog X.w) X.A (abN b X.env) (λu s₂=>YE (YQ X.prog X.w) X.A (Zn op v u) (EP X pins σ Q) X.xe s₂) X.xe s₁) X.xe s
def tB (t:TE):TT:=λσ H Q=>t σ H λx H1=>∃c,x=.bl c/\Q c H1
theorem Tt {t:TE}(h:PC X op a b t)(h1:abl op b=false:=by first|exact nobehind _ (by decide) (by decide)|rfl):PT X (.Compare a [op] [b] pos) (tB t):=by
 intro pins s σ H Q I hw;refine wpAny_isTrue_Compare1 (eT (h pins s σ H _ I hw) λv s1 h1=>eT h1 λu s2 h2=>eT h2 λc s3 ⟨x,H1,I1,r1,q1⟩=>?_) h1;obtain⟨d,rfl,q⟩:=q1;cases r1;exact ZI ⟨H1,I1,q⟩
theorem NZ {e:aaE}{t:TE}(h:PE X e t)(he:∀qt,isTrue e X.env qt=(do let v ←qt;standAt e.pos;holding [v] (truthy v)):=by intro _;rfl):PT X e (tB t):=by
 intro pins s σ H Q I hw;refine isTrue_plain (eT (h pins s σ H _ I hw) λv s1 ⟨x,H1,I1,r1,q1⟩=>?_) (he _);obtain⟨d,rfl,q⟩:=q1;cases r1;exact ZI ⟨H1,I1,q⟩
variable {tA tB':TT}{rest:List aaE}
def Qx (t u:TT):TT:=λσ H Q=>t σ H λc H1=>if c=true then u σ H1 Q else Q false H1
def Vh (t u:TT):TT:=λσ H Q=>t σ H λc H1=>if c=true then Q true H1 else u σ H1 Q
def Tu (t:TT):TT:=λσ H Q=>t σ H λc H1=>Q (!c) H1
theorem Kj (ha:PT X a tA):PW X (.BoolOp .And [a] pos) tA:=by
 intro wh pins s σ H Q I h;refine isTrue_and (eT (ha pins s σ H Q I h) λc s1 e=>?_);cases c with
 |true=>exact isTrue_and_nil e
 |false=>exact e
theorem N0 (ha:PT X a tA):PW X (.BoolOp .Or [a] pos) tA:=by
 intro wh pins s σ H Q I h;refine isTrue_or (eT (ha pins s σ H Q I h) λc s1 e=>?_);cases c with
 |false=>exact isTrue_or_nil e
 |true=>exact e
theorem N1 (ha:PT X a tA)(hb:PW X (.BoolOp .And (b::rest) pos) tB'):PW X (.BoolOp .And (a::b::rest) pos) (Qx tA tB'):=by
 intro wh pins s σ H Q I h;refine isTrue_and (eT (ha pins s σ H _ I h) λc s1 ⟨H1,I1,q1⟩=>?_);cases c with
 |true=>exact hb wh pins s1 σ H1 Q I1 q1
 |false=>exact⟨H1,I1,q1⟩
theorem Qy (ha:PT X a tA)(hb:PW X (.BoolOp .Or (b::rest) pos) tB'):PW X (.BoolOp .Or (a::b::rest) pos) (Vh tA tB'):=by
 intro wh pins s σ H Q I h;refine isTrue_or (eT (ha pins s σ H _ I h) λc s1 ⟨H1,I1,q1⟩=>?_);cases c with
 |true=>exact⟨H1,I1,q1⟩
 |false=>exact hb wh pins s1 σ H1 Q I1 q1
def N2 (ha:PT X a tA):PT X (.UnaryOp .Not a pos) (Tu tA):=by
 intro pins s σ H Q I h;exact isTrue_not (ha pins s σ H (λc H1=>Q (!c) H1) I h)
def Qz (ta tb:TE):TE:=λσ H Q=>ta σ H λx H1=>∃c,x=.bl c/\if c=true then tb σ H1 Q else Q (.bl false) H1
def Tv (ta tb:TE):TE:=λσ H Q=>ta σ H λx H1=>∃c,x=.bl c/\if c=true then Q (.bl true) H1 else tb σ H1 Q
def QA (ta:TE):TE:=λσ H Q=>ta σ H λx H1=>∃c,x=.bl c/\Q (.bl (!c)) H1
def N3 {op}{t:TE}(h:PE X a t):PE X (.BoolOp op [a] pos) t:=λpins s σ H Q I hw=>BoolOp_one (h pins s σ H Q I hw)
theorem N4 (ha:PE X a ta)(hb:PE X (.BoolOp .And (b::rest) pos) tb):PE X (.BoolOp .And (a::b::rest) pos) (Qz ta tb):=by
 intro pins s σ H Q I h;refine BoolOp_and (eT (ha pins s σ H _ I h) λv s1 ⟨x,H1,I1,r1,q1⟩=>?_);obtain⟨c,rfl,q1⟩:=q1;cases r1;refine ZI ?_;cases c with
 |true=>exact hb pins s1 σ H1 Q I1 q1
 |false=>exact⟨.bl false,H1,I1,rfl,q1⟩
theorem QB (ha:PE X a ta)(hb:PE X (.BoolOp .Or (b::rest) pos) tb):PE X (.BoolOp .Or (a::b::rest) pos) (Tv ta tb):=by
 intro pins s σ H Q I h;refine BoolOp_or (eT (ha pins s σ H _ I h) λv s1 ⟨x,H1,I1,r1,q1⟩=>?_);obtain⟨c,rfl,q1⟩:=q1;cases r1;refine ZI ?_;cases c with
 |false=>exact hb pins s1 σ H1 Q I1 q1
 |true=>exact⟨.bl true,H1,I1,rfl,q1⟩
theorem N5 (ha:PE X a ta):PE X (.UnaryOp .Not a pos) (QA ta):=by
 intro pins s σ H Q I h;refine UnaryOp_ (eT (ha pins s σ H _ I h) λv s1 ⟨x,H1,I1,r1,q1⟩=>?_);obtain⟨c,rfl,q1⟩:=q1;cases r1;exact not_of (ZI ⟨.bl (!c),H1,I1,rfl,q1⟩)
def Wd (t:TT)(ta tb:TE):TE:=λσ H Q=>t σ H λc H1=>if c=true then ta σ H1 Q else tb σ H1 Q
theorem GB (hc:PT X c tA)(ha:PE X a ta)(hb:PE X b tb):PE X (.IfExp c a b pos) (Wd tA ta tb):=by
 intro pins s σ H Q I h;refine wpAny_IfExp (eT (hc pins s σ H _ I h) λd s1 ⟨H1,I1,q1⟩=>?_);cases d with
 |true=>exact ha pins s1 σ H1 Q I1 q1
 |false=>exact hb pins s1 σ H1 Q I1 q1
end
end L2
namespace L2
def fX (K:Ye)(H:Hp)(a:YG)(xs:List V):Prop:=
 Rd H a (.lst xs) \/
  ∃(o:Obj) (its:Array Yj) (n:Nat),K.lookup a=some o/\o.cls=.type "list"/\o.dict=none/\o.data=.seq its n/\its.size<=Yf/\bC xs its.toList
def gE (K:Ye)(H:Hp)(a:YG)(xs:List V):Prop:=
 Rd H a (.tup xs) \/
  ∃(o:Obj) (its:Array Yj) (n:Nat),K.lookup a=some o/\o.cls=.type "tuple"/\o.data=.seq its n/\its.size<=Yf/\bC xs its.toList
noncomputable def Tw:Yj->Option V
 | .none=>some .non
 | .bool b=>some (.bl b)
 | .int i _=>some (.int i)
 | .str x _=>some (.str x)
 | .bytes b _=>some (.byt b)
 | .float b _=>some (.flt b)
 | .ref a=>some (.ref a)
 | .type n=>some (.ty n)
 |_=>none
theorem cK.abs {x:V}{u:Yj}(r:cK x u):Tw u=some x:=by
 cases x with
 |non=>cases r;rfl
 |bl _=>cases r;rfl
 |int _=>obtain⟨t,rfl⟩:=r;rfl
 |str _=>obtain⟨t,rfl⟩:=r;rfl
 |byt _=>obtain⟨t,rfl⟩:=r;rfl
 |flt _=>obtain⟨t,rfl⟩:=r;rfl
 |ref _=>cases r;rfl
 |ty _=>cases r;rfl
def cK.inj {x y:V}{u:Yj}(r:cK x u)(q:cK y u):x=y:=YF (r.abs.symm.trans q.abs)
theorem bC.inj:∀{xs ys:List V} {us:List Yj},bC xs us->bC ys us->xs=ys
 |_,_,_,.nil,.nil=>rfl
 |_,_,_,.cons r t,.cons r' t'=>by rw[r.inj r',bC.inj t t']
section
variable {ys:List V}
def fX.of (h:H a=some (.lst xs)):fX K H a xs:=.inl (.inl h)
def gE.of (h:H a=some (.tup xs)):gE K H a xs:=.inl (.inl h)
theorem a_.list (I:a_ X pins σ H s)(h:fX X.K H a xs):∃its:List Yj,bC xs its/\PlainL s.heap a its.toArray/\xs.length<=Yf:=by
 rcases h with h|⟨o,its,n,hk,hc,hd,hs,hz,r⟩
 ·obtain⟨z,its,n,r,e⟩:=h.ok I.hok;exact⟨its,r,⟨_,n,e,rfl,rfl,rfl⟩,z⟩
 ·refine⟨its.toList,r,⟨o,n,I.kIn a o hk,hc,hd,by simpa using hs⟩,?_⟩;have e:=r.length;simp only[Yi] at e;lia
theorem a_.tuple (I:a_ X pins σ H s)(h:gE X.K H a xs):∃its:List Yj,bC xs its/\IsTup s.heap a its.toArray/\xs.length<=Yf:=by
 rcases h with h|⟨o,its,n,hk,hc,hs,hz,r⟩
 ·obtain⟨z,its,r,p,_⟩:=h.ok I.hok;exact⟨its,r,p,z⟩
 ·refine⟨its.toList,r,⟨o,I.kIn a o hk,hc,n,by simpa using hs⟩,?_⟩;have e:=r.length;simp only[Yi] at e;lia
theorem a_.list_inj (I:a_ X pins σ H s)(h:fX X.K H a xs)(h':fX X.K H a ys):xs=ys:=by
 obtain⟨its,r,⟨o,n,e,_,_,d⟩,_⟩:=I.list h;obtain⟨its',r',⟨o',n',e',_,_,d'⟩,_⟩:=I.list h';rw[e] at e';cases e';rw[d] at d';injection d' with d1 _
 have:its=its':=by simpa using congrArg Array.toList d1
 subst this;exact r.inj r'
theorem a_.tuple_inj (I:a_ X pins σ H s)(h:gE X.K H a xs)(h':gE X.K H a ys):xs=ys:=by
 obtain⟨its,r,⟨o,e,_,n,d⟩,_⟩:=I.tuple h;obtain⟨its',r',⟨o',e',_,n',d'⟩,_⟩:=I.tuple h';rw[e] at e';cases e';rw[d] at d';injection d' with d1 _
 have:its=its':=by simpa using congrArg Array.toList d1
 subst this;exact r.inj r'
end
noncomputable abbrev Cx.wish (X:Cx)(E:Yj->Yv->Prop):Cx:={X with xe:=E}
noncomputable abbrev Cx.nox (X:Cx):Cx:=X.wish λ_ _=>False
def Cx.Ok.wish (ok:X.Ok)(E:Yj->Yv->Prop):(X.wish E).Ok:=
 ⟨ok.mod,ok.kind,ok.glob,ok.blt,ok.above,ok.inj,ok.has,ok.cab,ok.hd,ok.frames,ok.stk,ok.exf,ok.bs,ok.bsz,ok.noex,ok.exfs,ok.funs,ok.frf⟩
def Cx.Ok.unwish (ok:(X.wish E).Ok):X.Ok:=
 ⟨ok.mod,ok.kind,ok.glob,ok.blt,ok.above,ok.inj,ok.has,ok.cab,ok.hd,ok.frames,ok.stk,ok.exf,ok.bs,ok.bsz,ok.noex,ok.exfs,ok.funs,ok.frf⟩
def a_.wish (I:a_ X pins σ H s)(E:Yj->Yv->Prop):a_ (X.wish E) pins σ H s:=⟨I.ok.wish E,I.os,I.bare,I.base,I.loc,I.cell,I.free,I.freeC,I.pin,I.hok,I.len⟩
def a_.unwish (I:a_ (X.wish E) pins σ H s):a_ X pins σ H s:=⟨I.ok.unwish,I.os,I.bare,I.base,I.loc,I.cell,I.free,I.freeC,I.pin,I.hok,I.len⟩
theorem SP.unwish {D:t_}{f:Flow}{s':Yv}(h:SP (X.wish E) pins D f s'):SP X pins D f s':=by
 cases f with
 |next=>obtain⟨σ',H',I,q⟩:=h;exact⟨σ',H',I.unwish,q⟩
 |brk=>obtain⟨σ',H',I,q⟩:=h;exact⟨σ',H',I.unwish,q⟩
 |cont=>obtain⟨σ',H',I,q⟩:=h;exact⟨σ',H',I.unwish,q⟩
 |ret u=>obtain⟨v,σ',H',I,r,q⟩:=h;exact⟨v,σ',H',I.unwish,r,q⟩
def wN.nox {st:List ab4}{t:TS}(h:wN X.nox st t):wN X st t:=λpins s σ H D I hw=>
 ZR (h pins s σ H D (I.wish _) hw) (λ_ _ q=>q.unwish) λ_ _ z=>abm z
section
variable {rest:List ab4}{t u:TS}{e:aaE}
def QC:TS:=λD σ H=>D.nx σ H
def Tx (t u:TS):TS:=λD σ H=>t {D with nx:=u D} σ H
def Kk:wN X [] QC:=λ_ _ σ H _ I h=>acA ⟨σ,H,I,h⟩
theorem GC (h1:PS X st t)(h2:wN X rest u):wN X (st::rest) (Tx t u):=by
 intro pins s σ H D I h;refine wpAny_execs_cons (eT (h1 pins s σ H {D with nx:=u D} I h) λf s1 q=>?_);cases f with
 |next=>
  obtain⟨σ',H',I',q⟩:=q;exact h2 pins s1 σ' H' D I' q
 |ret v=>exact q
 |brk=>exact q
 |cont=>exact q
theorem Kl (h1:PS X st t):wN X [st] t:=by
 intro pins s σ H D I h;refine wpAny_execs_cons (eT (h1 pins s σ H D I h) λf s1 q=>?_);cases f with
 |next=>exact acA q
 |ret v=>exact q
 |brk=>exact q
 |cont=>exact q
def a_.quiet (I:a_ X pins σ H s):interactive X.env=false:=by simp[interactive,I.ok.kind]
def QD (te:TE):TS:=λD σ H=>te σ H λ_ H1=>D.nx σ H1
def Km (he:PE X e te)(hs:acB e none pos.line X.env=pure false:=by rfl):PS X (.Expr e pos) (QD te):=by
 intro pins s σ H D I h;exact wpAny_Expr_any (eT (he pins s σ H _ I h) λv s1 ⟨x,H1,I1,r1,q1⟩=>⟨σ,H1,I1,q1⟩) I.quiet hs
def Tz (te:TE):TS:=λD σ H=>te σ H D.rt
def BK (he:PE X e te):PS X (.Return (some e) pos) (Tz te):=by
 intro pins s σ H D I h;exact wpAny_Return_some (eT (he pins s σ H _ I h) λv s1 ⟨x,H1,I1,r1,q1⟩=>⟨x,σ,H1,I1,r1,q1⟩)
def TB (c:TT)(t u:TS):TS:=λD σ H=>c σ H λb H1=>if b=true then t D σ H1 else u D σ H1
theorem QE {a b:List ab4}{tc:TT}(hc:PT X c tc)(ha:wN X a t)(hb:wN X b u):PS X (.If c a b pos) (TB tc t u):=by
 intro pins s σ H D I h;refine wpAny_If (eT (hc pins s σ H _ I h) λd s1 ⟨H1,I1,q1⟩=>?_);cases d with
 |true=>exact ha pins s1 σ H1 D I1 q1
 |false=>exact hb pins s1 σ H1 D I1 q1
end
abbrev TG:=V->St->Hp->(St->Hp->Prop)->Prop
abbrev Kn:=List V->St->Hp->(St->Hp->Prop)->Prop
def PG (X:Cx)(rC:aaE)(t:TG):Prop:=
 ∀(pins:List (YG×Obj)) (s:Yv) (σ:St) (H:Hp) (v:V) (u:Yj) (Q:St->Hp->Prop),a_ X pins σ H s->cK v u->t v σ H Q->
  YE (YQ X.prog X.w) X.A (assign rC X.env u) (λ_ s'=>∃σ' H',a_ X pins σ' H' s'/\Q σ' H') X.xe s
def L_ (X:Cx)(ts:List aaE)(t:Kn):Prop:=
 ∀(pins:List (YG×Obj)) (s:Yv) (σ:St) (H:Hp) (vs:List V) (us:List Yj) (Q:St->Hp->Prop),a_ X pins σ H s->bC vs us->t vs σ H Q->
  YE (YQ X.prog X.w) X.A (assignInOrder ((aa6 ts X.env).map (·.2)) us) (λ_ s'=>∃σ' H',a_ X pins σ' H' s'/\Q σ' H') X.xe s
abbrev N6:=V->V->V->Hp->(Hp->Prop)->Prop
def QF (X:Cx)(t:N6):Prop:=
 ∀(pins:List (YG×Obj)) (s:Yv) (σ:St) (H:Hp) (o i v:V) (ov iv u:Yj) (Q:Hp->Prop),a_ X pins σ H s->cK o ov->cK i iv->cK v u->t o i v H Q->
  YE (YQ X.prog X.w) X.A (setItem ov iv u) (λ_ s'=>∃H',a_ X pins σ H' s'/\Q H') X.xe s
abbrev SX:=V->V->Hp->VK->Prop
def TC (X:Cx)(op:Operator)(t:SX):Prop:=
 ∀(pins:List (YG×Obj)) (s:Yv) (σ:St) (H:Hp) (x y:V) (v u:Yj) (Q:VK),a_ X pins σ H s->cK x v->cK y u->t x y H Q->
  YE (YQ X.prog X.w) X.A (inplaceOp op v u) (EP X pins σ Q) X.xe s
def zm (i:Nat):TG:=λv σ H Q=>Q (σ.set i (some v)) H
def Ko (hN:X.N.Nodup)(hi:X.N[i]? = some x)(hx:Gk X.env.scope x)(hf:X.fn x=true\/X.env.scope.names.lookup x=some .local:=by first|exact .inl rfl|exact .inr rfl|assumption):PG X (.Name x pos) (zm i):=by
 intro pins s σ H v u Q I r h;exact wpAny_assign_Name (t9 I hN hi hx r (λs' I'=>⟨_,H,I',h⟩) hf)
def TF:Kn:=λvs σ H Q=>vs=[]/\Q σ H
def QG (t:TG)(u:Kn):Kn:=λvs σ H Q=>∃v r,vs=v::r/\t v σ H λσ' H'=>u r σ' H' Q
theorem Kp:L_ X [] TF:=by
 intro pins s σ H vs us Q I r h;obtain⟨e,h⟩:=h;subst e;cases r;exact assignInOrder_nil ⟨σ,H,I,h⟩
theorem GD {e:aaE}{es:List aaE}{t:TG}{u:Kn}(h1:PG X e t)(h2:L_ X es u)
  (hs:(aa6 (e::es) X.env).map (·.2)=assign e X.env::(aa6 es X.env).map (·.2):=by rfl):L_ X (e::es) (QG t u):=by
 intro pins s σ H vs us Q I r h;obtain⟨v,vr,e1,h⟩:=h;subst e1;cases r with
 |cons r rr=>
  rw[hs];refine assignInOrder_cons (eT (h1 pins s σ H _ _ _ I r h) λ_ s1 ⟨σ1,H1,I1,q1⟩=>?_);exact h2 pins s1 σ1 H1 _ _ Q I1 rr q1
def TH (K:Ye)(n:Nat)(t:Kn):TG:=λv σ H Q=>∃a xs,v=.ref a/\gE K H a xs/\xs.length=n/\t xs σ H Q
theorem N7 {es:List aaE}{t:Kn}(hc:X.calm=true)(h:L_ X es t)(hn:(aa6 es X.env).length=n:=by rfl)(kK:(aa6 es X.env).findIdx? (·.1)=none:=by rfl):PG X (.Tuple es k pos) (TH X.K n t):=by
 intro pins s σ H v u Q I r hw;obtain⟨a,xs,e1,hq,hl,hw⟩:=hw;subst e1;cases r;obtain⟨its,rv,ht,hz⟩:=I.tuple hq;refine assign_Tuple_tuple (I.ok.hd hc) ht (by simp[hn,←hl,rv.length]) kK λh' hx=>?_;have I1:a_ X pins σ H {s with heap:=h'}:=I.kept (t':=s.toks) λb o e=>hx b o (YK (Yu e)) e;exact h pins _ σ H xs _ Q I1 (by simpa using rv) hw
def TJ (to ti:TE)(t:N6):TG:=λv σ H Q=>to σ H λo H1=>ti σ H1 λi H2=>t o i v H2 λH3=>Q σ H3
def N8 {o i:aaE}{to ti:TE}{t:N6}(ho:PE X o to)(hi:PE X i ti)(hs:QF X t)
  (ha:∀v,assign (.Subscript o i pos) X.env v=(do
   let ov ←holding [v] (abN o X.env)
   let iv ←holding [v,ov] (abN i X.env)
   standAt pos
   holding [v,ov,iv] (setItem ov iv v)
   release [v,ov,iv] []):=by intro _;rfl):PG X (.Subscript o i pos) (TJ to ti t):=by
 intro pins s σ H v u Q I r h;rw[ha];refine X6 (Z6 (eT (ho pins s σ H _ I h) λov s1 ⟨x,H1,I1,r1,q1⟩=>?_));refine X6 (Z6 (eT (hi pins s1 σ H1 _ I1 q1) λiv s2 ⟨y,H2,I2,r2,q2⟩=>?_));refine X6 (wpAny_standAt (X6 (Z6 (eT (hs pins s2 σ H2 x y v ov iv u _ I2 r1 r2 r q2) λ_ s3 ⟨H3,I3,q3⟩=>?_))));exact wpAny_release ⟨σ,H3,I3,q3⟩
def GF (te:TE)(g:TG):TS:=λD σ H=>te σ H λx H1=>g x σ H1 D.nx
def N9 {e:aaE}{g:TG}(he:PE X e te)(hg:PG X tg g)(hs:swapsWithSole [tg] e pos.line X.env=pure false:=by rfl)(hw:swappedStores [tg] e X.env=pure none:=by rfl)(h1:(aa6 [tg] X.env).map (·.2)=[assign tg X.env]:=by rfl):PS X (.Assign [tg] e pos) (GF te g):=by
 intro pins s σ H D I h;refine wpAny_Assign_stores (eT (he pins s σ H _ I h) λv s1 ⟨x,H1,I1,r1,q1⟩=>?_) hs hw;rw[h1];exact eT (hg pins s1 σ H1 x v _ I1 r1 q1) λ_ s2 q=>q
def BL {e:aaE}{qs:Pos}(hN:X.N.Nodup)(hi:X.N[i]? = some x)(hx:Gk X.env.scope x)(he:PE X e te)(hs:acB e (some (.Name x qs)) pos.line X.env=pure false:=by rfl)(hf:X.fn x=true\/X.env.scope.names.lookup x=some .local:=by first|exact .inl rfl|exact .inr rfl|assumption) :
  PS X (.Assign [.Name x qs] e pos) (GF te (zm i)):=by
 intro pins s σ H D I h;refine wpAny_Assign_Name (eT (he pins s σ H _ I h) λv s1 ⟨y,H1,I1,r1,q1⟩=>?_) hs;exact t9 I1 hN hi hx r1 (λs2 I2=>⟨_,H1,I2,q1⟩) hf
def TL (i:Nat)(te:TE)(ti:SX):TS:=λD σ H=>∃x,σ[i]? = some (some x)/\te σ H λy H1=>ti x y H1 λz H2=>D.nx (σ.set i (some z)) H2
theorem N_ {e:aaE}{op:Operator}{ti:SX}{qs:Pos}(hN:X.N.Nodup)(hi:X.N[i]? = some x)(hx:Gk X.env.scope x)(he:PE X e te)(ho:TC X op ti)(hf:X.fn x=true\/X.env.scope.names.lookup x=some .local:=by first|exact .inl rfl|exact .inr rfl|assumption) :
  PS X (.AugAssign (.Name x qs) op e pos) (TL i te ti):=by
 intro pins s σ H D I h;obtain⟨v,e1,h⟩:=h;obtain⟨m,hn,hl⟩:=I.loc;have Wx:GA X.env.scope x:=by rcases hx with k|k;exact .inl k;exact .inr (.inl k)
 obtain⟨u,r,l⟩:=hl i x v hi e1 Wx;refine wpAny_AugAssign_Name ?_;have go:YE (YQ X.prog X.w) X.A (abN e X.env) (λw s₂=>YE (YQ X.prog X.w) X.A (inplaceOp op u w) (λr s₃=>YE (YQ X.prog X.w) X.A (storeName X.env x r) (λ_=>SP X pins D .next) X.xe s₃) X.xe s₂) X.xe s:=by
  refine eT (he pins s σ H _ I h) λw s1 ⟨y,H1,I1,r1,q1⟩=>?_;refine eT (ho pins s1 σ H1 v y u w _ I1 r r1 q1) λz s2 ⟨zv,H2,I2,r2,q2⟩=>?_;exact t9 I2 hN hi hx r2 (λs3 I3=>⟨_,H2,I3,q2⟩) hf
 rcases l with⟨hk,hm⟩|⟨hk,c,hc,sQ⟩
 ·exact wpAny_loadName_local I.ok.kind hk hn hm go
 ·rcases hk with hk|hk
  ·exact wpAny_loadName_cell I.ok.kind hk hc sQ go
  ·rcases hx with k|k
   ·have:X.env.scope.names.lookup x=some .free:=hk;rw[k] at this;cases this
   ·have:X.env.scope.names.lookup x=some .free:=hk;rw[k] at this;cases this
def Vi (f:Int->Int->Int):SX:=λx y H Q=>∃i j,x=.int i/\y=.int j/\Q (.int (f i j)) H
theorem GG:TC X .Add (Vi λi j=>i+j):=by
 intro pins s σ H x y v u Q I r1 r2 h;obtain⟨i,j,e1,e2,q⟩:=h;subst e1;subst e2;obtain⟨t,rfl⟩:=r1;obtain⟨t',rfl⟩:=r2;exact iadd_int ⟨.int _,H,I.tok _,⟨_,rfl⟩,q⟩
def Oa (c:TT)(tb:TS):TS:=λD σ H=>∃W:Nat->St->Hp->Prop,(∃m,W m σ H)/\∀m σ H,W m σ H->
 c σ H λb H1=>if b=true then ∃N:St->Hp->Prop,(∀σ' H',N σ' H'->∃m',m'<m/\W m' σ' H')/\tb {D with nx:=N,ct:=N,bk:=D.nx} σ H1 else D.nx σ H1
theorem GH {tc:TT}{tb:TS}(hp:ado (YQ X.prog X.w) X.A X.env X.xe)(hc:PT X c tc)(hb:wN X body tb):PS X (.While c body [] pos) (Oa tc tb):=by
 intro pins s σ H D I h;obtain⟨W,⟨m0,w0⟩,turn⟩:=h;refine wpAny_While (codeAny_whileLoop (λn s'=>∃σ' H',a_ X pins σ' H' s'/\W n σ' H') ?_ m0 ⟨σ,H,I,w0⟩);rintro n s1 ⟨σ1,H1,I1,w1⟩;refine aaZ hp (eT (hc pins s1 σ1 H1 _ I1 (turn n σ1 H1 w1)) λb s2 ⟨H2,I2,q2⟩=>?_);cases b with
 |true=>
  obtain⟨N,hN,q2⟩:=q2;rw[hV rfl];refine aaZ hp (eT (hb pins s2 σ1 H2 _ I2 q2) λf s3 q3=>?_);cases f with
  |next=>
   obtain⟨σ3,H3,I3,n3⟩:=q3;obtain⟨m',hm,w3⟩:=hN σ3 H3 n3;exact⟨m',hm,σ3,H3,I3,w3⟩
  |cont=>
   obtain⟨σ3,H3,I3,n3⟩:=q3;obtain⟨m',hm,w3⟩:=hN σ3 H3 n3;exact⟨m',hm,σ3,H3,I3,w3⟩
  |brk=>exact q3
  |ret v=>exact q3
 |false=>
  rw[hU Yd];exact acA ⟨σ1,H2,I2,q2⟩
structure It where
 go:Nat->Hp->Prop
 yld:Nat->Hp->V->Hp->Prop
 stop:Nat->Hp->Prop
def sS (X:Cx)(pins:List (YG×Obj))(H:Hp)(b:YG):Prop:=
 H b=none/\b≠X.env.locals/\b∉X.fs/\(b∈X.ex\/X.s₀.heap.objs.size<=b)/\(∀x c,X.env.cells.lookup x=some c->c≠b)/\∀p∈X.pn++pins,p.1≠b
theorem a_.fpOk (I:a_ X pins σ H s)(hb:s.heap.objs.size<=b)(hn:H' b=none):sS X pins H' b:=by
 refine⟨hn,abf (Y4 I.lt hb),I.nofs hb,.inr (Zj I.sz hb),λx c e z=>?_,λp hp z=>?_⟩
 ·obtain⟨v,q⟩:=I.cell x c e;exact absurd (Y4 q.lt (by rw[z];exact hb)) (Z_ _)
 ·exact absurd (Y4 (Yu (I.pin p hp).1) (by rw[z];exact hb)) (Z_ _)
structure E_ (P:aa9)(w:abc)(K:Ye)(tg:aaE)(J:It)(fp:List YG)(it:YG)(tn:Nat->aaX->Prop):Prop where
 mem:it∈fp
 obj:∀i h,tn i h->∀b∈fp,∃o,h.get? b=some o/\∀v,o.data≠.cell v
 keep:∀i h h',tn i h->(∀b∈fp,∀o,h.get? b=some o->h'.get? b=some o)->tn i h'
 item:∀(X:Cx),X.prog=P->X.w=w->X.K=K->X.calm=true->∀(i:Nat) (pins:List (YG×Obj)) (s:Yv) (σ:St) (H:Hp) (E:Yj->Yv->Prop),a_ X pins σ H s->(∀b∈fp,sS X pins H b)->tn i s.heap->J.go i H->
  YE (YQ P w) X.A (pyNext (.ref it)) (λr s1=>∃u,r=some u/\
   YE (YQ P w) X.A (acC tg (.ref it) u) (λ_ s2=>∃x H',a_ X pins σ H' s2/\cK x u/\J.yld i H x H'/\tn (i+1) s2.heap/\∀b∈fp,H' b=none) E s1) E s
 done:∀(X:Cx),X.prog=P->X.w=w->X.K=K->X.calm=true->∀(i:Nat) (pins:List (YG×Obj)) (s:Yv) (σ:St) (H:Hp) (E:Yj->Yv->Prop),a_ X pins σ H s->(∀b∈fp,sS X pins H b)->tn i s.heap->J.stop i H->
  YE (YQ P w) X.A (pyNext (.ref it)) (λr s1=>r=none/\a_ X pins σ H s1) E s
 self:∀(A:Zk) (i:Nat) (s:Yv) (Q:Yj->Yv->Prop) (E:Yj->Yv->Prop),tn i s.heap->Q (.ref it) s->YE (YQ P w) A (pyIter (.ref it)) Q E s
abbrev TI:=St->Hp->(It->Hp->Prop)->Prop
def Vj (X:Cx)(pins:List (YG×Obj))(σ:St)(tg:aaE)(R:It->Hp->Prop)(Th:Yj)(s2:Yv):Prop:=
 ∃(it:YG) (fp:List YG) (tn:Nat->aaX->Prop) (J:It) (H':Hp),Th=.ref it/\a_ X pins σ H' s2/\E_ X.prog X.w X.K tg J fp it tn/\tn 0 s2.heap/\(∀b∈fp,sS X pins H' b)/\R J H'
def PI (X:Cx)(tg iter:aaE)(wi:TI):Prop:=
 ∀(pins:List (YG×Obj)) (s:Yv) (σ:St) (H:Hp) (R:It->Hp->Prop),a_ X pins σ H s->wi σ H R->
  YE (YQ X.prog X.w) X.A (abN iter X.env) (λv s1=>YE (YQ X.prog X.w) X.A (pyIter v) (Vj X pins σ tg R) X.xe s1) X.xe s
theorem GI {A:Zk}{u:Yj}{o:Obj}{n:String}{vs:Array Yj}{Q:Unit->Yv->Prop}(ho:s.heap.get? it=some o)(hc:o.cls=.type n)(hd:o.data=.fields vs)(hn:["enumerate","zip","dict_itemiterator","dict_reverseitemiterator","odict_iterator","itertools.zip_longest","itertools.pairwise"].contains n=false)(hQ:Q () s):YE M A (acC tg (.ref it) u) Q E s:=by
  unfold acC;cases tg<;>first
    |exact Yg hQ
    | (cases u<;>first
        |exact Yg hQ
        | (refine X6 (wpAny_load ho ?_)
           rw[hc,hd];show YE M A (if (["enumerate","zip","dict_itemiterator","dict_reverseitemiterator","odict_iterator","itertools.zip_longest","itertools.pairwise"].contains n&&vs[0]? == some (rawInt _))=true then _ else _) Q E s;rw[hU (by intro h;rw[hn,YU] at h;cases h)];exact Yg hQ))
noncomputable def SY (K:Ye)(a:YG):It:=
 ⟨λi H=>∃xs x,fX K H a xs/\xs[i]? = some x,λi H x H'=>H'=H/\∀xs,fX K H a xs->xs[i]? = some x,λi H=>∃xs,fX K H a xs/\xs.length<=i⟩
noncomputable def TM (K:Ye)(a:YG):It:=
 ⟨λi H=>∃xs x,gE K H a xs/\xs[i]? = some x,λi H x H'=>H'=H/\∀xs,gE K H a xs->xs[i]? = some x,λi H=>∃xs,gE K H a xs/\xs.length<=i⟩
noncomputable def QH (lo:Int)(n:Nat):It:=⟨λi _=>i<n,λi H x H'=>H'=H/\x=.int (lo+i),λi _=>n<=i⟩
theorem Fb (a it:YG):E_ P w K tg (SY K a) [it] it (λi h=>h.IsListIter it a i) where
 mem:=by simp
 obj:=λi h st b hb=>by
  have e:b=it:=by simpa using hb
  subst e;obtain⟨o,e,c,d⟩:=st;exact⟨o,e,λv z=>by rw[d] at z;cases z⟩
 keep:=λi h h' st k=>st.at λo e=>k it (by simp) o e
 item:=by
  intro X hP hw hK hc i pins s σ H E I hf st hg;subst hP hw hK;obtain⟨xs,x,hq,hx⟩:=hg;obtain⟨its,rv,p,hz⟩:=I.list hq;obtain⟨u,hu,ru⟩:=rv.get hx;obtain⟨f0,f1,f2,f3,f4,f5⟩:=hf it (by simp);refine wpAny_pyNext_list_item st p.isList (x:=u) (by simpa using hu) λh' bb sb=>?_;have I1:a_ X pins σ H {s with heap:=h'}:=I.turned (t':=s.toks) (λb o hb e=>(sb.2 b hb).trans e) f0 f1 f3 f4 f5;obtain⟨o,e,c,d⟩:=id bb;exact⟨u,rfl,GI (s:={s with heap:=h'}) e c d (by decide) ⟨x,H,I1,ru,⟨rfl,λys hy=>by rw[I.list_inj hy hq];exact hx⟩,bb,λb hb=>(hf b hb).1⟩⟩
 done:=by
  intro X hP hw hK hc i pins s σ H E I hf st hg;subst hP hw hK;obtain⟨xs,hq,hx⟩:=hg;obtain⟨its,rv,p,hz⟩:=I.list hq;obtain⟨f0,f1,f2,f3,f4,f5⟩:=hf it (by simp);have hl:=rv.length;exact wpAny_pyNext_list_end (I.ok.hd hc) st p.isList (by simp;lia) λh' eb=>⟨rfl,I.turned (t':=s.toks) (λb o hb e=>eb b o hb e) f0 f1 f3 f4 f5⟩
 self:=λ_ _ _ _ _ st h=>wpAny_pyIter_listiter st h
theorem BM (a it:YG):E_ P w K tg (TM K a) [it] it (λi h=>h.IsTupleIter it a i) where
 mem:=by simp
 obj:=λi h st b hb=>by
  have e:b=it:=by simpa using hb
  subst e;obtain⟨o,e,c,d⟩:=st;exact⟨o,e,λv z=>by rw[d] at z;cases z⟩
 keep:=λi h h' st k=>st.at λo e=>k it (by simp) o e
 item:=by
  intro X hP hw hK hc i pins s σ H E I hf st hg;subst hP hw hK;obtain⟨xs,x,hq,hx⟩:=hg;obtain⟨its,rv,p,hz⟩:=I.tuple hq;obtain⟨u,hu,ru⟩:=rv.get hx;obtain⟨f0,f1,f2,f3,f4,f5⟩:=hf it (by simp);refine wpAny_pyNext_tuple_item st (show s.heap.IsTuple a its.toArray from p) (x:=u) (by simpa using hu) λh' bb sb=>?_;have I1:a_ X pins σ H {s with heap:=h'}:=I.turned (t':=s.toks) (λb o hb e=>(sb.2 b hb).trans e) f0 f1 f3 f4 f5;obtain⟨o,e,c,d⟩:=id bb;exact⟨u,rfl,GI (s:={s with heap:=h'}) e c d (by decide) ⟨x,H,I1,ru,⟨rfl,λys hy=>by rw[I.tuple_inj hy hq];exact hx⟩,bb,λb hb=>(hf b hb).1⟩⟩
 done:=by
  intro X hP hw hK hc i pins s σ H E I hf st hg;subst hP hw hK;obtain⟨xs,hq,hx⟩:=hg;obtain⟨its,rv,p,hz⟩:=I.tuple hq;obtain⟨f0,f1,f2,f3,f4,f5⟩:=hf it (by simp);have hl:=rv.length;exact wpAny_pyNext_tuple_end (I.ok.hd hc) st (show s.heap.IsTuple a its.toArray from p) (by simp;lia) λh' eb=>⟨rfl,I.turned (t':=s.toks) (λb o hb e=>eb b o hb e) f0 f1 f3 f4 f5⟩
 self:=λ_ _ _ _ _ st h=>wpAny_pyIter_tupleiter st h
theorem BN (it:YG)(lo:Int)(n:Nat):E_ P w K tg (QH lo n) [it] it (λi h=>IsRangeIter h it (lo+(i:Nat)*1) ((n:Int)-(i:Nat)) 1) where
 mem:=by simp
 obj:=λi h st b hb=>by
  have e:b=it:=by simpa using hb
  subst e;exact⟨_,st,λv z=>by
   have z':Data.fields _=Data.cell v:=z;cases z'⟩
 keep:=λi h h' st k=>k it (by simp) _ st
 item:=by
  intro X hP hw hK hc i pins s σ H E I hf st hg;subst hP hw hK;obtain⟨f0,f1,f2,f3,f4,f5⟩:=hf it (by simp);have W:=Walks.range (prog:=X.prog) (w:=X.w) (I.ok.hd hc) it lo 1 n;refine W.item i s _ _ hg st λv h' tk hv bb kk=>?_;obtain⟨t,rfl⟩:=hv;have I1:a_ X pins σ H {s with heap:=h',toks:=tk}:=I.turned (λb o hb e=>kk b o (by simpa using hb) e) f0 f1 f3 f4 f5;refine⟨_,rfl,GI (s:={s with heap:=h',toks:=tk}) (n:="range_iterator") bb rfl rfl (by decide) ⟨.int (lo+i),H,I1,⟨t,?_⟩,⟨rfl,rfl⟩,bb,λb hb=>(hf b hb).1⟩⟩;rw[Int.mul_one]
 done:=by
  intro X hP hw hK hc i pins s σ H E I hf st hg;subst hP hw hK;obtain⟨f0,f1,f2,f3,f4,f5⟩:=hf it (by simp);exact wpAny_pyNext_range_end (I.ok.hd hc) st (by have:n<=i:=hg;lia) λh' eb=>⟨rfl,I.turned (t':=s.toks) (λb o hb e=>eb b o hb e) f0 f1 f3 f4 f5⟩
 self:=λ_ _ _ _ _ st h=>wpAny_pyIter_rangeiter st h
end L2
variable {wi:L2.TI}
namespace L2
def QI (K:Ye)(tl:TE):TI:=λσ H R=>tl σ H λx H1=>∃a,x=.ref a/\(∃xs,fX K H1 a xs)/\R (SY K a) H1
def TN (K:Ye)(tl:TE):TI:=λσ H R=>tl σ H λx H1=>∃a,x=.ref a/\(∃xs,gE K H1 a xs)/\R (TM K a) H1
theorem Kq {l:aaE}{tl:TE}(hl:PE X l tl):PI X tg l (QI X.K tl):=by
 intro pins s σ H R I h;refine eT (hl pins s σ H _ I h) λv s1 ⟨x,H1,I1,r1,q1⟩=>?_;obtain⟨a,e,⟨xs,hq⟩,q⟩:=q1;subst e;cases r1;obtain⟨its,rv,p,hz⟩:=I1.list hq;refine ab5 p.isList ?_;refine⟨s1.heap.objs.size,[s1.heap.objs.size],_,_,H1,rfl,I1.kept (t':=s1.toks) λb o e=>X9 _ e,Fb a _,⟨_,Ym _ rfl,rfl,rfl⟩,λb hb=>?_,q⟩;have e:b=s1.heap.objs.size:=by simpa using hb
 subst e;exact I1.fpOk (Yl _) (I1.hok.fresh (Yl _))
theorem Ob {l:aaE}{tl:TE}(hl:PE X l tl):PI X tg l (TN X.K tl):=by
 intro pins s σ H R I h;refine eT (hl pins s σ H _ I h) λv s1 ⟨x,H1,I1,r1,q1⟩=>?_;obtain⟨a,e,⟨xs,hq⟩,q⟩:=q1;subst e;cases r1;obtain⟨its,rv,p,hz⟩:=I1.tuple hq;refine acS (show s1.heap.IsTuple a its.toArray from p) ?_;refine⟨s1.heap.objs.size,[s1.heap.objs.size],_,_,H1,rfl,I1.kept (t':=s1.toks) λb o e=>X9 _ e,BM a _,⟨_,Ym _ rfl,rfl,rfl⟩,λb hb=>?_,q⟩;have e:b=s1.heap.objs.size:=by simpa using hb
 subst e;exact I1.fpOk (Yl _) (I1.hok.fresh (Yl _))
theorem zo {R:It->Hp->Prop}{t u v:Tok}{tk:Nat}(I:a_ X pins σ H s)(h1 : -(2 ^ 62)<=lo)(h2:lo<2 ^ 62)(h3 : -(2 ^ 62)<=hi)(h4:hi<2 ^ 62)(q:R (QH lo (hi-lo).toNat) H):YE (YQ X.prog X.w) X.A (pyIter (.ref s.heap.objs.size)) (Vj X pins σ tg R) E {s with heap:=s.heap.push {cls:=.type "range",data:=.fields #[.int lo t,.int hi u,.int 1 v]},toks:=tk}:=by
 refine wpAny_pyIter_range (IsRange.new ..) (small_one h1 h2 h3 h4) ?_;have I1:a_ X pins σ H {s with heap:=s.heap.push {cls:=.type "range",data:=.fields #[.int lo t,.int hi u,.int 1 v]},toks:=tk}:=I.kept λb o e=>X9 _ e;refine⟨(s.heap.push {cls:=.type "range",data:=.fields #[.int lo t,.int hi u,.int 1 v]}).objs.size,[(s.heap.push {cls:=.type "range",data:=.fields #[.int lo t,.int hi u,.int 1 v]}).objs.size],_,_,H,rfl,
  I1.kept (t':=tk) λb o e=>X9 _ e,BN _ lo (hi-lo).toNat,?_,λb hb=>?_,q⟩
 ·have e1:lo+((0:Nat):Int)*1=lo:=by simp
  have e2:(((hi-lo).toNat:Nat):Int)-((0:Nat):Int)=abP lo hi 1:=by rw[rangeSize_one];split<;>lia
  show IsRangeIter _ _ (lo+((0:Nat):Int)*1) ((((hi-lo).toNat:Nat):Int)-((0:Nat):Int)) 1;rw[e1,e2];exact Ym _ rfl
 ·have e:b=(s.heap.push {cls:=.type "range",data:=.fields #[.int lo t,.int hi u,.int 1 v]}).objs.size:=by simpa using hb
  subst e;exact I1.fpOk (Yl _) (I1.hok.fresh (Yl _))
def QJ (ta:TA):TI:=λσ H R=>ta σ H λvs H1=>∃j:Int,vs=[.int j]/\ -(2 ^ 62)<=j/\j<2 ^ 62/\R (QH 0 j.toNat) H1
def QK (ta:TA):TI:=λσ H R=>ta σ H λvs H1=>∃i j:Int,vs=[.int i,.int j]/\(-(2 ^ 62)<=i/\i<2 ^ 62/\ -(2 ^ 62)<=j/\j<2 ^ 62)/\R (QH i (j-i).toNat) H1
theorem Fc {a:aaE}{ta:TA}{p:Pos}(hg:Gl X "range")(hm:X.mg "range"=none)(ha:PA X [a] ta)(hs:YC [a] X.env=[(false,abN a X.env)]:=by rfl):PI X tg (.Call (.Name "range" p) [a] [] pos) (QJ ta):=by
 intro pins s σ H R I h;refine Call_ (qx I hg hm boot_range (aaF (eT (ha pos pins s σ H _ I h) λus s1 ⟨vs,H1,I1,r1,q1⟩=>?_) hs rfl));obtain⟨j,e,q1,q2,q⟩:=q1;subst e;cases r1 with
 |cons r rr=>
  cases rr;obtain⟨t,rfl⟩:=r;exact call_range_1 (zo I1 (by lia) (by lia) q1 q2 (by simpa using q))
theorem Fd {a b:aaE}{ta:TA}{p:Pos}(hg:Gl X "range")(hm:X.mg "range"=none)(ha:PA X [a,b] ta)(hs:YC [a,b] X.env=[(false,abN a X.env),(false,abN b X.env)]:=by rfl)(dG:YC [b] X.env=[(false,abN b X.env)]:=by rfl) :
  PI X tg (.Call (.Name "range" p) [a,b] [] pos) (QK ta):=by
 intro pins s σ H R I h;refine Call_ (qx I hg hm boot_range (aaF (eT (ha pos pins s σ H _ I h) λus s1 ⟨vs,H1,I1,r1,q1⟩=>?_) (by rw[hs,dG]) (by rw[dG];rfl)));obtain⟨i,j,e,⟨q1,q2,q3,q4⟩,q⟩:=q1;subst e;cases r1 with
 |cons r rr=>
  cases rr with
  |cons r' rr=>
   cases rr;obtain⟨t,rfl⟩:=r;obtain⟨t',rfl⟩:=r';exact call_range_2 (zo I1 q1 q2 q3 q4 q)
def TQ (wi:TI)(g:TG)(tb:TS):TS:=λD σ H=>wi σ H λJ H1=>∃W:Nat->Nat->St->Hp->Prop,(∃m,W 0 m σ H1)/\∀i m σ H,W i m σ H->
 (J.stop i H/\D.nx σ H)\/(J.go i H/\∃N:St->Hp->Prop,(∀σ' H',N σ' H'->∃m',m'<m/\W (i+1) m' σ' H')/\∀x H',J.yld i H x H'->g x σ H' λσ2 H2=>tb {D with nx:=N,ct:=N,bk:=D.nx} σ2 H2)
noncomputable def uc (fp:List YG)(h:aaX):List (YG×Obj):=fp.filterMap λb=>(h.get? b).map λo=>(b,o)
def lP {o:Obj}(hb:b∈fp)(e:h.get? b=some o):(b,o)∈uc fp h:=acT.mpr ⟨b,hb,by rw[e];rfl⟩
theorem Fe {p:YG×Obj}(hp:p∈uc fp h):p.1∈fp/\h.get? p.1=some p.2:=by
 obtain⟨b,hb,e⟩:=acT.mp hp;cases q:h.get? b with
 |none=>rw[q] at e;cases e
 |some o=>
  rw[q] at e;have e':(b,o)=p:=YF e;subst e';exact⟨hb,q⟩
theorem a_.pinned (I:a_ X pins σ H s)(hf:∀b∈fp,sS X pins H b)(ho:∀b∈fp,∃o,s.heap.get? b=some o/\∀v,o.data≠.cell v):a_ X (pins++uc fp s.heap) σ H s:=
 I.pins_of λp hp=>(Yx.mp hp).elim (λz=>I.pin p (YM _ z)) λz=>by
  obtain⟨hb,e⟩:=Fe z;obtain⟨f0,f1,f2,_⟩:=hf p.1 hb;obtain⟨o,e',d⟩:=ho p.1 hb;rw[e] at e';cases e';exact⟨e,f0,f1,f2,d⟩
def a_.unpinned {pl:List (YG×Obj)}(I:a_ X (pins++pl) σ H s):a_ X pins σ H s:=I.pins_of λp hp=>I.pin p (YM _ (ZY _ hp))
theorem Oc {g:TG}{tb:TS}(hp:ado (YQ X.prog X.w) X.A X.env X.xe)(hc:X.calm=true)(hi:PI X tg iter wi)(hg:PG X tg g)(hb:wN X body tb)(hs:∀x,aah iter X.env x=pure x:=by intro _;rfl):PS X (.For tg iter body [] pos) (TQ wi g tb):=by
 intro pins s σ H D I h;refine wpAny_For (eT (hi pins s σ H _ I h) λv s1 h1=>eT h1 λTh s2 h2=>?_) hs;obtain⟨it,fp,tn,J,H2,e,I2,T,nO,f2,W,⟨m0,w0⟩,turn⟩:=h2;subst e;have PQ:∀{H':Hp},(∀b∈fp,H' b=none)->∀b∈fp,sS X pins H' b:=λhn b hb=>⟨hn b hb,(f2 b hb).2⟩;refine codeAny_forLoop_any (λn s'=>∃i σ' H',a_ X pins σ' H' s'/\tn i s'.heap/\(∀b∈fp,H' b=none)/\W i n σ' H') ?_ m0 ⟨0,σ,H2,I2,nO,λb hb=>(f2 b hb).1,w0⟩;rintro n s3 ⟨i,σ3,H3,I3,Kc,fr3,w3⟩;rcases turn i n σ3 H3 w3 with⟨stop,qn⟩|⟨go,N,hN,step⟩
 ·refine aaZ hp (eT (T.done X rfl rfl rfl hc i pins s3 σ3 H3 X.xe I3 (PQ fr3) Kc stop) λr s4 ⟨hr,I4⟩=>?_);subst hr;exact acA ⟨σ3,H3,I4,qn⟩
 ·refine aaZ hp (eT (T.item X rfl rfl rfl hc i pins s3 σ3 H3 X.xe I3 (PQ fr3) Kc go) λr s4 ⟨u,hr,h4⟩=>?_);subst hr;refine aaZ hp (eT h4 λ_ s5 ⟨x,H5,I5,r5,y5,st5,fr5⟩=>?_);have UJ:=I5.pinned (PQ fr5) (T.obj _ _ st5);refine aaZ hp (eT (hg _ s5 σ3 H5 x u _ UJ r5 (step x H5 y5)) λ_ s6 ⟨σ6,H6,I6,q6⟩=>?_);refine aaZ hp (eT (hb _ s6 σ6 H6 _ I6 q6) λf s7 q7=>?_);have again:∀{σ7:St} {H7:Hp},a_ X (pins++uc fp s5.heap) σ7 H7 s7->N σ7 H7->∃m,m<n/\∃i σ' H',a_ X pins σ' H' s7/\tn i s7.heap/\(∀b∈fp,H' b=none)/\W i m σ' H':=λ{σ7 H7} I7 n7=>by
   obtain⟨m',hm,w7⟩:=hN σ7 H7 n7;refine⟨m',hm,i+1,σ7,H7,I7.unpinned,T.keep _ _ _ st5 λb hb o e=>(I7.pin (b,o) (YM _ (YM _ (lP hb e)))).1,λb hb=>?_,w7⟩;obtain⟨o,e,d⟩:=T.obj _ _ st5 b hb;exact (I7.pin (b,o) (YM _ (YM _ (lP hb e)))).2.1
  cases f with
  |next=>obtain⟨σ7,H7,I7,n7⟩:=q7;exact again I7 n7
  |cont=>obtain⟨σ7,H7,I7,n7⟩:=q7;exact again I7 n7
  |brk=>obtain⟨σ7,H7,I7,q7⟩:=q7;exact⟨σ7,H7,I7.unpinned,q7⟩
  |ret v=>obtain⟨x7,σ7,H7,I7,r7,q7⟩:=q7;exact⟨x7,σ7,H7,I7.unpinned,r7,q7⟩
end L2
namespace L2
abbrev R2:=V->V->Hp->VK->Prop
def jt (X:Cx)(f:Yj->Yj->Sem Yj)(r:R2):Prop:=
 ∀(pins:List (YG×Obj)) (s:Yv) (σ:St) (H:Hp) (x y:V) (v u:Yj) (Q:VK),a_ X pins σ H s->cK x v->cK y u->r x y H Q->
  YE (YQ X.prog X.w) X.A (f v u) (EP X pins σ Q) X.xe s
def S0 (X:Cx)(f:Yj->Sem Yj)(r:V->Hp->VK->Prop):Prop:=
 ∀(pins:List (YG×Obj)) (s:Yv) (σ:St) (H:Hp) (x:V) (v:Yj) (Q:VK),a_ X pins σ H s->cK x v->r x H Q->
  YE (YQ X.prog X.w) X.A (f v) (EP X pins σ Q) X.xe s
def eZ (X:Cx)(f:Yj)(r:List V->Hp->VK->Prop):Prop:=
 ∀(pins:List (YG×Obj)) (s:Yv) (σ:St) (H:Hp) (xs:List V) (us:List Yj) (Q:VK),a_ X pins σ H s->bC xs us->r xs H Q->
  YE (YQ X.prog X.w) X.A (call f us) (EP X pins σ Q) X.xe s
def TR (X:Cx)(r:V->Hp->(Bool->Hp->Prop)->Prop):Prop:=
 ∀(pins:List (YG×Obj)) (s:Yv) (σ:St) (H:Hp) (x:V) (v:Yj) (Q:Bool->Hp->Prop),a_ X pins σ H s->cK x v->r x H Q->
  YE (YQ X.prog X.w) X.A (truthy v) (TP X pins σ Q) X.xe s
def QL (r:R2)(ta tb:TE):TE:=λσ H Q=>ta σ H λx H1=>tb σ H1 λy H2=>r x y H2 Q
def Vk (r:V->Hp->VK->Prop)(ta:TE):TE:=λσ H Q=>ta σ H λx H1=>r x H1 Q
def rI (C:Int->Int->Prop)(g:Int->Int->V):R2:=λx y H Q=>∃i j,x=.int i/\y=.int j/\C i j/\Q (g i j) H
def BO (g:Int->Int->V):R2:=λx y H Q=>∃i j,x=.int i/\y=.int j/\Q (g i j) H
def rU (g:Int->V):V->Hp->VK->Prop:=λx H Q=>∃i,x=.int i/\Q (g i) H
section
variable {a b:aaE}{ta tb tc:TE}
def Od (ha:PE X a ta)(hb:PE X b tb){R:V->V->Hp->Prop}(I:a_ X pins σ H s)(h:ta σ H λx H1=>tb σ H1 λy H2=>R x y H2){f:Yj->Yj->Sem Yj}(hf:∀v u s2 x y H2,a_ X pins σ H2 s2->cK x v->cK y u->R x y H2->YE (YQ X.prog X.w) X.A (f v u) Q X.xe s2) :
  YE (YQ X.prog X.w) X.A (abN a X.env) (λv s₁=>YE (YQ X.prog X.w) X.A (abN b X.env) (λu s₂=>YE (YQ X.prog X.w) X.A (f v u) Q X.xe s₂) X.xe s₁) X.xe s:=by
 refine eT (ha pins s σ H _ I h) λv s1 ⟨x,H1,I1,r1,q1⟩=>?_;refine eT (hb pins s1 σ H1 _ I1 q1) λu s2 ⟨y,H2,I2,r2,q2⟩=>?_;exact hf v u s2 x y H2 I2 r1 r2 q2
def Ma {op:Operator}{r:R2}(ho:jt X (aa3 op) r)(ha:PE X a ta)(hb:PE X b tb):PE X (.BinOp a op b pos) (QL r ta tb):=by
 intro pins s σ H Q I h;exact wpAny_BinOp (Od ha hb I h λv u s2 x y H2 I2 rx ry q=>ho pins s2 σ H2 x y v u Q I2 rx ry q)
def QM {op:UnaryOp}{r:V->Hp->VK->Prop}(ho:S0 X (unaryOp op) r)(ha:PE X a ta):PE X (.UnaryOp op a pos) (Vk r ta):=by
 intro pins s σ H Q I h;exact UnaryOp_ (eT (ha pins s σ H _ I h) λv s1 ⟨x,H1,I1,r1,q1⟩=>ho pins s1 σ H1 x v Q I1 r1 q1)
theorem S1 {f:Yj->Yj->Sem Yj}{C:Int->Int->Prop}{g:Int->Int->Int}
  (rule:∀(i j:Int) (t u:Tok) (s:Yv) (Q:Yj->Yv->Prop) (E:Yj->Yv->Prop),C i j->Q (.int (g i j) s.toks) {s with toks:=s.toks+1}->YE (YQ X.prog X.w) X.A (f (.int i t) (.int j u)) Q E s) :
  jt X f (rI C λi j=>.int (g i j)):=by
 intro pins s σ H x y v u Q I rx ry h;obtain⟨i,j,rfl,rfl,hc,q⟩:=h;obtain⟨t,rfl⟩:=rx;obtain⟨t',rfl⟩:=ry;exact rule i j t t' s _ _ hc ⟨.int (g i j),H,I.tok _,⟨_,rfl⟩,q⟩
theorem QN {f:Yj->Yj->Sem Yj}{g:Int->Int->Int}
  (rule:∀(i j:Int) (t u:Tok) (s:Yv) (Q:Yj->Yv->Prop) (E:Yj->Yv->Prop),Q (.int (g i j) s.toks) {s with toks:=s.toks+1}->YE (YQ X.prog X.w) X.A (f (.int i t) (.int j u)) Q E s) :
  jt X f (BO λi j=>.int (g i j)):=by
 intro pins s σ H x y v u Q I rx ry h;obtain⟨i,j,rfl,rfl,q⟩:=h;obtain⟨t,rfl⟩:=rx;obtain⟨t',rfl⟩:=ry;exact rule i j t t' s _ _ ⟨.int (g i j),H,I.tok _,⟨_,rfl⟩,q⟩
theorem Kr {f:Yj->Yj->Sem Yj}{g:Int->Int->Bool}
  (rule:∀(i j:Int) (t u:Tok) (s:Yv) (Q:Yj->Yv->Prop) (E:Yj->Yv->Prop),Q (.bool (g i j)) s->YE (YQ X.prog X.w) X.A (f (.int i t) (.int j u)) Q E s) :
  jt X f (BO λi j=>.bl (g i j)):=by
 intro pins s σ H x y v u Q I rx ry h;obtain⟨i,j,rfl,rfl,q⟩:=h;obtain⟨t,rfl⟩:=rx;obtain⟨t',rfl⟩:=ry;exact rule i j t t' s _ _ ⟨.bl (g i j),H,I,rfl,q⟩
def QO (i j:Int):Prop:=0<=j/\j<=1000000/\i.natAbs<2 ^ 64
def Ks (i j:Int):Prop:=(-(2 ^ 64)<i/\i<2 ^ 64)\/(-(2 ^ 64)<j/\j<2 ^ 64)
theorem Ks.ok {i j:Int}(h:Ks i j):IntMulOk i j:=by
 rcases h with⟨h1,h2⟩|⟨h1,h2⟩
 ·exact .of_left (intBits_le_64 h1 h2)
 ·exact .of_right (intBits_le_64 h1 h2)
def Oe:jt X (aa3 .Add) (BO λi j=>.int (i+j)):=QN λ_ _ _ _ _ _ _ q=>add_int q
def qy:jt X (aa3 .Sub) (BO λi j=>.int (i-j)):=QN λ_ _ _ _ _ _ _ q=>sub_int q
def mI:jt X (aa3 .Mult) (rI Ks λi j=>.int (i*j)):=S1 λ_ _ _ _ _ _ _ hc q=>mul_int q hc.ok
theorem qz:jt X (aa3 .Mod) (rI (λ_ j=>0<j) λi j=>.int (i % j)):=S1 λi j _ _ _ _ _ hc q=>by
 have h1:(0:Int)<j:=hc;exact mod_int' (by lia) (by rw[Int.fmod_eq_emod_of_nonneg i (by lia)];exact q)
def GJ:jt X (aa3 .Pow) (rI QO λi j=>.int (i ^ j.toNat)):=S1 λ_ _ _ _ _ _ _ hc q=>pow_int_small hc.1 hc.2.1 hc.2.2 q
theorem We {f:Yj->Sem Yj}{g:Int->Int}
  (rule:∀(i:Int) (t:Tok) (s:Yv) (Q:Yj->Yv->Prop) (E:Yj->Yv->Prop),Q (.int (g i) s.toks) {s with toks:=s.toks+1}->YE (YQ X.prog X.w) X.A (f (.int i t)) Q E s) :
  S0 X f (rU λi=>.int (g i)):=by
 intro pins s σ H x v Q I rx h;obtain⟨i,rfl,q⟩:=h;obtain⟨t,rfl⟩:=rx;exact rule i t s _ _ ⟨.int (g i),H,I.tok _,⟨_,rfl⟩,q⟩
def BP:S0 X (unaryOp .USub) (rU λi=>.int (-i)):=We λ_ _ _ _ _ q=>neg_int q
end
noncomputable def QP:V->V->Bool
 | .non,.non=>true|.non,.int _=>true|.int _,.non=>true|.non,.bl _=>true|.bl _,.non=>true|.non,.str _=>true|.str _,.non=>true
 | .int _,.int _=>true|.bl _,.bl _=>true|.str _,.str _=>true|.byt _,.byt _=>true
 | .int _,.str _=>true|.str _,.int _=>true|.bl _,.str _=>true|.str _,.bl _=>true
 |_,_=>false
def Vl:R2:=λx y H Q=>QP x y=true/\Q (.bl (decide (x=y))) H
def Vm:R2:=λx y H Q=>QP x y=true/\Q (.bl (!decide (x=y))) H
def tH {i j:Int}:decide (V.int i=V.int j)=(i==j):=by
 rw[aap];simp
def xR {i j:Bool}:decide (V.bl i=V.bl j)=(i==j):=by
 rw[aap];simp
def tJ {i j:Str}:decide (V.str i=V.str j)=(i==j):=by
 rw[aap];simp
theorem Dm {i j:Array UInt8}:decide (V.byt i=V.byt j)=(i.toList==j.toList):=by
 rw[aap];cases i;cases j;simp
section
variable {a b:aaE}{ta tb tc:TE}
theorem cf {Q:VK}{k k':Bool}(I:a_ X pins σ H s)(q:Q (.bl k) H)(e:k=k'):EP X pins σ Q (.bool k') s:=by
 subst e;exact⟨.bl k,H,I,rfl,q⟩
theorem rG:jt X (Zn .Eq) Vl:=by
 intro pins s σ H x y v u Q I rx ry h;obtain⟨hs,q⟩:=h;cases x with
 |non=>
  cases rx;cases y with
  |non=>cases ry;exact PySem.EqNone.eq_none_none (cf I q (by simp))
  |bl j=>cases ry;exact PySem.EqNone.eq_none_bool (cf I q (by simp))
  |int j=>obtain⟨t',rfl⟩:=ry;exact PySem.EqNone.eq_none_int (cf I q (by simp))
  |str j=>obtain⟨t',rfl⟩:=ry;exact PySem.EqNone.eq_none_str (cf I q (by simp))
  |_=>exact absurd (show false=true from hs) Yd
 |bl i=>
  cases rx;cases y with
  |non=>cases ry;exact PySem.EqNone.eq_bool_none (cf I q (by simp))
  |bl j=>cases ry;exact eq_bool (cf I q xR)
  |str j=>obtain⟨t',rfl⟩:=ry;exact PySem.EqMixed.eq_bool_str (cf I q (by simp))
  |_=>exact absurd (show false=true from hs) Yd
 |int i=>
  obtain⟨t,rfl⟩:=rx;cases y with
  |non=>cases ry;exact PySem.EqNone.eq_int_none (cf I q (by simp))
  |int j=>obtain⟨t',rfl⟩:=ry;exact eq_int (cf I q tH)
  |str j=>obtain⟨t',rfl⟩:=ry;exact PySem.EqMixed.eq_int_str (cf I q (by simp))
  |_=>exact absurd (show false=true from hs) Yd
 |str i=>
  obtain⟨t,rfl⟩:=rx;cases y with
  |non=>cases ry;exact PySem.EqNone.eq_str_none (cf I q (by simp))
  |bl j=>cases ry;exact PySem.EqMixed.eq_str_bool (cf I q (by simp))
  |int j=>obtain⟨t',rfl⟩:=ry;exact PySem.EqMixed.eq_str_int (cf I q (by simp))
  |str j=>obtain⟨t',rfl⟩:=ry;exact eq_str (cf I q tJ)
  |_=>exact absurd (show false=true from hs) Yd
 |byt i=>
  obtain⟨t,rfl⟩:=rx;cases y with
  |byt j=>obtain⟨t',rfl⟩:=ry;exact PySem.W.eq_bytes (cf I q Dm)
  |_=>exact absurd (show false=true from hs) Yd
 |_=>cases y<;>exact absurd (show false=true from hs) Yd
theorem zp:jt X (Zn .NotEq) Vm:=by
 intro pins s σ H x y v u Q I rx ry h;obtain⟨hs,q⟩:=h;cases x with
 |non=>
  cases rx;cases y with
  |non=>cases ry;exact PySem.EqNone.ne_none_none (cf I q (by simp))
  |bl j=>cases ry;exact PySem.EqNone.ne_none_bool (cf I q (by simp))
  |int j=>obtain⟨t',rfl⟩:=ry;exact PySem.EqNone.ne_none_int (cf I q (by simp))
  |str j=>obtain⟨t',rfl⟩:=ry;exact PySem.EqNone.ne_none_str (cf I q (by simp))
  |_=>exact absurd (show false=true from hs) Yd
 |bl i=>
  cases rx;cases y with
  |non=>cases ry;exact PySem.EqNone.ne_bool_none (cf I q (by simp))
  |bl j=>cases ry;exact ne_bool (cf I q (congrArg not xR))
  |str j=>obtain⟨t',rfl⟩:=ry;exact PySem.EqMixed.ne_bool_str (cf I q (by simp))
  |_=>exact absurd (show false=true from hs) Yd
 |int i=>
  obtain⟨t,rfl⟩:=rx;cases y with
  |non=>cases ry;exact PySem.EqNone.ne_int_none (cf I q (by simp))
  |int j=>obtain⟨t',rfl⟩:=ry;exact ne_int (cf I q (congrArg not tH))
  |str j=>obtain⟨t',rfl⟩:=ry;exact PySem.EqMixed.ne_int_str (cf I q (by simp))
  |_=>exact absurd (show false=true from hs) Yd
 |str i=>
  obtain⟨t,rfl⟩:=rx;cases y with
  |non=>cases ry;exact PySem.EqNone.ne_str_none (cf I q (by simp))
  |bl j=>cases ry;exact PySem.EqMixed.ne_str_bool (cf I q (by simp))
  |int j=>obtain⟨t',rfl⟩:=ry;exact PySem.EqMixed.ne_str_int (cf I q (by simp))
  |str j=>obtain⟨t',rfl⟩:=ry;exact ne_str (cf I q (congrArg not tJ))
  |_=>exact absurd (show false=true from hs) Yd
 |byt i=>
  obtain⟨t,rfl⟩:=rx;cases y with
  |byt j=>obtain⟨t',rfl⟩:=ry;exact PySem.W.ne_bytes (cf I q (congrArg not Dm))
  |_=>exact absurd (show false=true from hs) Yd
 |_=>cases y<;>exact absurd (show false=true from hs) Yd
def pz:jt X (Zn .Lt) (BO λi j=>.bl (decide (i<j))):=Kr λ_ _ _ _ _ _ _ q=>lt_int q
def pA:jt X (Zn .LtE) (BO λi j=>.bl (decide (i<=j))):=Kr λ_ _ _ _ _ _ _ q=>le_int q
def rH:jt X (Zn .Gt) (BO λi j=>.bl (decide (j<i))):=Kr λ_ _ _ _ _ _ _ q=>gt_int q
def QQ:jt X (Zn .GtE) (BO λi j=>.bl (decide (j<=i))):=Kr λ_ _ _ _ _ _ _ q=>ge_int q
theorem Of:jt X (Zn .Is) (λx y H Q=>y=.non/\Q (.bl (decide (x=.non))) H):=by
 intro pins s σ H x y v u Q I rx ry h;obtain⟨rfl,q⟩:=h;cases ry;refine is_none_gen (cf I q ?_);cases x<;>first
  | (cases rx;rfl)
  | (obtain⟨t,rfl⟩:=rx;rfl)
theorem Dn:jt X (Zn .IsNot) (λx y H Q=>y=.non/\Q (.bl (!decide (x=.non))) H):=by
 intro pins s σ H x y v u Q I rx ry h;obtain⟨rfl,q⟩:=h;cases ry;refine isnot_none_gen (cf I q ?_);cases x<;>first
  | (cases rx;rfl)
  | (obtain⟨t,rfl⟩:=rx;rfl)
theorem jt.or {f:Yj->Yj->Sem Yj}{r r':R2}(h:jt X f r)(h':jt X f r'):jt X f (λx y H Q=>r x y H Q\/r' x y H Q):=by
 intro pins s σ H x y v u Q I rx ry q;rcases q with q|q
 ·exact h pins s σ H x y v u Q I rx ry q
 ·exact h' pins s σ H x y v u Q I rx ry q
theorem aJ (b:aaE)(h:op≠.In:=by decide)(h2:op≠.NotIn:=by decide):abl op b=false:=by
 have e1:(op==CmpOp.In)=false:=by cases op<;>first|rfl|exact absurd rfl h
 have e2:(op==CmpOp.NotIn)=false:=by cases op<;>first|rfl|exact absurd rfl h2
 cases b<;>simp[abl,e1,e2]
def Kt {r:R2}(ho:jt X (Zn op) r)(ha:PE X a ta)(hb:PE X b tb)(hm:abl op b=false):PE X (.Compare a [op] [b] pos) (QL r ta tb):=by
 intro pins s σ H Q I h;exact wpAny_Compare1 (Od ha hb I h λv u s2 x y H2 I2 rx ry q=>ho pins s2 σ H2 x y v u Q I2 rx ry q) hm
def Mb (t:TE):TT:=λσ H Q=>t σ H λx H'=>∃k,x=.bl k/\Q k H'
theorem Ku {r:R2}(ho:jt X (Zn op) r)(ha:PE X a ta)(hb:PE X b tb)(hm:abl op b=false):PT X (.Compare a [op] [b] pos) (Mb (QL r ta tb)):=by
 intro pins s σ H Q I h;refine wpAny_isTrue_Compare1 (eT (ha pins s σ H _ I h) λv s1 ⟨x,H1,I1,r1,q1⟩=>eT (hb pins s1 σ H1 _ I1 q1) λu s2 ⟨y,H2,I2,r2,q2⟩=>
  eT (ho pins s2 σ H2 x y v u _ I2 r1 r2 q2) λc s3 ⟨z,H3,I3,r3,k,e,q3⟩=>?_) hm
 subst e;cases r3;exact ZI ⟨H3,I3,q3⟩
def BQ (r r':R2)(ta tb tc:TE):TE:=λσ H Q=>ta σ H λx H1=>tb σ H1 λy H2=>r x y H2 λz H3=>∃k,z=.bl k/\
 (if k=true then tc σ H3 λw' H4=>r' y w' H4 Q else Q (.bl false) H3)
theorem GK {r r':R2}(ho:jt X (Zn op) r)(C7:jt X (Zn op') r')(ha:PE X a ta)(hb:PE X b tb)(hc:PE X c tc)(hm:lastMarks [op,op'] [b,c]=false:=by with_unfolding_all rfl):PE X (.Compare a [op,op'] [b,c] pos) (BQ r r' ta tb tc):=by
 intro pins s σ H Q I h;refine Compare_chain (eT (ha pins s σ H _ I h) λv s1 ⟨x,H1,I1,r1,q1⟩=>chain_link (eT (hb pins s1 σ H1 _ I1 q1) λu s2 ⟨y,H2,I2,r2,q2⟩=>
  eT (ho pins s2 σ H2 x y v u _ I2 r1 r2 q2) λd s3 ⟨z,H3,I3,r3,k,e,q3⟩=>?_)) hm
 subst e;cases r3;refine ZI ?_;cases k with
 |false=>exact ite_ff ⟨.bl false,H3,I3,rfl,q3⟩
 |true=>exact ite_tt (chain_last (eT (hc pins s3 σ H3 _ I3 q3) λw' s4 ⟨z',H4,I4,r4,q4⟩=>C7 pins s4 σ H4 y z' u w' Q I4 r2 r4 q4))
theorem GL {r r':R2}(ho:jt X (Zn op) r)(C7:jt X (Zn op') r')(ha:PE X a ta)(hb:PE X b tb)(hc:PE X c tc)(hm:lastMarks [op,op'] [b,c]=false:=by with_unfolding_all rfl):PT X (.Compare a [op,op'] [b,c] pos) (Mb (BQ r r' ta tb tc)):=by
 intro pins s σ H Q I h;refine isTrue_chain (eT (ha pins s σ H _ I h) λv s1 ⟨x,H1,I1,r1,q1⟩=>test_link (eT (hb pins s1 σ H1 _ I1 q1) λu s2 ⟨y,H2,I2,r2,q2⟩=>
  eT (ho pins s2 σ H2 x y v u _ I2 r1 r2 q2) λd s3 ⟨z,H3,I3,r3,k,e,q3⟩=>?_)) hm
 subst e;cases r3;refine ZI ?_;cases k with
 |false=>
  obtain⟨k',e',q'⟩:=q3;cases e';exact ite_ff ⟨H3,I3,q'⟩
 |true=>
  refine ite_tt (test_last (eT (hc pins s3 σ H3 _ I3 q3) λw' s4 ⟨z',H4,I4,r4,q4⟩=>eT (C7 pins s4 σ H4 y z' u w' _ I4 r2 r4 q4) λd' s5 ⟨z2,H5,I5,r5,k2,e2,q5⟩=>?_));subst e2;cases r5;exact ZI ⟨H5,I5,q5⟩
def TU (K:Ye)(x:V)(H:Hp)(k:Bool):Prop:=
 match x with
 | .non=>k=false
 | .bl b=>k=b
 | .int i=>k=(i != 0)
 | .str y=>y.length<=Yf/\k=((y.length:Int) != 0)
 | .byt y=>y.size<=Yf/\k=((y.size:Int) != 0)
 | .ref p=>(∃xs,fX K H p xs/\k = !xs.isEmpty)\/(∃xs,gE K H p xs/\k = !xs.isEmpty)\/∃kl,H p=some (.dK kl)/\k = !kl.isEmpty
 |_=>False
theorem BR {κ:Type}{kl:List (κ×V)}{vs:List (κ×Yj)}(r:KV kl vs):(!vs.isEmpty) = !kl.isEmpty:=by
 cases r<;>rfl
theorem ud (r:bC xs its):(!its.toArray.isEmpty) = !xs.isEmpty:=by
 cases r<;>simp
def qA:(Yf:Nat)<2 ^ 63:=by rw[aau];decide
theorem TV:TR X (λx H Q=>∃k,TU X.K x H k/\Q k H):=by
 intro pins s σ H x v Q I rx h;obtain⟨k,e,q⟩:=h;have hl:=qA;have hs:Yf=16777216:=aau;cases x with
 |non=>
  cases rx;have e':k=false:=e;subst e';exact truthy_none ⟨H,I,q⟩
 |bl b=>
  cases rx;have e':k=b:=e;subst e';exact ZI ⟨H,I,q⟩
 |int i=>
  obtain⟨t,rfl⟩:=rx;have e':k=(i != 0):=e;subst e';exact PySem.P.truthy_int ⟨H,I,q⟩
 |str y=>
  obtain⟨t,rfl⟩:=rx;obtain⟨hy,e'⟩:y.length<=Yf/\k=((y.length:Int) != 0):=e;subst e';exact PySem.P.truthy_str (by lia) ⟨H,I.tok _,q⟩
 |byt y=>
  obtain⟨t,rfl⟩:=rx;obtain⟨hy,e'⟩:y.size<=Yf/\k=((y.size:Int) != 0):=e;subst e';exact PySem.W.truthy_bytes (by lia) ⟨H,I.tok _,q⟩
 |ref p=>
  cases rx;have e':(∃xs,fX X.K H p xs/\k = !xs.isEmpty)\/(∃xs,gE X.K H p xs/\k = !xs.isEmpty)\/∃kl,H p=some (.dK kl)/\k = !kl.isEmpty:=e;rcases e' with⟨xs,hx,e'⟩|⟨xs,hx,e'⟩|⟨kl,hx,e'⟩
  ·subst e';obtain⟨its,r,pl,hz⟩:=I.list hx;have cW:=r.length;exact wpAny_truthy_list pl.isList (by simp only[Yh];lia) ⟨H,I.tok _,by rw[ud r];exact q⟩
  ·subst e';obtain⟨its,r,pl,hz⟩:=I.tuple hx;have cW:=r.length;exact truthy_tuple pl (by simp only[Yh];lia) ⟨H,I.tok _,by rw[ud r];exact q⟩
  ·subst e';obtain⟨hz,hS,vs,r,m⟩:kl.length<=Yf/\(p==sysModules)=false/\∃vs,KV kl vs/\s.heap.DictOf (xP X.prog X.w) p vs:=I.hok p _ hx;have cW:kl.length=vs.length:=Paired.length r;exact wpAny_truthy_dict hS m (by lia) ⟨H,I.tok _,by rw[BR r];exact q⟩
 |_=>exact (show False from e).elim
theorem iW {x:V}{us:List Yj}(r:bC [x] us):∃u,us=[u]/\cK x u:=by
 cases r with
 |cons r1 r2=>cases r2;exact⟨_,rfl,r1⟩
theorem GN {x y:V}{us:List Yj}(r:bC [x,y] us):∃u w',us=[u,w']/\cK x u/\cK y w':=by
 cases r with
 |cons r1 r2=>
  cases r2 with
  |cons r3 r4=>cases r4;exact⟨_,_,rfl,r1,r3⟩
theorem Ff (hc:X.calm=true):eZ X (.builtin "max") (λxs H Q=>∃i j,xs=[.int i,.int j]/\Q (.int (if j>i then j else i)) H):=by
 intro pins s σ H xs us Q I r h;obtain⟨i,j,rfl,q⟩:=h;obtain⟨u,w',rfl,⟨t,rfl⟩,⟨t',rfl⟩⟩:=GN r;refine max_two_ints (I.ok.hd hc) λh' tk k=>⟨_,H,I.kept k,?_,q⟩;by_cases hj:j>i
 ·rw[hV hj,hV hj];exact⟨_,rfl⟩
 ·rw[hU hj,hU hj];exact⟨_,rfl⟩
theorem wO (hc:X.calm=true):eZ X (.builtin "min") (λxs H Q=>∃i j,xs=[.int i,.int j]/\Q (.int (if j<i then j else i)) H):=by
 intro pins s σ H xs us Q I r h;obtain⟨i,j,rfl,q⟩:=h;obtain⟨u,w',rfl,⟨t,rfl⟩,⟨t',rfl⟩⟩:=GN r;refine min_two_ints (I.ok.hd hc) λh' tk k=>⟨_,H,I.kept k,?_,q⟩;by_cases hj:j<i
 ·rw[hV hj,hV hj];exact⟨_,rfl⟩
 ·rw[hU hj,hU hj];exact⟨_,rfl⟩
theorem Fg:eZ X (.type "int") (λxs H Q=>(∃i,xs=[.int i]/\Q (.int i) H)\/∃k,xs=[.bl k]/\Q (.int (if k then 1 else 0)) H):=by
 intro pins s σ H xs us Q I r h;rcases h with⟨i,rfl,q⟩|⟨k,rfl,q⟩
 ·obtain⟨u,rfl,t,rfl⟩:=iW r;exact call_int_int ⟨.int i,H,I,⟨_,rfl⟩,q⟩
 ·obtain⟨u,rfl,r1⟩:=iW r;cases r1;exact call_int_bool ⟨.int (if k then 1 else 0),H,I.tok _,⟨_,rfl⟩,q⟩
def QR (K:Ye)(x:V)(H:Hp)(n:Nat):Prop:=
 match x with
 | .str y=>y.length<=Yf/\n=y.length
 | .byt y=>y.size<=Yf/\n=y.size
 | .ref p=>(∃xs,fX K H p xs/\n=xs.length)\/∃xs,gE K H p xs/\n=xs.length
 |_=>False
theorem aT:eZ X (.builtin "len") (λxs H Q=>∃x n,xs=[x]/\QR X.K x H n/\Q (.int n) H):=by
 intro pins s σ H xs us Q I r h;obtain⟨x,n,rfl,e,q⟩:=h;obtain⟨u,rfl,rx⟩:=iW r;have hl:=qA;have hs:Yf=16777216:=aau;cases x with
 |str y=>
  obtain⟨t,rfl⟩:=rx;obtain⟨hy,e'⟩:y.length<=Yf/\n=y.length:=e;subst e';exact len_str (by lia) ⟨.int _,H,I.tok _,⟨_,rfl⟩,q⟩
 |byt y=>
  obtain⟨t,rfl⟩:=rx;obtain⟨hy,e'⟩:y.size<=Yf/\n=y.size:=e;subst e';exact PySem.W.len_bytes (by lia) ⟨.int _,H,I.tok _,⟨_,rfl⟩,q⟩
 |ref p=>
  cases rx;have e':(∃xs,fX X.K H p xs/\n=xs.length)\/∃xs,gE X.K H p xs/\n=xs.length:=e;rcases e' with⟨xs,hx,e'⟩|⟨xs,hx,e'⟩
  ·subst e';obtain⟨its,r',pl,hz⟩:=I.list hx;have cW:=r'.length;exact Calls.call_len_list pl.isList (by simp only[Yh];lia) ⟨.int xs.length,H,I.tok _,⟨_,by simp only[Yh];rw[cW]⟩,q⟩
  ·subst e';obtain⟨its,r',pl,hz⟩:=I.tuple hx;have cW:=r'.length;exact len_tuple pl (by simp only[Yh];lia) ⟨.int xs.length,H,I.tok _,⟨_,by simp only[Yh];rw[cW]⟩,q⟩
 |_=>exact (show False from e).elim
end
end L2
variable {r r':L2.R2}
namespace L2
structure Og (h:aaX)(x dx C:YG)(mA:Str->Option Yj):Prop where
 obj:h.get? x=some (PySem.W.instObj C dx)
 ns:h.Ns1 dx mA
 ne:dx≠x
theorem Fh {dx:YG}{mA:Str->Option Yj}(n:h.Ns1 dx mA):∃od,h.get? dx=some od/\∀name,PySem.W.lookIn name od=some (mA name):=by
 obtain⟨o,es,ep,ho,hd,hk,_,hm⟩:=n;refine⟨o,ho,λname=>?_⟩;have e:=hm name;unfold nsFind findBy at e;rw[←Array.find?_toList] at e;unfold PySem.W.lookIn;rw[hd];dsimp only;split
 ·rename_i y q;rw[q] at e;exact congrArg some e
 ·rename_i q;rw[q] at e;have a:es.toList.any (·.refKey)=false:=by
   rw[List.any_eq_false];intro y hy;obtain⟨z,t,L8⟩:=hk y (Array.mem_toList_iff.mp hy);simp[DictEntry.refKey,L8]
  have a':¬es.toList.any (·.refKey)=true:=by rw[a];exact Yd
  rw[hU a'];exact congrArg some e
def Og.look {x dx C:YG}{mA:Str->Option Yj}(I:Og h x dx C mA):∃od,PySem.W.InstAt h x (PySem.W.instObj C dx) C (some od)/\∀name,PySem.W.lookIn name od=some (mA name):=
 let ⟨od,ho,hl⟩:=Fh I.ns
 ⟨od,⟨I.obj,rfl,rfl,ho⟩,hl⟩
section
variable {C dx:YG}{fs fs':List (Str×V)}
theorem Kv (hok:qw P w H h)(e:H a=some (.ins C dx fs)):∃mA,Og h a dx C mA/\(∀f,NT (fs.lookup f) (mA f))/\PySem.Within mA (fs.map (·.1))/\fs.length<=1000/\H dx=some (.own a):=by
 obtain⟨d,z,ne,ob,mA,n,r,q⟩:=(show eJ P w H h a (.ins C dx fs) from hok a _ e);exact⟨mA,⟨ob,n,ne⟩,r,q,z,d⟩
end
structure TX (K:Ye)(C:YG):Prop where
 pg:PySem.W.plainGet K C Str.empty=true
 hd:PySem.W.hasDictIn K C=true
 po:PySem.W.plainOver K C=true
 sa:acf K (.ref C) "__setattr__"=some (some (.builtin "object.__setattr__"))
def TX.get {C:YG}(c:TX K C)(f:Str):PySem.W.plainGet K C f=true:=c.pg
structure XN (K:Ye)(C:YG)(f:Str)(v:V)(u:Yj):Prop where
 at_:acf K (.ref C) f=some (some u)
 rel:cK v u
 get:PySem.W.specialIn K u "__get__"=some none
 cp:PySem.W.copiedNames.contains f=false
structure Wf (K:Ye)(C:YG)(m:Str)(f:YG):Prop where
 at_:acf K (.ref C) m=some (some (.ref f))
 fn:PySem.W.isFn K (.ref f)=true
 kp:aa7 K (.ref f)=true
section
variable {A:Zk}{c:Yj}{b:Bool}
inductive qB (K:Ye)(H:Hp):V->Yj->Prop where
 |non:qB K H .non (.type "NoneType")
 |bl (x:Bool):qB K H (.bl x) (.type "bool")
 |int (i:Int):qB K H (.int i) (.type "int")
 |str (x:Str):qB K H (.str x) (.type "str")
 |flt (x:UInt64):qB K H (.flt x) (.type "float")
 |lst {a:YG} {xs:List V} (e:H a=some (.lst xs)):qB K H (.ref a) (.type "list")
 |frz {a:YG} {o:Obj} {xs:List V} (e:H a=some (.frz o (.lst xs))):qB K H (.ref a) (.type "list")
 |tup {a:YG} {xs:List V} (e:H a=some (.tup xs)):qB K H (.ref a) (.type "tuple")
 |dK {a:YG} {kl:List (vN×V)} (e:H a=some (.dK kl)):qB K H (.ref a) (.type "dict")
 |dT {a:YG} {kl:List (List vN×V)} (e:H a=some (.dT kl)):qB K H (.ref a) (.type "dict")
 |ins {a C dx:YG} {fs:List (Str×V)} (e:H a=some (.ins C dx fs)) (cl:TX K C) (ha:acf K (.ref C) "__class__"=some (some (.builtin "object.__class__")))
   (hn:PySem.W.specialIn K (.builtin "object.__class__") "__get__"=some (some (.builtin "getset_descriptor.__get__"))) (htk:PySem.W.takesIn K (.builtin "object.__class__")=some true)
   (hm:PySem.W.mroIn K C (.type "object")=some true):qB K H (.ref a) (.ref C)
theorem Fi {x:V}{u t:Yj}(I:a_ X pins σ H s)(rx:cK x u)(ty:qB X.K H x t)(e:PySem.W.kitOne X.K t c=some b)(h:∀tk,Q (.bool b) {s with toks:=tk}) :
  YE (YQ X.prog X.w) A (call (.builtin "isinstance") [u,c]) Q E s:=by
 cases ty with
 |non=>cases (show u=Value.none from rx);exact Z0 PySem.W.kitx_none I.kIn True.intro e (λz=>nomatch z) h
 |bl y=>cases (show u=Value.bool y from rx);exact Z0 PySem.W.kitx_bool I.kIn True.intro e (λz=>nomatch z) h
 |int i=>obtain⟨t,q⟩:=(show ∃t,u=Value.int i t from rx);cases q;exact Z0 PySem.W.kitx_int I.kIn True.intro e (λz=>nomatch z) h
 |str y=>obtain⟨t,q⟩:=(show ∃t,u=Value.str y t from rx);cases q;exact Z0 PySem.W.kitx_str I.kIn True.intro e (λz=>nomatch z) h
 |flt y=>obtain⟨t,q⟩:=(show ∃t,u=Value.float y t from rx);cases q;exact Z0 PySem.W.kitx_float I.kIn True.intro e (λz=>nomatch z) h
 | @lst a xs ea=>
  cases (show u=Value.ref a from rx);obtain⟨_,_,n,_,h1⟩:=(show eJ X.prog X.w H s.heap a (.lst xs) from I.hok a _ ea);exact Z0 PySem.W.kitx_list I.kIn ⟨_,h1,rfl⟩ e (λz=>nomatch z) h
 | @frz a ob xs ea=>
  cases (show u=Value.ref a from rx);obtain⟨_,_,_,n,_,h1⟩:=(show eJ X.prog X.w H s.heap a (.frz ob (.lst xs)) from I.hok a _ ea);exact Z0 PySem.W.kitx_list I.kIn ⟨_,h1,rfl⟩ e (λz=>nomatch z) h
 | @tup a xs ea=>
  cases (show u=Value.ref a from rx);obtain⟨_,_,_,p,_⟩:=(show eJ X.prog X.w H s.heap a (.tup xs) from I.hok a _ ea);obtain⟨o,h1,h2,_⟩:=p;exact Z0 PySem.W.kitx_tuple I.kIn ⟨o,h1,h2⟩ e (λz=>nomatch z) h
 | @dK a kl ea=>
  cases (show u=Value.ref a from rx);obtain⟨_,_,vs,_,p⟩:=(show eJ X.prog X.w H s.heap a (.dK kl) from I.hok a _ ea);obtain⟨o,es,ep,h1,h2,_⟩:=p;exact Z0 PySem.W.kitx_dict I.kIn ⟨o,h1,h2.1⟩ e (λz=>nomatch z) h
 | @dT a kl ea=>
  cases (show u=Value.ref a from rx);obtain⟨_,_,xs,_,o,es,ep,h1,h2,_⟩:=(show eJ X.prog X.w H s.heap a (.dT kl) from I.hok a _ ea);exact Z0 PySem.W.kitx_dict I.kIn ⟨o,h1,h2.1⟩ e (λz=>nomatch z) h
 | @ins a C dx fs ea cl ha hn htk hm=>
  cases (show u=Value.ref a from rx);obtain⟨mA,O,_⟩:=Kv I.hok ea;obtain⟨od,J,_⟩:=O.look;exact Z0 (PySem.W.kitx_own (cl.get _) cl.hd ha hn htk hm) I.kIn J e (λz=>nomatch z) h
end
end L2
namespace L2
structure gF (k:Nat)(A:Zk):Prop where
 hd:A.handled=none
 dp:A.depth+3*k+5<recursionLimit
 un:A.units+16*k+200<abg
theorem gF.mono {A:Zk}(r:gF k A)(h:j<=k):gF j A:=⟨r.hd,by have:=r.dp;lia,by have:=r.un;lia⟩
theorem gF.deeper {A:Zk}(r:gF (k+1) A)(env:Env):gF k (A.deeper env):=
 ⟨r.hd,by have:=r.dp;show A.depth+1+3*k+5<_;lia,by have:=r.un;show A.units+3+16*k+200<_;lia⟩
theorem gF.depth {A:Zk}(r:gF k A):A.depth<recursionLimit:=by have:=r.dp;lia
theorem gF.units {A:Zk}(r:gF k A):A.units+64<abg:=by have:=r.un;lia
def TY:TA:=λ_ H Q=>Q [] H
def QS (ta:TE)(tr:TA):TA:=λσ H Q=>ta σ H λx H1=>tr σ H1 λxs H2=>Q (x::xs) H2
section
variable {e:aaE}{es:List aaE}{t:TA}
def qC:PA X [] TY:=λ_ _ _ _ H Q I h=>Calls.spliced_nil ⟨[],H,I,.nil,h⟩
def kv (ha:PE X e te)(hr:PA X es t)(hs:YC (e::es) X.env=(false,abN e X.env)::YC es X.env:=by rfl):PA X (e::es) (QS te t):=by
 intro pos pins s σ H Q I h;rw[hs];show YE _ _ (spliced ((false,abN e X.env)::abe pos (YC es X.env))) _ _ s;refine Calls.spliced_cons (eT (ha pins s σ H _ I h) λu s1 ⟨x,H1,I1,r1,q1⟩=>?_);exact eT (hr pos pins s1 σ H1 _ I1 q1) λus s2 ⟨xs,H2,I2,r2,q2⟩=>⟨x::xs,H2,I2,.cons r1 r2,q2⟩
def TZ (t:TA):TE:=λσ H Q=>t σ H λxs H1=>xs.length<=Yf/\∀p,H1 p=none->Q (.ref p) (eY H1 p (.tup xs))
def T2 (t:TA):TE:=λσ H Q=>t σ H λxs H1=>xs.length<=Yf/\∀p,H1 p=none->Q (.ref p) (eY H1 p (.lst xs))
def Oh {x1}(h:PA X es t):PE X (.Tuple es x1 pos) (TZ t):=by
 intro pins s σ H Q I hq;refine wpAny_Tuple_spliced (eT (h pos pins s σ H _ I hq) λus s1 ⟨xs,H1,I1,r,z,q⟩=>⟨by rw[←r.length];exact z,?_⟩);have hf:H1 s1.heap.objs.size=none:=I1.hok.fresh (Yl _);refine⟨.ref s1.heap.objs.size,eY H1 s1.heap.objs.size (.tup xs),I1.laid (t':=s1.toks) (λb u e=>X9 _ e) (Yl _) ?_,rfl,q _ hf⟩;exact⟨z,us,r,⟨_,Ym _ rfl,rfl,_,rfl⟩,_,Ym _ rfl⟩
def Oi (h:PA X es t):PE X (.List es pos) (T2 t):=by
 intro pins s σ H Q I hq;refine wpAny_List_spliced (eT (h pos pins s σ H _ I hq) λus s1 ⟨xs,H1,I1,r,z,q⟩=>⟨by rw[←r.length];exact z,?_⟩);have hf:H1 s1.heap.objs.size=none:=I1.hok.fresh (Yl _);refine⟨.ref s1.heap.objs.size,eY H1 s1.heap.objs.size (.lst xs),I1.laid (t':=s1.toks) (λb u e=>X9 _ e) (Yl _) ?_,rfl,q _ hf⟩;exact⟨z,us,0,r,Ym _ rfl⟩
end
abbrev Sp:=List V->Hp->VK->XK->Prop
abbrev CXT:=List Env->Hp->Yv->XK->Yj->Yv->Prop
structure Kw (P:aa9)(w:abc)(K:Ye)(mg:Str->Option Yj)(base:aaX)(A:Zk)(outer:List Env)(s:Yv)(H:Hp):Prop where
 frames:A.frames=some outer
 mod:Mod K mg base
 bs:∀b o,base.get? b=some o->s.heap.get? b=some o/\H b=none
 bsz:base.objs.size<=s.heap.objs.size
 funs:s.heap.FunFrames base outer
 frf:∀b∈Dk outer,H b=none
 hok:qw P w H s.heap
 bare:AllBare s.gens
def CE (outer:List Env)(P:aa9)(w:abc)(H:Hp)(s:Yv)(Q:VK)(u:Yj)(s':Yv):Prop:=
 ∃v H',s'.os=s.os/\AllBare s'.gens/\Un (Dk outer) [] H H' s.heap s'.heap/\qw P w H' s'.heap/\cK v u/\Q v H'
def CR (CX:CXT)(outer:List Env)(P:aa9)(w:abc)(H:Hp)(s:Yv)(Q:VK)(E:XK)(r:Result)(s':Yv):Prop:=
 match r with
 | .ok (.ret u)=>CE outer P w H s Q u s'
 | .ok _=>False
 | .error e=>CX outer H s E e s'
structure nQ (P:aa9)(w:abc)(K:Ye)(mg:Str->Option Yj)(base:aaX)(CX:CXT)(k:Nat)(f:YG)(fd:acu)(ps:List Str)(sp:Sp):Prop where
 len:∀vs H Q E,sp vs H Q E->vs.length=ps.length
 run:∀(A:Zk) (outer:List Env) (s:Yv) (H:Hp) (args:Args) (us:List Yj) (vs:List V) (Q:VK) (E:XK),gF k A->Kw P w K mg base A outer s H->BindsTo s fd args (ps.zip us)->bC vs us->sp vs H Q E->
  codeAny (YQ P w) A (.call (.ref f) args) (CR CX outer P w H s Q E) s
theorem nQ.imp {base:aaX}{CX:CXT}{sp VL:Sp}(F:nQ P w K mg base CX k f fd ps sp)(h:∀vs H Q E,VL vs H Q E->sp vs H Q E):nQ P w K mg base CX k f fd ps VL:=
 ⟨λvs H Q E q=>F.len vs H Q E (h _ _ _ _ q),λA outer s H args us vs Q E hr he hb hv hs=>F.run A outer s H args us vs Q E hr he hb hv (h _ _ _ _ hs)⟩
section
variable {s':Yv}
def a_.env0 (I:a_ X pins σ H s):Kw X.prog X.w X.K X.mg X.base X.A X.stack s H:=
 ⟨I.ok.frames,I.ok.mod,I.bs,Zj I.ok.bsz I.sz,I.stack,I.stkFree,I.hok,I.bare⟩
theorem a_.after {Q:VK}{u:Yj}(I:a_ X pins σ H s)(h:CE X.stack X.prog X.w H s Q u s'):EP X pins σ Q u s':=by
 obtain⟨v,H',os,bare,un,hok,r,q⟩:=h;obtain⟨hh,g,d,t,os'⟩:=s';obtain rfl:os'=s.os:=os;exact⟨v,H',I.call (h':=hh) (g':=g) (d':=d) (t':=t) (ch:=[]) un hok bare (λb z=>absurd z (by simp)),r,q⟩
end
def Mc (sp:Sp)(NB:List V)(E:XK)(t:TA):TE:=λσ H Q=>t σ H λvs H1=>sp (vs++NB) H1 Q E
def wQ (K:Ye)(fd:acu)(ps:List Str)(ds:List Yj):Prop:=
 ∀(s:Yv) (us:List Yj),K.In s.heap->(us++ds).length=ps.length->BindsTo s fd ⟨us,[]⟩ (ps.zip (us++ds))
def wQ.all (h:∀us:List Yj,us.length=ps.length->bindArgs fd ⟨us,[]⟩=pure (ps.zip us)):wQ K fd ps []:=λs us _ hl=>by
 rw[YV] at hl ⊢;exact .of_eq (h us hl)
def BS (CX:CXT)(X:Cx)(E:XK):Prop:=∀(pins:List (YG×Obj)) (σ:St) (H:Hp) (s:Yv) (e:Yj) (s':Yv),a_ X pins σ H s->CX X.stack H s E e s'->X.xe e s'
section
variable {CX:CXT}{C:YG}{sp:Sp}{NB:List V}{ds:List Yj}{E:XK}{m:Str}{p Bz:Pos}{e o:aaE}{es:List aaE}{ta:TE}{t:TA}
theorem Oj {Q:VK}{us:List Yj}(F:nQ X.prog X.w X.K X.mg X.base CX k f fd ps sp)(hr:gF k X.A)(hb:wQ X.K fd ps ds)(hd:bC NB ds)(hx:BS CX X E)(I:a_ X pins σ H s)(r:bC vs us)(h:sp (vs++NB) H Q E):YE (YQ X.prog X.w) X.A (call (.ref f) us) (EP X pins σ Q) X.xe s:=by
 have r2:bC (vs++NB) (us++ds):=r.append hd;have hl:(us++ds).length=ps.length:=by rw[←r2.length];exact F.len _ _ _ _ h
 refine wpAny_call (acj (F.run X.A X.stack s H ⟨us,[]⟩ (us++ds) (vs++NB) Q E hr I.env0 (hb s us I.kIn hl) r2 h) λr s' hq=>?_);cases r with
 |error e=>exact hx pins σ H s e s' I hq
 |ok fl=>
  cases fl with
  |ret u=>exact I.after hq
  |next=>exact abm hq
  |brk=>exact abm hq
  |cont=>exact abm hq
def Kx (F:nQ X.prog X.w X.K X.mg X.base CX k f fd ps sp)(hr:gF k X.A)(hg:Gl X x)(hm:X.mg x=some (.ref f))(hk:aa7 X.K (.ref f)=true)(hb:wQ X.K fd ps ds)(hd:bC NB ds)(hx:BS CX X E)
  (ha:PA X (e::es) t) (C8:(x==("__debug__":Str))=false:=by decide) (he:YC (e::es) X.env=(false,abN e X.env)::YC es X.env:=by rfl) (pj:(abe pos (YC es X.env)).any (·.1)=false:=by rfl) :
  PE X (.Call (.Name x p) (e::es) [] pos) (Mc sp NB E t):=by
 intro pins s σ H Q I h;refine acU (Dl I hg hm ?_ C8);refine PySem.W.callWith_K (h₀:=X.base) I.ok.mod.kin hk (eT (ha pos pins s σ H _ I h) λus s1 ⟨vs,H1,I1,r,q⟩=>⟨I1.kIn,?_⟩) he pj;exact Oj F hr hb hd hx I1 r q
structure Mk (K:Ye)(C f:YG):Prop where
 makes:PySem.W.makesIn K C=true
 init:acf K (.ref C) "__init__"=some (some (.ref f))
 fn:PySem.W.isFn K (.ref f)=true
 kp:aa7 K (.ref C)=true
end
section
variable {CX:CXT}{C:YG}{ks:List Str}{sp:Sp}{E:XK}{m:Str}{p Bz kpos:Pos}{e o:aaE}{es:List aaE}{kws:List Keyword}{ta:TE}{t tk:TA}{nm:Option Str}
structure T3 (K:Ye)(fd:acu)(ps ks:List Str)(g:List Yj->List Yj->List Yj)(gV:List V->List V->List V):Prop where
 to:∀(s:Yv) (us ws:List Yj),K.In s.heap->(g us ws).length=ps.length->BindsTo s fd ⟨us,ks.zip ws⟩ (ps.zip (g us ws))
 rel:∀{vs:List V} {us:List Yj} {zs:List V} {ws:List Yj},bC vs us->bC zs ws->bC (gV vs zs) (g us ws)
variable {g:List Yj->List Yj->List Yj}{gV:List V->List V->List V}
end
structure a9 (N P:List Str)(sc:ada):Prop where
 kind:sc.kind=.function
 co:sc.isCoroutine=false
 gen:sc.isGenerator=false
 nd:N.Nodup
 pre:N.take P.length=P
 par:∀x∈P,sc.names.lookup x=some .local\/sc.names.lookup x=some .cell
 nofree:∀y∈sc.names,y.2≠.free
theorem wR {ZM:Str->Option adn}{x:Str}:∀{binds:List (Str×Yj)} {m:Str->Option Yj},(∀v,(x,v)∉binds)->bindL ZM binds m x=m x
 | [],_,_=>rfl
 | (n,v)::r,m,h=>by
  unfold bindL;rw[wR λw hw=>h w (Ya _ hw)];split
  ·have:x≠n:=by rintro rfl;exact h v Yb
   simp[this]
  ·rfl
theorem wU {ZM:Str->Option adn}{x:Str}:∀{binds:List (Str×Yj)} {m:Str->Option Yj},(∀v,(x,v)∉binds)->bindC ZM binds m x=m x
 | [],_,_=>rfl
 | (n,v)::r,m,h=>by
  unfold bindC;rw[wU λw hw=>h w (Ya _ hw)];split
  ·rfl
  ·have:x≠n:=by rintro rfl;exact h v Yb
   simp[this]
theorem wV {ZM:Str->Option adn}{x:Str}{v:Yj}:∀{P:List Str} {vs:List Yj} {i:Nat} {m:Str->Option Yj},P.Nodup->P[i]? = some x->vs[i]? = some v->ZM x=some .local->
  bindL ZM (P.zip vs) m x=some v
 | [],_,_,_,_,h,_,_=>by simp at h
 |_::_,[],_,_,_,_,h,_=>by simp at h
 |p::P,w::vs,0,m,nd,h1,h2,hk=>by
  simp at h1 h2;subst h1;subst h2;show bindL ZM ((p,w)::P.zip vs) m p=_;unfold bindL;rw[wR λv hv=>(aaq.mp nd).1 (acD hv).1,hV hk];simp
 |p::P,w::vs,i+1,m,nd,h1,h2,hk=>by
  show bindL ZM ((p,w)::P.zip vs) m x=_;unfold bindL;exact wV (i:=i) (aaq.mp nd).2 (by simpa using h1) (by simpa using h2) hk
theorem wW {ZM:Str->Option adn}{x:Str}{v:Yj}:∀{P:List Str} {vs:List Yj} {i:Nat} {m:Str->Option Yj},P.Nodup->P[i]? = some x->vs[i]? = some v->ZM x≠some .local->
  bindC ZM (P.zip vs) m x=some v
 | [],_,_,_,_,h,_,_=>by simp at h
 |_::_,[],_,_,_,_,h,_=>by simp at h
 |p::P,w::vs,0,m,nd,h1,h2,hk=>by
  simp at h1 h2;subst h1;subst h2;show bindC ZM ((p,w)::P.zip vs) m p=_;unfold bindC;rw[wU λv hv=>(aaq.mp nd).1 (acD hv).1,hU hk];simp
 |p::P,w::vs,i+1,m,nd,h1,h2,hk=>by
  show bindC ZM ((p,w)::P.zip vs) m x=_;unfold bindC;exact wW (i:=i) (aaq.mp nd).2 (by simpa using h1) (by simpa using h2) hk
noncomputable def abO (N:List Str)(vs:List V):St:=vs.map some++YZ (N.length-vs.length) none
noncomputable def sT (CX:CXT)(P:aa9)(w:abc)(K:Ye)(mg:Str->Option Yj)(base:aaX)(N:List Str)(qual:Str)(scope:ada)(f:YG)(cd:Yj)(A:Zk)(outer:List Env)(s:Yv)(H:Hp)(E:XK):Cx where
 prog:=P
 w:=w
 K:=K
 mg:=mg
 base:=base
 A:=A.deeper (acV qual scope s.heap.objs.size f cd)
 N:=N
 s₀:=s
 H₀:=H
 env:=acV qual scope s.heap.objs.size f cd
 outer:=outer
 stack:=acV qual scope s.heap.objs.size f cd::outer
 ex:=[]
 calm:=true
 fn:=λ_=>true
 pn:=[]
 xe:=λe s'=>YE (YQ P w) (A.deeper (acV qual scope s.heap.objs.size f cd)) (leaving (acV qual scope s.heap.objs.size f cd) e) (λ_ NC=>CX outer H s E e NC) (λe' NC=>CX outer H s E e' NC) s'
def zq {sc:ada}(h:sc.names.lookup x=some .cell):∃c,(cellsFrom n sc.names []).lookup x=some c:=by
 have q:=PySem.W.cellsFrom_some sc.names n [] (.inl h);exact Option.isSome_iff_exists.mp q
theorem Fj {CX:CXT}{base:aaX}{N:List Str}{cd:Yj}{A:Zk}{outer:List Env}{s1:Yv}{E:XK}{us:List Yj}(S:a9 N ps scope)(hd:A.handled=none)(e0:Kw P w K mg base A outer s H)(hl:vs.length=ps.length)(r:bC vs us)(x:InCallC s s.heap.objs.size (bindL (acV qual scope s.heap.objs.size f cd).kindOf (ps.zip us) λ_=>none) (cellsFrom (s.heap.objs.size+1) scope.names []) (bindC (acV qual scope s.heap.objs.size f cd).kindOf (ps.zip us) λ_=>none) s1) :
  a_ (sT CX P w K mg base N qual scope f cd A outer s H E) [] (abO N vs) H s1:=by
 have pj:ps.length<=N.length:=by have:=congrArg aai S.pre;rw[Yy] at this;lia
 obtain⟨h1,tk,rfl,hk⟩:=x.done;have Sk:∀b:YG,b∉(sT CX P w K mg base N qual scope f cd A outer s H E).ex:=λb z=>absurd (show b∈([]:List YG) from z) (by simp);refine⟨⟨e0.mod,S.kind,rfl,rfl,Yl _,λy z c h1 h2=>?_,λy hy=>?_,λy c _ h=>?_,λ_=>hd,Around.frames_deeper e0.frames,.inr ⟨rfl,rfl⟩,λb z=>absurd z (Sk b),e0.bs,e0.bsz,λb _ _=>Sk b,λb z=>absurd z (Sk b),e0.funs,e0.frf⟩,
  rfl,e0.bare,Un.kept hk,⟨_,x.toInCall.ns,λi y v h1 h2 h3=>?_⟩,λy c h=>⟨_,x.cell y c h⟩,e0.hok.fresh (Yl _),λy c h=>?_,λp hp=>absurd (show p∈([]:List (YG×Obj)) from hp) (by simp),e0.hok.kept hk,?_⟩
 ·exact name_of_addr x.apart (ZC h1) (ZC h2)
 ·have hy:scope.names.lookup y=some .cell\/scope.names.lookup y=some .free:=hy;rcases hy with hy|hy
  ·exact zq hy
  ·exact absurd rfl (S.nofree _ (ZC hy))
 ·exact Nat.le_of_lt (x.above y c (ZC h))
 ·have hi:i<vs.length:=by
   unfold abO at h2;by_cases hi:i<vs.length
   ·exact hi
   ·rw[Zs (by simpa using hi)] at h2;rw[List.getElem?_replicate] at h2;split at h2<;>cases h2
  have ha:vs[i]? = some v:=by
   unfold abO at h2;rw[ZJ (by simpa using hi),YL] at h2;cases e:vs[i]? with
   |none=>rw[e] at h2;cases h2
   |some a=>rw[e] at h2;cases h2;rfl
  obtain⟨u,hu,rv⟩:=r.get ha;have hp:ps[i]? = some y:=by
   rw[←S.pre,ade (by lia)];exact h1
  have VM:ps.Nodup:=by rw[←S.pre];exact S.nd.sublist (List.take_sublist _ _)
  refine⟨u,rv,?_⟩;rcases S.par y (Y6 hp) with k|k
  ·exact .inl ⟨k,wV VM hp hu k⟩
  ·obtain⟨c,e⟩:=zq (n:=s.heap.objs.size+1) k;refine .inr ⟨.inl k,c,e,?_⟩;have q:=x.cell y c e;rw[wW VM hp hu (by show scope.names.lookup y≠_;rw[k];decide)] at q;exact q
 ·exact e0.hok.fresh (Nat.le_of_lt (x.above y c (ZC h)))
 ·unfold abO;show _=N.length;rw[Yc,X8,ack];lia
theorem QT {CX:CXT}{base:aaX}{name:Str}{params:Arguments}{dV kV qv pm dH ct oc:Yj}{an od:Option YG}{ND:Array (Option Yj)}{N:List Str}{sp:Sp}(lk:K.lookup f=some ⟨oc,od,.func (aaf name qual params body scope dV kV qv pm an dH ct),ND⟩)(tw:ac3 K dH qual=true)(S:a9 N ps scope)(len:∀vs H Q E,sp vs H Q E->vs.length=ps.length)(j2:∀(A:Zk) (outer:List Env) (s:Yv) (H:Hp) (vs:List V) (Q:VK) (E:XK),gF k (A.deeper (acV qual scope s.heap.objs.size f dH))->sp vs H Q E->
   ∃t,wN (sT CX P w K mg base N qual scope f dH A outer s H E) body t/\t {nx:=λ_ H'=>Q .non H',rt:=Q} (abO N vs) H) :
  nQ P w K mg base CX (k+1) f (aaf name qual params body scope dV kV qv pm an dH ct) ps sp:=by
 refine⟨len,λA outer s H args us vs Q E hr e0 hb r NF=>?_⟩;have hl:=len _ _ _ _ NF;have KX:K.In s.heap:=e0.mod.kin.keeps λb o e=>(e0.bs b o e).1;have Wy:s.heap.NoLimit:=e0.mod.nolimit.keeps λb o e=>(e0.bs b o e).1;have Sl:∀y∈ps.zip us,scope.names.lookup y.1=some .local\/(scope.names.lookup y.1=some .cell/\((cellsFrom (s.heap.objs.size+1) scope.names []).lookup y.1).isSome=true):=fun⟨n,v⟩ hy=>by
  rcases S.par n (acD hy).1 with q|q
  ·exact .inl q
  ·exact .inr ⟨q,PySem.W.cellsFrom_some _ _ _ (.inl q)⟩
 refine codeAny_call_function hr.depth (KX _ _ lk) rfl S.co S.gen rfl (PySem.W.codeRec_of KX tw) (hb _ _ _ _ ?_);refine wpAny_newFunctionEnv_cells S.kind Sl λenv he s1 x=>?_;subst he;refine⟨Wy.keeps x.toInCall.keep,codeAny_func ?_⟩;obtain⟨t,ht,hq⟩:=j2 A outer s H vs Q E (hr.deeper _) NF;have I:a_ (sT CX P w K mg base N qual scope f dH A outer s H E) [] (abO N vs) H s1:=Fj S hr.hd e0 hl r x;refine ZR (ht [] s1 (abO N vs) H _ I hq) (λfl s' hs=>?_) λe s' hs=>hs;have fin:∀{σ':St} {H':Hp} {v:V} {u:Yj},a_ (sT CX P w K mg base N qual scope f dH A outer s H E) [] σ' H' s'->cK v u->Q v H'->CE outer P w H s Q u s' :=
  λ{σ' H' v u} J rv q=>⟨v,H',J.os,J.bare,J.base,J.hok,rv,q⟩
 cases fl with
 |ret u=>
  obtain⟨v,σ',H',J,rv,q⟩:=hs;exact fin J rv q
 |next=>
  obtain⟨σ',H',J,q⟩:=hs;exact fin (v:=V.non) (u:=Value.none) J rfl q
 |brk=>
  obtain⟨_,_,_,q⟩:=hs;exact abm q
 |cont=>
  obtain⟨_,_,_,q⟩:=hs;exact abm q
end L2
variable {CX:L2.CXT}{sp:L2.Sp}
namespace L2
section
variable {p:Pos}{e:aaE}{es:List aaE}{t:TA}{id T:String}{r:List V->Hp->VK->Prop}
def T4 (r:List V->Hp->VK->Prop)(t:TA):TE:=λσ H Q=>t σ H λvs H1=>r vs H1 Q
def pB (hc:eZ X (.builtin id) r)(hg:Gl X x)(hm:X.mg x=none)(hv:Zg x=some (.builtin id))(ha:PA X (e::es) t)(hn:x≠"__name__":=by decide)(C8:(x==("__debug__":Str))=false:=by decide)
  (he:YC (e::es) X.env=(false,abN e X.env)::YC es X.env:=by rfl) (pj:(abe pos (YC es X.env)).any (·.1)=false:=by rfl):PE X (.Call (.Name x p) (e::es) [] pos) (T4 r t):=by
 intro pins s σ H Q I h;refine acU (qx I hg hm hv ?_ hn C8);exact PyProof.Rows.callWith_builtin1 (eT (ha pos pins s σ H _ I h) λus s1 ⟨vs,H1,I1,r1,q1⟩=>hc pins s1 σ H1 vs us Q I1 r1 q1) he pj
def iD (hc:eZ X (.type T) r)(hg:Gl X x)(hm:X.mg x=none)(hv:Zg x=some (.type T))(ha:PA X (e::es) t)(hn:x≠"__name__":=by decide)(C8:(x==("__debug__":Str))=false:=by decide)
  (he:YC (e::es) X.env=(false,abN e X.env)::YC es X.env:=by rfl) (pj:(abe pos (YC es X.env)).any (·.1)=false:=by rfl):PE X (.Call (.Name x p) (e::es) [] pos) (T4 r t):=by
 intro pins s σ H Q I h;refine acU (qx I hg hm hv ?_ hn C8);exact aaF (eT (ha pos pins s σ H _ I h) λus s1 ⟨vs,H1,I1,r1,q1⟩=>hc pins s1 σ H1 vs us Q I1 r1 q1) he pj
end
end L2
namespace HT
noncomputable def lexLt:List Int->List Int->Bool
 | [],[]=>false
 | [],_::_=>true
 |_::_,[]=>false
 |x::xs,y::ys=>if x=y then lexLt xs ys else decide (x<y)
def lexLt_cons (x y:Int)(xs ys:List Int):lexLt (x::xs) (y::ys)=if x=y then lexLt xs ys else decide (x<y):=rfl
def vS:lexLt [] []=false:=rfl
def ue (y:Int)(ys:List Int):lexLt [] (y::ys)=true:=rfl
def uf (x:Int)(xs:List Int):lexLt (x::xs) []=false:=rfl
def zu (A:Zk)(s:Yv)(a:Int)(t:Tok)(c:Int)(u:Tok):∃e,ab6 A s (.int a t) (.int c u) e/\(e=true↔a=c):=
 ⟨(a==c),SeqAt.EqAt.int_int a t c u,by simp⟩
def GO (A:Zk)(s:Yv)(a:Int)(t:Tok)(c:Int)(u:Tok)(prog:aa9)(w:abc)(E:Yj->Yv->Prop)(Q:Yj->Yv->Prop)(h:Q (.bool (decide (a<c))) s) :
  YE (YQ prog w) A (richCompare .Lt (.int a t) (.int c u)) Q E s:=
 (PyProof.Rows.lt_int h:YE (YQ prog w) A (Zn .Lt (.int a t) (.int c u)) Q E s)
section
open PySem.SeqAt
open PySem.AutoSeq1 (wpAny_loadPart')
open PySem.MeetsSeq PySem.MeetsSeq2 PySem.MeetsSeq3
theorem vT (l b:YG)(items dY:Array Yj)(n n2:Nat)(dd Gw:Option YG)(sl Gx:Array (Option Yj))(ns ms:List Int)(hi:ZS items.toList ns)(hj:ZS dY.toList ms) :
  Meets (Builtin.«tuple.__lt__» ⟨[.ref l,.ref b],[]⟩)
   (λ_ R s=>s.heap.get? l=some {cls:=.type "tuple",dict:=dd,data:=.seq items n,slots:=sl}/\s.heap.get? b=some {cls:=.type "tuple",dict:=Gw,data:=.seq dY n2,slots:=Gx} /\
    R (.ok (.ret (.bool (lexLt ns ms)))) s):=
 .of_wp λprog w A R s h=>by
  obtain⟨hp,g,d,tk,os⟩:=s;obtain⟨hl,hb,h⟩:=h;have f2:=adf;have z1:items.size=ns.length:=by rw[←hi.length];simp
  have z2:dY.size=ms.length:=by rw[←hj.length];simp
  wp_walk using wpAny_loadPart' hl,wpAny_loadPart' hb,wpAny_forIn_list _ (λrest b s'=>b.1=none/\s'=⟨hp,g,d,tk,os⟩/\∃(vs ws:List Yj) (pq ms':List Int),rest=vs.zip ws/\
   ZS vs pq/\ZS ws ms'/\pq.length+dY.size=ms'.length+items.size/\R (.ok (.ret (.bool (lexLt pq ms')))) ⟨hp,g,d,tk,os⟩) _
  case turn=>
   rintro⟨y,x⟩ rest b s' ⟨zj,rfl,vs,ws,pq,ms',hz,hvi,hwi,cW,hR⟩;cases hvi with
   |nil=>rw[List.zip_nil_left] at hz;cases hz
   |cons a t hvi'=>
    cases hwi with
    |nil=>rw[List.zip_nil_right] at hz;cases hz
    |cons c u hwi'=>
     rw[aat] at hz;injection hz with hyx BE
     injection hyx with hy hx
     subst hy hx;rw[lexLt_cons] at hR;simp only[X_] at cW;obtain⟨e,he,hiff⟩:=zu A.in1 ⟨hp,g,d,tk,os⟩ a t c u;refine X6 (he prog w _ _ ?_);cases e with
     |true=>
      rw[hV (hiff.mp rfl)] at hR;wp_walk;exact⟨rfl,rfl,_,_,_,_,BE,hvi',hwi',by lia,hR⟩
     |false=>
      rw[hU (λq=>absurd (hiff.mpr q) Yd)] at hR;have UK:=GO A.in1 ⟨hp,g,d,tk,os⟩ a t c u prog w;wp_walk using UK;exact⟨_,rfl,by simpa using hR⟩
  case fin=>
   rintro⟨b1,b2⟩ s' ⟨zj,rfl,vs,ws,pq,ms',hz,hvi,hwi,cW,hR⟩;simp only at zj;subst zj;have hv:lexLt pq ms'=decide (items.size<dY.size):=by
    cases hvi with
    |nil=>
     cases hwi with
     |nil=>
      simp only[YN] at cW;rw[vS];exact (hJ (by lia)).symm
     |cons c u hw=>
      simp only[YN,X_] at cW;rw[ue];exact (hG (by lia)).symm
    |cons a t hv=>
     cases hwi with
     |nil=>
      simp only[YN,X_] at cW;rw[uf];exact (hJ (by lia)).symm
     |cons c u hw=>
      rw[aat] at hz;cases hz
   rw[hv] at hR;wp_walk;exact⟨_,rfl,by simpa [ab7] using hR⟩
  case h=>
   exact⟨rfl,rfl,items.toList,dY.toList,ns,ms,rfl,hi,hj,by lia,h⟩
end
section
variable {A:Zk}
theorem lt_tupInts {l:YG}{dY:Array Yj}{ms:List Int}(hl:IsTup s.heap l items)(hb:IsTup s.heap b dY)(hi:ZS items.toList ns)(hj:ZS dY.toList ms)(hu:A.units<abg)(h:Q (.bool (lexLt ns ms)) s):YE (YQ prog w) A (Zn .Lt (.ref l) (.ref b)) Q E s:=by
 obtain⟨⟨cls,dd,data,sl⟩,ho,hc,n,hd⟩:=id hl;obtain⟨⟨cls2,Gw,data2,Gx⟩,ho2,hc2,n2,hd2⟩:=id hb;simp only at hc hd hc2 hd2;subst hc hd hc2 hd2;exact richCompare_meets_room (op:=.Lt) ⟨_,ho,rfl⟩ ⟨_,ho2,rfl⟩ PySem.F.slot_tuple_lt PySem.F.entry_tuple_lt (PySem.F.args_tuple_lt_2 _ _) (vT l b items dY n n2 dd Gw sl Gx ns ms hi hj)
  ⟨ho,ho2,show Value.bool (lexLt ns ms)≠Value.notImplemented/\Q (.bool (lexLt ns ms)) s from ⟨(λx=>nomatch x),h⟩⟩ hu
theorem cat_tup {t:YG}{vs ws:List Yj}(ht:IsTup s.heap t vs.toArray)(hb:IsTup s.heap b ws.toArray)(hv:vs≠[])(h1:ws=[]->Q (.ref t) s)(h2:ws≠[]->Q (.ref s.heap.objs.size) {s with heap:=s.heap.push {cls:=.type "tuple",data:=.seq (vs++ws).toArray}})(hsz:vs.length+ws.length<=Yf):YE (YQ prog w) A (aa3 .Add (.ref t) (.ref b)) Q E s:=by
 obtain⟨⟨cls,dd,data,sl⟩,ho,hc,n,hd⟩:=id ht;obtain⟨⟨cls2,Gw,data2,Gx⟩,ho2,hc2,n2,hd2⟩:=id hb;simp only at hc hd hc2 hd2;subst hc hd hc2 hd2;have e:vs.toArray++ws.toArray=(vs++ws).toArray:=by simp
 by_cases hw:ws=[]
 ·exact concat_meets ⟨_,ho,rfl⟩ ⟨_,ho2,rfl⟩ noFill_tuple_add seq_tuple_add ab2 abQ (abH _ _)
   (tuple_addW1 t b vs.toArray ws.toArray n n2 dd Gw sl Gx (by simpa using hv) (by simp[hw])) ⟨ho,ho2,h1 hw⟩
 ·refine concat_meets ⟨_,ho,rfl⟩ ⟨_,ho2,rfl⟩ noFill_tuple_add seq_tuple_add ab2 abQ (abH _ _)
   (tuple_addW2 t b vs.toArray ws.toArray n n2 dd Gw sl Gx (by simpa using hv) (by simpa using hw) (by rw[Yh,Yh];exact hsz)) ⟨ho,ho2,?_⟩
  rw[e];exact h2 hw
noncomputable def sIx (n d:Nat):Option Int->Nat
 |none=>d
 |some v=>if v<0 then (v+(n:Int)).toNat else min v.toNat n
def sIx_none (n d:Nat):sIx n d none=d:=rfl
theorem sIx_nat (n d k:Nat):sIx n d (some (k:Int))=min k n:=by
 show (if (k:Int)<0 then ((k:Int)+(n:Int)).toNat else min (k:Int).toNat n)=min k n;rw[hU (by lia),Zu]
theorem Ol (n d:Nat)(hd:d<=n)(o:Option Int):sIx n d o<=n:=by
 cases o with
 |none=>exact hd
 |some v=>
  show (if v<0 then (v+(n:Int)).toNat else min v.toNat n)<=n;by_cases hv:v<0
  ·rw[hV hv];lia
  ·rw[hU hv];exact Nat.min_le_right _ _
theorem Dp (v:Int)(n d:Nat):(if v<0 then max (v+(n:Int)) 0 else min v (n:Int))=((sIx n d (some v):Nat):Int):=by
 show (if v<0 then max (v+(n:Int)) 0 else min v (n:Int))=(((if v<0 then (v+(n:Int)).toNat else min v.toNat n):Nat):Int);by_cases hv:v<0
 ·simp only[hV hv];lia
 ·simp only[hU hv];lia
theorem BU (lo hi:Option Int)(n:Nat):abu lo hi 1 (n:Int)=(((sIx n 0 lo:Nat):Int),((sIx n n hi:Nat):Int)):=by
 have h1:¬((1:Int)<0):=by lia
 unfold abu;simp only[h1,if_false];refine Prod.ext ?_ ?_
 ·cases lo with
  |none=>rfl
  |some v=>exact Dp v n 0
 ·cases hi with
  |none=>rfl
  |some v=>exact Dp v n n
theorem BV (i j:Nat):aaT (i:Int) (j:Int) 1=j-i:=by
 unfold aaT;have h1:(1:Int)>0:=by lia
 simp only[h1,if_true,Int.ediv_one];split<;>lia
theorem ug {v:Yj}{o:Option Int}{Q:Option Int->Yv->Prop}(p:IsPart v o)(h:Q o s):YE (YQ prog w) A (Builtin.Slice.slicePartIndex v) Q E s:=by
 cases p with
 |none=>exact slicePart_none h
 |int i t=>exact slicePart_int h
theorem k9 {sl:YG}{vl vu:Yj}{lo hi:Option Int}{Q:Int×Int×Nat->Yv->Prop}(hs:s.heap.IsSliceOf sl vl vu .none)(pl:IsPart vl lo)(pu:IsPart vu hi)(h:Q (((sIx n 0 lo:Nat):Int),1,sIx n n hi-sIx n 0 lo) s):YE (YQ prog w) A (acL (.ref sl) (pure (n:Int))) Q E s:=by
 obtain⟨os,Ke,hcs,hds⟩:=id hs;unfold acL Builtin.Slice.sliceFields;refine X6 (X6 (aaa Ke hds (x:=vl) rfl (X6 (aaa Ke hds (x:=vu) rfl (X6 (aaa Ke hds (x:=.none) rfl (Yg ?_)))))));refine X6 (slicePart_none ?_);show YE _ _ (if ((1:Int)==0)=true then _ else _) _ _ s;rw[hU (by decide)];refine X6 (ug pl (X6 (ug pu (X6 (Yg ?_)))));show YE _ _ (match abu lo hi 1 (n:Int) with|(lo,hi)=>pure (lo,(1:Int),aaT lo hi 1)) _ _ s;rw[BU lo hi n];show YE _ _ (pure (((sIx n 0 lo:Nat):Int),(1:Int),aaT ((sIx n 0 lo:Nat):Int) ((sIx n n hi:Nat):Int) 1)) _ _ s;rw[BV];exact Yg h
theorem GP (xs:Array Yj)(i k:Nat):((YS k).filterMap λ(m:Nat)=>xs[((i:Int)+(m:Int)*1).toNat]?).toArray=((xs.toList.drop i).take k).toArray:=by
 have e:(λ(m:Nat)=>xs[((i:Int)+(m:Int)*1).toNat]?)=λm=>xs[i+m]? := by
  funext m;have:((i:Int)+(m:Int)*1).toNat=i+m:=by lia
  rw[this]
 rw[e];have:=pick_run xs i k;rw[List.filterMap_map] at this;have e2:((λx=>xs[x]?)∘λx=>i+x)=λm=>xs[i+m]? := rfl;rw[e2] at this;rw[this]
theorem getItem_tuple_cut {t sl:YG}{vl vu:Yj}{lo hi:Option Int}(ht:IsTup s.heap t items)(hs:s.heap.IsSliceOf sl vl vu .none)(pl:IsPart vl lo)(pu:IsPart vu hi)(hw:¬(sIx items.size 0 lo=0/\sIx items.size items.size hi=items.size))(h:Q (.ref s.heap.objs.size) {s with heap:=s.heap.push {cls:=.type "tuple",data:=.seq ((items.toList.drop (sIx items.size 0 lo)).take (sIx items.size items.size hi-sIx items.size 0 lo)).toArray}})(hsz:items.size<=Yf):YE (YQ prog w) A (getItem (.ref t) (.ref sl)) Q E s:=by
 have E5:sizeOk (.seq ((items.toList.drop (sIx items.size 0 lo)).take (sIx items.size items.size hi-sIx items.size 0 lo)).toArray):=by
  show ((items.toList.drop (sIx items.size 0 lo)).take (sIx items.size items.size hi-sIx items.size 0 lo)).toArray.size<=Yf;rw[Yh,Yy,YO,Yi];lia
 have hj:sIx items.size items.size hi<=items.size:=Ol _ _ (Yl _) hi;obtain⟨os,Ke,hcs,hds⟩:=id hs;have UL:s.TypeIs (.ref sl) "slice":=⟨os,Ke,hcs⟩;unfold getItem
 try with_reducible refine Z6 ?_
 first|refine X6 (Yg ?_)|skip
 refine X6 (wpAny_sequenceKey ht.typeIs (by decide) ?_);refine X6 (ZD (name:=Yq "__getitem__") ht.typeIs aaj
  (ZG aaj ht.typeIs entry_tuple_getitem ?_ (args_tuple_getitem _ _)))
 show YE _ _ (acM (.ref t) >>= _) _ _ s;refine X6 (tupleItemsOf_ ht ?_);refine X6 (acm UL ?_);rw[hV (by decide)];refine X6 (k9 hs pl pu ?_);have Wz:¬((((sIx items.size 0 lo:Nat):Int)==0&&(1:Int)==1&&(sIx items.size items.size hi-sIx items.size 0 lo)==items.size)=true):=by
  intro q;rw[Ys,Ys] at q;have q1:((sIx items.size 0 lo:Nat):Int)=0:=eq_of_beq q.1.1;have q2:sIx items.size items.size hi-sIx items.size 0 lo=items.size:=eq_of_beq q.2;exact hw ⟨by lia,by lia⟩
 show YE _ _ (if (((sIx items.size 0 lo:Nat):Int)==0&&(1:Int)==1&&(sIx items.size items.size hi-sIx items.size 0 lo)==items.size)=true then _ else _) _ _ s;rw[hU Wz,GP]
 first
  |exact X6 (m:=ZN _) (Zl (Yg ⟨_,rfl,Yg h⟩) E5)
  |exact X6 (m:=ZN _) (Zl (X6 (Yg (Yg ⟨_,rfl,Yg h⟩))) E5)
  |exact X6 (X6 (m:=ZN _) (Zl (Yg (Yg ⟨_,rfl,Yg h⟩)) E5))
  |exact X6 (X6 (m:=ZN _) (Zl (Yg ⟨_,rfl,Yg h⟩) E5))
end
end HT
namespace L2
abbrev TO:=St->Hp->(Option Int->Hp->Prop)->Prop
def PO (X:Cx)(e:Option aaE)(t:TO):Prop:=
 ∀(pins:List (YG×Obj)) (s:Yv) (σ:St) (H:Hp) (Q:Option Int->Hp->Prop),a_ X pins σ H s->t σ H Q->
  YE (YQ X.prog X.w) X.A (evalPart e X.env) (λu s'=>∃o H',a_ X pins σ H' s'/\IsPart u o/\Q o H') X.xe s
def Ky:TO:=λ_ H Q=>Q none H
def QU (t:TE):TO:=λσ H Q=>t σ H λx H1=>∃i,x=.int i/\Q (some i) H1
theorem c_:∀{us:List Yj},bC (ns.map V.int) us->ZS us ns:=by
 induction ns with
 |nil=>intro us r;rw[aaz] at r;cases r;exact .nil
 |cons n ns ih=>
  intro us r;rw[Yp] at r;cases r with
  |cons r1 r2=>
   obtain⟨t,e⟩:=r1;subst e;exact .cons n t (ih r2)
section
variable {e:aaE}{lo hi:Option aaE}{tl th:TO}
def Kz:PO X none Ky:=by
 intro pins s σ H Q I h;rw[evalPart_none];exact Yg ⟨none,H,I,.none,h⟩
theorem KA (h:PE X e te):PO X (some e) (QU te):=by
 intro pins s σ H Q I hw;rw[evalPart_some];refine eT (h pins s σ H _ I hw) λu s1 ⟨x,H1,I1,r1,q1⟩=>?_;obtain⟨i,rfl,q⟩:=q1;obtain⟨t,rfl⟩:=r1;exact⟨some i,H1,I1,.int i t,q⟩
def GQ (X:Cx)(r:V->Option Int->Option Int->Hp->VK->Prop):Prop:=
 ∀(pins:List (YG×Obj)) (s:Yv) (σ:St) (H:Hp) (x:V) (v vl vu:Yj) (lo hi:Option Int) (sl:YG) (Q:VK),a_ X pins σ H s->cK x v->s.heap.IsSliceOf sl vl vu .none->IsPart vl lo->IsPart vu hi->r x lo hi H Q->
  ∃T id,typeLookup (.type T) "__getitem__"=pure (some (.builtin id))/\s.TypeIs v T/\YE (YQ X.prog X.w) X.A (getItem v (.ref sl)) (EP X pins σ Q) X.xe s
theorem GQ.or {r r':V->Option Int->Option Int->Hp->VK->Prop}(h:GQ X r)(h':GQ X r'):GQ X (λx lo hi H Q=>r x lo hi H Q\/r' x lo hi H Q):=by
 intro pins s σ H x v vl vu lo hi sl Q I rx hs pl pu q;rcases q with q|q
 ·exact h pins s σ H x v vl vu lo hi sl Q I rx hs pl pu q
 ·exact h' pins s σ H x v vl vu lo hi sl Q I rx hs pl pu q
def Wg (r:V->Option Int->Option Int->Hp->VK->Prop)(te:TE)(tl th:TO):TE:=λσ H Q=>te σ H λx H1=>tl σ H1 λl H2=>th σ H2 λu H3=>r x l u H3 Q
theorem GR {r:V->Option Int->Option Int->Hp->VK->Prop}(hr:GQ X r)(he:PE X e te)(hl:PO X lo tl)(hu:PO X hi th):PE X (.Subscript e (.Slice lo hi none p2) pos) (Wg r te tl th):=by
 intro pins s σ H Q I h;refine Subscript_ (eT (he pins s σ H _ I h) λv s1 ⟨x,H1,I1,r1,q1⟩=>?_);refine wpAny_Slice (eT (hl pins s1 σ H1 _ I1 q1) λvl s2 ⟨l,H2,I2,pl,q2⟩=>eT (hu pins s2 σ H2 _ I2 q2) λvu s3 ⟨u,H3,I3,pu,q3⟩=>?_);rw[evalPart_none];refine Yg ?_;have I4:a_ X pins σ H3 {s3 with heap:=s3.heap.push {cls:=.type "slice",data:=.fields #[vl,vu,.none]}}:=I3.kept (t':=s3.toks) λb ob q=>X9 _ q;obtain⟨T,id,hT,ht,hg⟩:=hr pins {s3 with heap:=s3.heap.push {cls:=.type "slice",data:=.fields #[vl,vu,.none]}} σ H3 x v vl vu l u s3.heap.objs.size Q I4 r1 (Heap.IsSliceOf.new ..) pl pu q3;show YE (YQ X.prog X.w) X.A (subscriptTail e (.Slice lo hi none p2) v (.ref s3.heap.objs.size)) (EP X pins σ Q) X.xe {s3 with heap:=s3.heap.push {cls:=.type "slice",data:=.fields #[vl,vu,.none]}};exact tail_any (ops:=[.ref s3.heap.objs.size,v]) ht hT hg (by with_unfolding_all rfl)
noncomputable def uh (xs:List V)(lo hi:Option Int):List V:=(xs.drop (HT.sIx xs.length 0 lo)).take (HT.sIx xs.length xs.length hi-HT.sIx xs.length 0 lo)
theorem rJ (xs:List V)(lo hi:Option Int):(uh xs lo hi).length<=xs.length:=by
 unfold uh;rw[Yy,YO];lia
def QV (K:Ye):V->Option Int->Option Int->Hp->VK->Prop:=λx lo hi H Q=>∃a xs,x=.ref a/\gE K H a xs/\
 ¬(HT.sIx xs.length 0 lo=0/\HT.sIx xs.length xs.length hi=xs.length)/\∀p,H p=none->Q (.ref p) (eY H p (.tup (uh xs lo hi)))
theorem Om:GQ X (QV X.K):=by
 intro pins s σ H x v vl vu lo hi sl Q I rx hs pl pu h;obtain⟨a,xs,rfl,hx,hw,q⟩:=h;cases rx;obtain⟨its,r,ht,hz⟩:=I.tuple hx;have cW:its.toArray.size=xs.length:=by rw[Yh];exact r.length.symm
 refine⟨"tuple",_,PyProof.Rows.slot_tuple_getitem.lookup,ht.typeIs,?_⟩;refine HT.getItem_tuple_cut ht hs pl pu (by rw[cW];exact hw) ?_ (by rw[cW];exact hz);rw[cW];refine⟨.ref s.heap.objs.size,_,I.laid (t':=s.toks) (o:=.tup (uh xs lo hi)) (λb ob q=>X9 _ q) (Yl _) ?_,rfl,q _ (I.hok.fresh (Yl _))⟩;exact⟨Zj (rJ xs lo hi) hz,_,(r.drop (HT.sIx xs.length 0 lo)).take (HT.sIx xs.length xs.length hi-HT.sIx xs.length 0 lo),IsTup.new _ _,_,Ym _ rfl⟩
def Oo (K:Ye):R2:=λx y H Q=>∃a b ns ms,x=.ref a/\y=.ref b/\gE K H a (ns.map V.int)/\gE K H b (ms.map V.int)/\Q (.bl (HT.lexLt ns ms)) H
theorem Oq (hu:X.A.units<abg):jt X (Zn .Lt) (Oo X.K):=by
 intro pins s σ H x y v u Q I rx ry h;obtain⟨a,b,ns,ms,rfl,rfl,ha,hb,q⟩:=h;cases rx;cases ry;obtain⟨its,r1,p1,_⟩:=I.tuple ha;obtain⟨its2,r2,p2,_⟩:=I.tuple hb;have i1:ZS its.toArray.toList ns:=c_ r1;have i2:ZS its2.toArray.toList ms:=c_ r2;exact HT.lt_tupInts p1 p2 i1 i2 hu ⟨.bl (HT.lexLt ns ms),H,I,rfl,q⟩
def QW (K:Ye):R2:=λx y H Q=>∃a b xs ys,x=.ref a/\y=.ref b/\gE K H a xs/\gE K H b ys/\xs≠[]/\xs.length+ys.length<=Yf/\
 (ys=[]->Q (.ref a) H)/\(ys≠[]->∀p,H p=none->Q (.ref p) (eY H p (.tup (xs++ys))))
theorem bC.nil_iff {us:List Yj}(r:bC xs us):us=[]↔xs=[]:=by
 cases r with
 |nil=>simp
 |cons _ _=>simp
theorem KC:jt X (aa3 .Add) (QW X.K):=by
 intro pins s σ H x y v u Q I rx ry h;obtain⟨a,b,xs,ys,rfl,rfl,ha,hb,hx,hz,q1,q2⟩:=h;cases rx;cases ry;obtain⟨its,r1,p1,_⟩:=I.tuple ha;obtain⟨its2,r2,p2,_⟩:=I.tuple hb;refine HT.cat_tup p1 p2 (λz=>hx (r1.nil_iff.mp z)) (λz=>⟨.ref a,H,I,rfl,q1 (r2.nil_iff.mp z)⟩) (λz=>?_) (by rw[←r1.length,←r2.length];exact hz);refine⟨.ref s.heap.objs.size,_,I.laid (t':=s.toks) (o:=.tup (xs++ys)) (λb ob q=>X9 _ q) (Yl _) ?_,rfl,q2 (λw=>z (r2.nil_iff.mpr w)) _ (I.hok.fresh (Yl _))⟩;exact⟨by rw[Yc];exact hz,_,r1.append r2,IsTup.new _ _,_,Ym _ rfl⟩
end
end L2
namespace L2
noncomputable def Gn (n:Nat)(i:Int):Option Nat:=if 0<=i then (if i<n then some i.toNat else none) else if -(n:Int)<=i then some (i+n).toNat else none
noncomputable def lM {α:Type}(xs:List α)(i:Int):Option α:=(Gn xs.length i).bind λj=>xs[j]?
theorem Dq {i:Int}(h:Gn n i=some j):adg i n=some j/\j<n/\ -(n:Int)<=i/\i<n:=by
 unfold Gn at h;by_cases h0:0<=i
 ·rw[hV h0] at h;by_cases h1:i<n
  ·rw[hV h1] at h;have e:i.toNat=j:=YF h;exact⟨by rw[seqIndex_of h0 h1,e],by lia,by lia,h1⟩
  ·rw[hU h1] at h;cases h
 ·rw[hU h0] at h;by_cases h1 : -(n:Int)<=i
  ·rw[hV h1] at h;have e:(i+n).toNat=j:=YF h;exact⟨by rw[seqIndex_neg (by lia) h1,e],by lia,h1,by lia⟩
  ·rw[hU h1] at h;cases h
theorem xS {α:Type}{xs:List α}{i:Int}{v:α}(h:lM xs i=some v):∃j,adg i xs.length=some j/\xs[j]? = some v/\j<xs.length/\ -(xs.length:Int)<=i/\i<xs.length:=by
 unfold lM at h;cases e:Gn xs.length i with
 |none=>rw[e] at h;cases h
 |some j=>
  rw[e] at h;obtain⟨h1,h2,h3,h4⟩:=Dq e;exact⟨j,h1,h,h2,h3,h4⟩
def Dr (b:aaE):Prop:=∀o i,subscripted b false o i=operate [o,i] (getItem o i)
def J3 (X:Cx)(r:R2):Prop:=
 ∀(value slice:aaE) (pins:List (YG×Obj)) (s:Yv) (σ:St) (H:Hp) (x y:V) (v u:Yj) (Q:VK),a_ X pins σ H s->cK x v->cK y u->r x y H Q->
  subscripted slice false v u=operate [v,u] (getItem v u)->YE (YQ X.prog X.w) X.A (subscriptTail value slice v u) (EP X pins σ Q) X.xe s
def Me (X:Cx)(id:String)(r:V->List V->Hp->VK->Prop):Prop:=
 ∀(pins:List (YG×Obj)) (s:Yv) (σ:St) (H:Hp) (x:V) (xs:List V) (v:Yj) (us:List Yj) (Q:VK),a_ X pins σ H s->cK x v->bC xs us->r x xs H Q->
  YE (YQ X.prog X.w) X.A (call (.builtin id) (v::us)) (EP X pins σ Q) X.xe s
section
variable {a b:aaE}{ta tb:TE}
theorem J3.or (h:J3 X r)(h':J3 X r'):J3 X (λx y H Q=>r x y H Q\/r' x y H Q):=by
 intro value slice pins s σ H x y v u Q I rx ry q hs;rcases q with q|q
 ·exact h value slice pins s σ H x y v u Q I rx ry q hs
 ·exact h' value slice pins s σ H x y v u Q I rx ry q hs
theorem Me.or {id:String}{r r':V->List V->Hp->VK->Prop}(h:Me X id r)(h':Me X id r'):Me X id (λx xs H Q=>r x xs H Q\/r' x xs H Q):=by
 intro pins s σ H x xs v us Q I rx rs q;rcases q with q|q
 ·exact h pins s σ H x xs v us Q I rx rs q
 ·exact h' pins s σ H x xs v us Q I rx rs q
def QX (hr:J3 X r)(ha:PE X a ta)(hb:PE X b tb)(hs:Dr b):PE X (.Subscript a b pos) (QL r ta tb):=by
 intro pins s σ H Q I h;exact Subscript_ (Od ha hb I h λv u s2 x y H2 I2 rx ry q=>hr a b pins s2 σ H2 x y v u Q I2 rx ry q (hs _ _))
def QY (K:Ye):R2:=λx y H Q=>∃p xs i v,x=.ref p/\y=.int i/\fX K H p xs/\lM xs i=some v/\Q v H
def QZ (K:Ye):R2:=λx y H Q=>∃p xs i v,x=.ref p/\y=.int i/\gE K H p xs/\lM xs i=some v/\Q v H
def Q0:R2:=λx y H Q=>∃z i c,x=.str z/\y=.int i/\z.length<=Yf/\lM z.cps.toList i=some c/\Q (.str ⟨#[c]⟩) H
theorem KD:J3 X (QY X.K):=by
 intro value slice pins s σ H x y v u Q I rx ry h hs;obtain⟨p,xs,i,z,rfl,rfl,hq,he,q⟩:=h;cases rx;obtain⟨t,rfl⟩:=ry;obtain⟨its,r,pl,hz⟩:=I.list hq;obtain⟨j,h1,h2,h3,h4,h5⟩:=xS he;obtain⟨w,ew,rw'⟩:=r.get h2;have hl:=r.length;have hn:=qA;have fin:EP X pins σ Q w s:=⟨z,H,I,rw',q⟩;by_cases h0:0<=i
 ·have hj:i.toNat=j:=by
   rw[seqIndex_of h0 h5] at h1;exact YF h1
  exact item_listR pl.isList h0 (by lia) (by rw[hj];simpa using ew) fin hs
 ·have hj:(i+(its.toArray.size:Int)).toNat=j:=by
   rw[seqIndex_neg (by lia) h4] at h1;rw[Yh,←hl];exact YF h1
  exact subscriptTail_builtinR (x:=w) pl.isList.typeIs slot_list_getitem.lookup
   (wpAny_getItem_list_neg (Q:=λr s'=>r=w/\EP X pins σ Q r s') pl.isList (by lia) (by rw[Yh]<;>lia) (by lia) (by rw[hj];simpa using ew) ⟨rfl,fin⟩) hs
theorem Ot:J3 X (QZ X.K):=by
 intro value slice pins s σ H x y v u Q I rx ry h hs;obtain⟨p,xs,i,z,rfl,rfl,hq,he,q⟩:=h;cases rx;obtain⟨t,rfl⟩:=ry;obtain⟨its,r,pl,hz⟩:=I.tuple hq;obtain⟨j,h1,h2,h3,h4,h5⟩:=xS he;obtain⟨w,ew,rw'⟩:=r.get h2;have hl:=r.length;have hn:=qA;have fin:EP X pins σ Q w s:=⟨z,H,I,rw',q⟩;exact subscriptTail_builtinR (x:=w) pl.typeIs slot_tuple_getitem.lookup
  (getItem_tuple (j:=j) (Q:=λr s'=>r=w/\EP X pins σ Q r s') pl (by lia) (by lia) (by rw[Yh,←hl];exact h1) (by simpa using ew) ⟨rfl,fin⟩) hs
theorem Ou:J3 X Q0:=by
 intro value slice pins s σ H x y v u Q I rx ry h hs;obtain⟨z,i,c,rfl,rfl,hz,he,q⟩:=h;obtain⟨t,rfl⟩:=rx;obtain⟨t',rfl⟩:=ry;obtain⟨j,h1,h2,h3,h4,h5⟩:=xS he;have hl:z.cps.toList.length=z.length:=by simp[Str.length]
 rw[hl] at h1 h4 h5;have hn:=qA;exact tail_any (typeIs_str s z t) slot_str_getitem.lookup (getItem_str (c:=c) (by
  have e1:decide (i < -(2 ^ 63:Int))=false:=hJ (by lia);have e2:decide (i≥2 ^ 63)=false:=hJ (by lia);rw[e1,e2,Bool.or_false]) (by rw[h1];simpa using h2) ⟨.str ⟨#[c]⟩,H,I.tok _,⟨_,rfl⟩,q⟩) hs
def Vn (K:Ye):R2:=λx y H Q=>QY K x y H Q\/QZ K x y H Q\/Q0 x y H Q
def aB:J3 X (Vn X.K):=KD.or (Ot.or Ou)
def BW (its:List Yj)(n j:Nat)(u:Yj):abn (·.setIfInBounds j u) {cls:=.type "list",data:=.seq its.toArray n}={cls:=.type "list",data:=.seq (its.set j u).toArray n}:=by
 simp[abn]
theorem a_.lst {p:YG}(I:a_ X pins σ H s)(h:H p=some (.lst xs)) :
  ∃(its:List Yj) (n:Nat),bC xs its/\s.heap.get? p=some {cls:=.type "list",data:=.seq its.toArray n}/\xs.length<=Yf:=by
 obtain⟨z,its,n,r,e⟩:=I.hok p _ h;exact⟨its,n,r,e,z⟩
def a_.lstUpd {p:YG}{ys:List V}{its':List Yj}{n':Nat}{f:Obj->Obj}(I:a_ X pins σ H s)(h:H p=some (.lst xs))(ho:s.heap.get? p=some {cls:=.type "list",data:=.seq its.toArray n})(hf:f {cls:=.type "list",data:=.seq its.toArray n}={cls:=.type "list",data:=.seq its'.toArray n'})(r:bC ys its')(hz:ys.length<=Yf)(t:Nat) :
  a_ X pins σ (eY H p (.lst ys)) {s with heap:=s.heap.update p f,toks:=t}:=by
 have e:(s.heap.update p f).get? p=some {cls:=.type "list",data:=.seq its'.toArray n'}:=by
  rw[aaM f ho (by rw[hf]<;>rfl),hf]
 refine I.write (x:=p) (e:=p) (by rw[h];trivial) (.inl rfl) (λb u hb q=>(Heap.get?_update_other _ _ (Ne.symm hb)).trans q) ⟨_,e⟩ ?_;exact⟨hz,its',n',r,e⟩
def Q1:V->V->V->Hp->(Hp->Prop)->Prop:=λo i v H Q=>∃p xs k j,o=.ref p/\i=.int k/\H p=some (.lst xs)/\Gn xs.length k=some j/\Q (eY H p (.lst (xs.set j v)))
theorem GU:QF X Q1:=by
 intro pins s σ H o i v ov iv u Q I ro ri rv h;obtain⟨p,xs,k,j,rfl,rfl,hp,hj,q⟩:=h;cases ro;obtain⟨t,rfl⟩:=ri;obtain⟨its,n,r,ho,hz⟩:=I.lst hp;obtain⟨h1,h2,h3,h4⟩:=Dq hj;have hl:=r.length;have hn:=qA;have I':a_ X pins σ (eY H p (.lst (xs.set j v))) {s with heap:=s.heap.update p (abn (·.setIfInBounds j u))}:=
  I.lstUpd hp ho (BW its n j u) (r.set rv j) (by rw[aab];exact hz) s.toks
 by_cases h0:0<=k
 ·have hk:k.toNat=j:=by
   rw[seqIndex_of h0 h4] at h1;exact YF h1
  exact PySem.W.ki_setAt ho h0 (by lia) (by rw[Yh,←hl];exact h4) (by rw[hk];exact⟨_,I',q⟩)
 ·have hk:(k+(its.toArray.size:Int)).toNat=j:=by
   rw[seqIndex_neg (by lia) h3] at h1;rw[Yh,←hl];exact YF h1
  exact PySem.W.ki_setBack ho (by lia) (by rw[Yh,←hl];exact h3) (by lia) (by rw[hk];exact⟨_,I',q⟩)
theorem xT (lo hi:Option Int)(n:Nat):(ab8 lo hi none n).1=((HT.sIx n 0 lo:Nat):Int)/\(ab8 lo hi none n).2.1=((HT.sIx n n hi:Nat):Int)/\(ab8 lo hi none n).2.2=1:=by
 refine⟨?_,?_,rfl⟩
 ·cases lo with
  |none=>simp[ab8,HT.sIx]
  |some i=>
   simp only[ab8,HT.sIx,aco,show (1:Int)>0 by decide,if_true];by_cases h:i<0
   ·simp only[h,if_true]<;>lia
   ·simp only[h,if_false]<;>lia
 ·cases hi with
  |none=>simp[ab8,HT.sIx]
  |some i=>
   simp only[ab8,HT.sIx,aco,show (1:Int)>0 by decide,if_true];by_cases h:i<0
   ·simp only[h,if_true]<;>lia
   ·simp only[h,if_false]<;>lia
theorem vU (its:List Yj)(lo hi:Option Int):slicePick its.toArray lo hi none=((its.drop (HT.sIx its.length 0 lo)).take (HT.sIx its.length its.length hi-HT.sIx its.length 0 lo)).toArray:=by
 obtain⟨h1,h2,h3⟩:=xT lo hi its.toArray.size;unfold slicePick;rw[h1,h2,h3];simp only[sliceRange_one,pick_run,Yh]<;>rfl
def KG (K:Ye):V->Option Int->Option Int->Hp->VK->Prop:=λx lo hi H Q=>∃a xs,x=.ref a/\fX K H a xs/\∀p,H p=none->Q (.ref p) (eY H p (.lst (uh xs lo hi)))
theorem KI:GQ X (KG X.K):=by
 intro pins s σ H x v vl vu lo hi sl Q I rx hs pl pu h;obtain⟨a,xs,rfl,hx,q⟩:=h;cases rx;obtain⟨its,r,ht,hz⟩:=I.list hx;have cW:=r.length;refine⟨"list",_,slot_list_getitem.lookup,ht.isList.typeIs,?_⟩;refine wpAny_getItem_list_slice ht.isList hs pl pu .none (by simp) ?_ (by rw[Yh]<;>lia);rw[vU,←cW];refine⟨.ref s.heap.objs.size,_,I.laid (t':=s.toks) (o:=.lst (uh xs lo hi)) (λb ob q=>X9 _ q) (Yl _) ?_,rfl,q _ (I.hok.fresh (Yl _))⟩;exact⟨Zj (rJ xs lo hi) hz,_,0,(r.drop (HT.sIx xs.length 0 lo)).take (HT.sIx xs.length xs.length hi-HT.sIx xs.length 0 lo),Ym _ rfl⟩
theorem pD:eZ X (.type "list") (λxs H Q=>∃p ys,xs=[.ref p]/\(fX X.K H p ys\/gE X.K H p ys)/\∀l,H l=none->Q (.ref l) (eY H l (.lst ys))):=by
 intro pins s σ H xs us Q I r h;obtain⟨p,ys,rfl,hq,q⟩:=h;obtain⟨u,rfl,rx⟩:=iW r;cases rx;have fin:∀(its:List Yj),bC ys its->ys.length<=Yf->∀(h':aaX) (c':Nat),(∀b o',s.heap.get? b=some o'->h'.get? b=some o')->
   h'.get? s.heap.objs.size=some {cls:=.type "list",dict:=none,data:=.seq its.toArray c',slots:=#[]}->EP X pins σ Q (.ref s.heap.objs.size) {s with heap:=h'}:=λits r' hz h' c' kp e=>
  ⟨.ref s.heap.objs.size,_,I.laid (t':=s.toks) kp (Yl _) (show eJ X.prog X.w _ h' _ (.lst ys) from ⟨hz,its,c',r',e⟩),rfl,q _ (I.hok.fresh (Yl _))⟩
 rcases hq with hq|hq
 ·obtain⟨its,r',pl,hz⟩:=I.list hq;have cW:=r'.length;obtain⟨o,ho,hc,n,hd⟩:=pl.isList;exact call_list_seq p (.inl rfl) ho hc hd (λh' c' kp e=>fin its r' hz h' c' kp e) (by simp only[Yh]<;>lia)
 ·obtain⟨its,r',pl,hz⟩:=I.tuple hq;have cW:=r'.length;obtain⟨o,ho,hc,n,hd⟩:=pl;exact call_list_seq p (.inr rfl) ho hc hd (λh' c' kp e=>fin its r' hz h' c' kp e) (by simp only[Yh]<;>lia)
theorem cg:eZ X (.type "tuple") (λxs H Q=>∃p ys,xs=[.ref p]/\((fX X.K H p ys/\∀l,H l=none->Q (.ref l) (eY H l (.tup ys)))\/(gE X.K H p ys/\Q (.ref p) H))):=by
 intro pins s σ H xs us Q I r h;obtain⟨p,ys,rfl,h⟩:=h;obtain⟨u,rfl,rx⟩:=iW r;cases rx;rcases h with⟨hq,q⟩|⟨hq,q⟩
 ·obtain⟨its,r',pl,hz⟩:=I.list hq;have cW:=r'.length;refine call_tuple_list pl.isList (λh' kp=>?_) (by simp only[Yh]<;>lia);have I1:a_ X pins σ H {s with heap:=h'}:=I.kept (t':=s.toks) kp;have I2:a_ X pins σ (eY H h'.objs.size (.tup ys)) {s with heap:=h'.push {cls:=.type "tuple",data:=.seq its.toArray}}:=
   I1.laid (t':=s.toks) (λb o e=>X9 _ e) (Yl _) (show eJ X.prog X.w _ _ _ (.tup ys) from ⟨hz,its,r',IsTup.new _ _,_,Ym _ rfl⟩)
  exact⟨.ref h'.objs.size,_,I2,rfl,q _ (I1.hok.fresh (Yl _))⟩
 ·obtain⟨its,r',pl,hz⟩:=I.tuple hq;exact call_tuple_same pl ⟨.ref p,H,I,rfl,q⟩
def T5 (K:Ye)(T:String)(x:V)(H:Hp):Prop:=match x with
 | .str _=>T="str"
 | .int _=>T="int"
 | .ref p=>(T="list"/\∃xs,fX K H p xs)\/(T="tuple"/\((∃o,K.lookup p=some o/\o.cls=.type "tuple"/\o.dict=none)\/∃xs,H p=some (.tup xs))) \/
   (T="dict"/\((∃kl,H p=some (.dK kl))\/∃kl,H p=some (.dT kl)))\/(T="set"/\∃S n,H p=some (.set S n))
 |_=>False
theorem Ov {T:String}{x:V}{v:Yj}(I:a_ X pins σ H s)(r:cK x v)(ty:T5 X.K T x H) :
  s.TypeIs v T/\∀a,v=.ref a->∃ob,s.heap.get? a=some ob/\ob.dict=none:=by
 cases x with
 |str z=>
  obtain⟨t,rfl⟩:=r;cases (show T="str" from ty);exact⟨typeIs_str s z t,λ_ e=>nomatch e⟩
 |int i=>
  obtain⟨t,rfl⟩:=r;cases (show T="int" from ty);exact⟨typeIs_int s i t,λ_ e=>nomatch e⟩
 |ref p=>
  cases r;rcases ty with⟨rfl,xs,hq⟩|⟨rfl,⟨o,hk,hc,hd⟩|⟨xs,hq⟩⟩|⟨rfl,hk⟩|⟨rfl,S,n,hk⟩
  ·obtain⟨its,_,pl,_⟩:=I.list hq;refine⟨pl.isList.typeIs,λa e=>?_⟩;cases e;obtain⟨o,n,e,c,hd,_⟩:=pl;exact⟨o,e,hd⟩
  ·refine⟨⟨o,I.kIn p o hk,hc⟩,λa e=>?_⟩;cases e;exact⟨o,I.kIn _ o hk,hd⟩
  ·obtain⟨_,its,_,⟨o,e,c,_⟩,n2,e2⟩:=I.hok p _ hq;refine⟨⟨o,e,c⟩,λa e'=>?_⟩;cases e';exact⟨_,e2,rfl⟩
  ·have z:∃o,s.heap.get? p=some o/\o.ExactDict:=by
    rcases hk with⟨kl,hk⟩|⟨kl,hk⟩
    ·obtain⟨_,_,_,_,o,_,_,e,ex,_⟩:=I.hok p _ hk;exact⟨o,e,ex⟩
    ·obtain⟨_,_,_,_,o,_,_,e,ex,_⟩:=I.hok p _ hk;exact⟨o,e,ex⟩
   obtain⟨o,e,ex⟩:=z;refine⟨⟨o,e,ex.1⟩,λa e2=>?_⟩;cases e2;exact⟨o,e,ex.2.1⟩
  ·obtain⟨o,_,_,_,e,ex,_⟩:=I.hok p _ hk;refine⟨⟨o,e,ex.1⟩,λa e2=>?_⟩;cases e2;exact⟨o,e,ex.2.1⟩
 |_=>exact abm ty
def Vo (K:Ye)(T:String)(r:V->List V->Hp->VK->Prop)(to:TE)(t:TA):TE:=λσ H Q=>to σ H λx H1=>T5 K T x H1/\t σ H1 λxs H2=>r x xs H2 Q
variable {o e:aaE}{es:List aaE}{to:TE}{t:TA}{name:Str}{Bz cpos:Pos}{T id:String}{r:V->List V->Hp->VK->Prop}
theorem Q2 (pa:PlainAttrs T)(slot:Slot T name id)(UM:typeOf (.builtin id)=pure (.type "method_descriptor"))(hm:Me X id r)(ho:PE X o to)(ha:PA X (e::es) t)
  (JR:attributeBase o name X.env (abN o X.env)=abN o X.env:=by rfl)
  (PR:((abe cpos (YC (e::es) X.env)).all (λx=> !x.1)&&(backToKw cpos (keywordEach [] X.env)).all (λx=>x.1.isSome)
   && decide ((e::es).length+([]:List Keyword).length+(if ([]:List Keyword).isEmpty then 0 else 1)<30))=true:=by rfl)
  (JS:(Bz.endLine==cpos.line)=true:=by rfl) (hs:YC (e::es) X.env=(false,abN e X.env)::YC es X.env:=by rfl) (C9:(abe cpos (YC es X.env)).any (·.1)=false:=by rfl) :
  PE X (.Call (.Attribute o name Bz) (e::es) [] cpos) (Vo X.K T r to t):=by
 intro pins s σ H Q I h;refine wpAny_Call_method_late JR PR JS rfl (eT (ho pins s σ H _ I h) λv s1 ⟨x,H1,I1,r1,ty,q1⟩=>?_);obtain⟨h1,h2⟩:=Ov I1 r1 ty;refine⟨T,id,pa,slot,UM,h1,h2,?_⟩;have hA:=ha cpos pins s1 σ H1 _ I1 q1;rw[hs] at hA ⊢;refine Calls.callWith_builtin (by show (false||(abe cpos (YC es X.env)).any (·.1))=false;rw[C9]<;>rfl) (Calls.evalArgs_plain ?_);exact eT hA λus s2 ⟨vs,H2,I2,r2,q2⟩=>hm pins s2 σ H2 x vs v us Q I2 r1 r2 q2
end
end L2
namespace L2
def T6 (X:Cx)(id:String)(r:V->List V->Hp->VK->Prop):Prop:=
 ∀(pins:List (YG×Obj)) (s:Yv) (σ:St) (H:Hp) (x:V) (xs:List V) (v:Yj) (us:List Yj) (Q:VK),a_ X pins σ H s->cK x v->bC xs us->r x xs H Q->
  YE (YQ X.prog X.w) X.A (call (.builtin id) (v::us)) (EP X pins σ Q) X.xe s
def bC.one:∀{x:V} {us:List Yj},bC [x] us->∃u,us=[u]/\cK x u
 |_,_,.cons r .nil=>⟨_,rfl,r⟩
theorem bC.eraseIdx:∀{xs:List V} {us:List Yj} (i:Nat),bC xs us->bC (xs.eraseIdx i) (us.eraseIdx i)
 |_,_,_,.nil=>.nil
 |_,_,0,.cons _ t=>t
 |_,_,i+1,.cons r t=>.cons r (bC.eraseIdx i t)
theorem wX {α:Type}:∀(l:List α) (i:Nat),(l.eraseIdx i).length<=l.length
 | [],_=>Yl _
 |_::_,0=>Nat.le_succ _
 |_::r,i+1=>Nat.succ_le_succ (wX r i)
section
variable {l:YG}{ys zs:List V}
def a_.lset {t':Nat}{its':List Yj}{f:Array Yj->Array Yj}(I:a_ X pins σ H s)(hH:H l=some (.lst xs))(e:s.heap.get? l=some {cls:=.type "list",data:=.seq its.toArray n})(hf:f its.toArray=its'.toArray)(hv:bC ys its')(hz:ys.length<=Yf) :
  a_ X pins σ (eY H l (.lst ys)) {s with heap:=s.heap.update l (abn f),toks:=t'}:=by
 have q:=PySem.IsL.update e f;rw[hf] at q;refine I.write (x:=l) (e:=l) (by rw[hH];exact trivial) (.inl rfl) (λb' u hb hu=>(Heap.get?_update_other s.heap (abn f) (Ne.symm hb)).trans hu) ⟨_,q⟩ ?_;exact⟨hz,its',_,hv,q⟩
def a_.lnew {t':Nat}(I:a_ X pins σ H s)(hv:bC ys its)(hz:ys.length<=Yf) :
  a_ X pins σ (eY H s.heap.objs.size (.lst ys)) {s with heap:=s.heap.push {cls:=.type "list",data:=.seq its.toArray},toks:=t'}:=
 I.laid (λ_ _ q=>X9 _ q) (Yl _) ⟨hz,its,0,hv,Ym _ rfl⟩
def a_.fresh (I:a_ X pins σ H s):H s.heap.objs.size=none:=I.hok.fresh (Yl _)
theorem a_.lstM (I:a_ X pins σ H s)(hH:H l=some (.lst xs)):xs.length<=Yf/\∃(its:List Yj) (n:Nat),bC xs its/\xs.length=its.length/\s.heap.get? l=some {cls:=.type "list",data:=.seq its.toArray n}:=by
 obtain⟨z,its,n,r,e⟩:=I.hok l _ hH;exact⟨z,its,n,r,r.length,e⟩
theorem ui (h:n<=Yf):aa0 n=false:=by
 unfold aa0;exact hJ (by lia)
end
def Ds:V->List V->Hp->VK->Prop:=λx vs H Q=>∃l xs y,x=.ref l/\vs=[y]/\H l=some (.lst xs)/\xs.length<Yf/\Q .non (eY H l (.lst (xs++[y])))
theorem qD:T6 X "list.append" Ds:=by
 intro pins s σ H x vs v us Q I rx rv h;obtain⟨l,xs,y,rfl,rfl,hH,hz,q⟩:=h;cases rx;obtain⟨u,rfl,ru⟩:=rv.one;obtain⟨z,its,n,r,hl,e⟩:=I.lstM hH;refine ab9 F.slot_list_append ⟨_,e,rfl⟩ F.entry_list_append (F.args_list_append_2 _ _) (PySem.list_append l its.toArray n u (by rw[Yh];lia)) ⟨e,?_⟩;refine⟨.non,_,I.lset (its':=its++[u]) hH e (by simp) (r.append (.cons ru .nil)) ?_,rfl,q⟩;rw[Yc,YA];lia
def GV:V->List V->Hp->VK->Prop:=λx vs H Q=>∃l xs i k y,x=.ref l/\vs=[.int i]/\H l=some (.lst xs)/\ -(2 ^ 63)<=i/\i<2 ^ 63/\adg i xs.length=some k/\xs[k]? = some y/\Q y (eY H l (.lst (xs.eraseIdx k)))
theorem GW:T6 X "list.pop" GV:=by
 intro pins s σ H x vs v us Q I rx rv h;obtain⟨l,xs,i,k,y,rfl,rfl,hH,h1,h2,hk,hy,q⟩:=h;cases rx;obtain⟨u,rfl,ru⟩:=rv.one;obtain⟨t,rfl⟩:=ru;obtain⟨z,its,n,r,hl,e⟩:=I.lstM hH;obtain⟨w,hw,rw'⟩:=r.get hy;refine ab9 F.slot_list_pop ⟨_,e,rfl⟩ F.entry_list_pop (F.args_list_pop_2 _ _)
  (MeetsSeq.list_pop_at l its.toArray n i t k w (fitsIndex_both h1 h2) (by rw[Yh,←hl];exact hk) (by rw[←YJ];exact hw) (by rw[Yh];lia)) ⟨e,?_⟩
 refine⟨y,_,I.lset (its':=its.eraseIdx k) hH e ?_ (r.eraseIdx k) ?_,rw',q⟩
 ·show its.toArray.eraseIdxIfInBounds k=(its.eraseIdx k).toArray;rw[List.eraseIdxIfInBounds_toArray]
 ·have:=wX xs k;lia
section
variable {A:Zk}
set_option maxRecDepth 100000 in
end
end L2
namespace Att
open PySem.W PySem.Calls
theorem sU {P:Params}:∀(ns:List Int) (vs:List Yj),WellAll P h vs (ns.map WData.int)->ZS vs ns:=by
 intro ns
 induction ns with
 |nil=>
  intro vs w;rw[aaz] at w;cases w;exact .nil
 |cons n ns ih=>
  intro vs w;rw[Yp] at w;cases w with
  |cons a b=>
   cases a;exact .cons _ _ (ih _ b)
theorem Fl {l:OpenLaw}(hn:l.most=some n){P:Params}{args:List WData}{PU:List Yj}(L3:l.row.toRowW.claim.pre args=true)(UN:WellAll P h PU args) :
  ∃a vs ns,PU=[Value.ref a]/\args=[WData.list (ns.map WData.int)]/\h.get? a=some {cls:=.type "list",data:=.seq vs.toArray}/\ZS vs ns/\ns.length<=n:=by
 have WA:WShape.hasAll [] args [.list .int]=true:=(pre_splitW L3).1;have hc:l.pre.holds [] {args:=args}=true:=(pre_splitW L3).2;obtain⟨d,r,rfl,h1,h2⟩:=hasAllW_cons WA;obtain rfl:=hasAllW_nil h2;obtain⟨xs,rfl,h3⟩:=hasW_list h1;obtain⟨ns,rfl⟩:=items_int h3;have cW:ns.length<=n:=by
  unfold OpenLaw.pre at hc;have h4:(WTm.not (.lt (.lit (.int (n:Int))) (.len (.arg 0)))).holds [] {args:=[.list (ns.map .int)]}=true:=by
   have h4:=(holds_andW hc).1;rw[hn] at h4;exact h4
  have h5:=condW_of h4 (w_not (w_lt w_lit (w_len_list (w_arg rfl))));rw[X8] at h5;refine Nat.le_of_not_lt λq=>?_;have q':(n:Int)<((ns.length:Nat):Int):=by lia
  first
   | (rw[hG q'] at h5;exact absurd h5 (by decide))
   | (simp at h5;lia)
 cases UN with
 |cons w1 w2=>
  cases w2;cases w1 with
  |list ho hall=>exact⟨_,_,ns,rfl,rfl,ho,sU ns _ hall,cW⟩
def Fm (l:OpenLaw)(args:List WData):l.row.toRowW.claim.post args (.bool true) args=true:=
 postW_of (r:=l.row.toRowW) (X:=(true==true))
  (show WShape.has [] (.bool true) .bool=true by first|rfl|decide|simp[WShape.has,WShape.arms,WShape.armsAll])
  (show (WTm.eq .res (.lit (.bool true))).value [] {args:=args,res:=some (.bool true),after:=args}=some (.bool (true==true)) from w_eq_bool (w_res rfl) w_lit) rfl
theorem attach_call {l:OpenLaw}{q:aa9}{d:DefRec}(hn:l.most=some n)(Sn:d.params.defaults=[])(call:∀(w:abc) (s₀ s₁:Yv) (mg mb:Str->Option Yj) (fa:YG) (o:Obj) (pm cd qv:Yj) (a:YG) (vs:List Yj) (ns:List Int),
   Ground q loose [] XP w s₀ mg mb s₁.heap->YP w s₁.heap->
   s₁.heap.get? fa=some o->o.data=.func (docDef d.name d.params d.body d.scope pm cd qv)->s₁.heap.CodeRec cd d.name->mg d.name=some (.ref fa)->
   s₁.heap.get? a=some {cls:=.type "list",data:=.seq vs.toArray}->ZS vs ns->ns.length<=n->s₁.gens=#[]->
   codeAny (YQ l.prog w) callerA (.call (.ref fa) ⟨[.ref a],[]⟩) (λr s'=>r=.ok (.ret (.bool true))/\OldK s₁.heap s'.heap/\s'.os=s₁.os/\AllBare s'.gens) s₁) :
  WalkO q loose XP YP l.row.toRowW d [] (λf vs=>PySem.call f vs):=by
 intro w s₀ s₁ mg mb G Y fa o pm cd qv dV kV ho hd tw hD So hg args PU as L3 WB XO UN XQ;obtain rfl:dV=.none:=Dflts.none hD Sn;obtain rfl:kV=.none:=Dflts.noKw hD;obtain⟨a,vs,ns,rfl,rfl,PV,JT,cW⟩:=Fl hn L3 UN;refine enter_call (acj (call w s₀ s₁ mg mb fa o pm cd qv a vs ns G Y ho (fd_plain hd) tw So PV JT cW hg) λr s' hq=>?_);obtain⟨rfl,h2,h3,h4⟩:=hq;exact⟨.inl ⟨.bool true,.bool true,[],rfl,λ_=>rfl,.bool true,Fm l _,λ_=>⟨List.Pairwise.nil,λ_ hm=>(nomatch hm)⟩⟩,h2,h3,h4⟩
end Att
namespace L2
theorem qE:∀{vs:List Yj} {ns:List Int},ZS vs ns->bC (ns.map V.int) vs
 |_,_,.nil=>.nil
 |_,_,.cons n t h=>.cons ⟨t,rfl⟩ (qE h)
def KJ (H:Hp):Prop:=∀b,H b=none\/∃o xs,H b=some (.frz o (.lst xs))
theorem GX {mb:Str->Option Yj}{fa:YG}{s₁:Yv}{vs:List Yj}(KX:K.In s₁.heap)(VN:s₁.heap.Ns Y2 mg)(hb:s₁.heap.Ns builtinsNs mb)(WC:∀x:Str,x≠"__name__"->mb x=Zg x)(UO:s₁.heap.NoLimit)(hg:s₁.gens=#[])(ha:s₁.heap.get? a=some {cls:=.type "list",data:=.seq vs.toArray})(hi:ZS vs ns)(hl:ns.length<=Yf)(hr:gF k callerA)(F:∀base:aaX,K.In base->base.Ns Y2 mg->nQ P w K mg base CX k fa fd [x] sp)(Sq:∀(s:Yv) (u:Yj),BindsTo s fd ⟨[u],[]⟩ [(x,u)])(NF:∀H:Hp,KJ H->fX K H a (ns.map V.int)->sp [.ref a] H (λv _=>v=.bl true) λ_ _ _=>False)(UP:∀H e s',CX [] H s₁ (λ_ _ _=>False) e s'->False) :
  codeAny (YQ P w) callerA (.call (.ref fa) ⟨[.ref a],[]⟩) (λr s'=>r=.ok (.ret (.bool true))/\OldK s₁.heap s'.heap/\s'.os=s₁.os/\AllBare s'.gens) s₁:=by
 have rv:=qE hi;have UQ:=hi.length;have Sr:∀H:Hp,KJ H->fX K H a (ns.map V.int)->qw P w H s₁.heap->(∀b,H b≠none->b=a)->(H a≠none->K.lookup a=none)->
   codeAny (YQ P w) callerA (.call (.ref fa) ⟨[.ref a],[]⟩) (λr s'=>r=.ok (.ret (.bool true))/\OldK s₁.heap s'.heap/\s'.os=s₁.os/\AllBare s'.gens) s₁:=by
  intro H hO hS hok hA hK;have E6:∀{b:YG} {o:Obj},s₁.heap.get? b=some o->H b=none->(xQ s₁.heap H).get? b=some o:=λe n=>Gz e n;have Sk:∀{b:YG} {o:Obj} {es:Array DictEntry} {ep:Nat},s₁.heap.get? b=some o->o.data=.dict es ep->H b=none:=λ{b o es ep} e d=>by
   cases q:H b with
   |none=>rfl
   |some u=>
    have e':b=a:=hA b (by rw[q];simp);subst e';rw[ha] at e;cases e;have d':Data.seq vs.toArray _=Data.dict es ep:=d;cases d'
  have Ti:∀{b:YG} {m:Str->Option Yj},s₁.heap.Ns b m->(xQ s₁.heap H).Ns b m:=λ{b m} ⟨o,es,ep,e,d,r⟩=>⟨o,es,ep,E6 e (Sk e d),d,r⟩;have VO:K.In (xQ s₁.heap H):=λb o e=>E6 (KX b o e) (by
   cases q:H b with
   |none=>rfl
   |some u=>
    have e':b=a:=hA b (by rw[q];simp);subst e';rw[hK (by rw[q];simp)] at e;cases e)
  have hM:Mod K mg (xQ s₁.heap H):=⟨VO,Ti VN,⟨mb,Ti hb,WC⟩,let ⟨mc,h1,h2⟩:=UO;⟨mc,Ti h1,h2⟩⟩;have e0:Kw P w K mg (xQ s₁.heap H) callerA [] s₁ H:=⟨rfl,hM,λb o e=>Kg e,Nat.le_of_eq (E9 _ _),trivial,λb hb=>absurd (show b∈([]:List YG) from hb) (by simp),hok,.of_eq hg⟩;refine acj ((F _ VO (Ti VN)).run callerA [] s₁ H ⟨[.ref a],[]⟩ [.ref a] [.ref a] _ _ hr e0 (Sq s₁ (.ref a)) (.cons rfl .nil) (NF H hO hS)) λr s' h=>?_;cases r with
  |error e=>exact (UP H e s' h).elim
  |ok fl=>
   cases fl with
   |next=>exact abm h
   |brk=>exact abm h
   |cont=>exact abm h
   |ret u=>
    obtain⟨v,H',os,bare,un,hok',r',q⟩:=h;have q':v=.bl true:=q;subst q';obtain rfl:u=Value.bool true:=r';refine⟨rfl,OldK.of_keep λb o e=>?_,os,bare⟩;cases q:H b with
    |none=>exact un.keep b o e q (by intro z;exact absurd (show b∈([]:List YG) from z) (by simp)) (by simp)
    |some u=>
     rcases hO b with z|⟨ob,xs,z⟩
     ·rw[q] at z;cases z
     ·have z2:=un.frzs b ob _ z;obtain⟨e1,_⟩:=hok b _ z;obtain⟨e2,_⟩:=hok' b _ z2;rw[e] at e1;cases e1;exact e2
 cases hk:K.lookup a with
 |some o=>
  have e:=KX a o hk;rw[ha] at e;cases e;refine Sr (λ_=>none) (λ_=>.inl rfl) (.inr ⟨_,vs.toArray,_,hk,rfl,rfl,rfl,by rw[Yh,UQ];exact hl,by simpa using rv⟩) (λb u z=>by have z':(none:Option HO)=some u:=z;cases z') (λb z=>absurd rfl z) λz=>absurd rfl z
 |none=>
  refine Sr (λb=>if b=a then some (.frz {cls:=.type "list",data:=.seq vs.toArray} (.lst (ns.map V.int))) else none) (λb=>?_) (.inl (.inr ⟨{cls:=.type "list",data:=.seq vs.toArray},hV rfl⟩)) (λb u z=>?_) (λb z=>?_) λ_=>hk
  ·by_cases hb:b=a
   ·exact .inr ⟨_,_,hV hb⟩
   ·exact .inl (hU hb)
  ·by_cases hb:b=a
   ·have z':=(hV hb).symm.trans z;cases z';subst hb;exact⟨ha,by rw[X8];exact hl,vs,_,rv,ha⟩
   ·have z':=(hU hb).symm.trans z;cases z'
  ·by_cases hb:b=a
   ·exact hb
   ·exact absurd (hU hb) z
end L2
namespace L2
theorem walk_of {l:PySem.W.OpenLaw}{q:aa9}{d:DefRec}{K:Params->Ye}{CX:abc->CXT}{sp:abc->Sp}(hn:l.most=some n)(Qq:n<=Yf)(Sn:d.params.defaults=[])(hr:gF k callerA)(hY:∀(w:abc) (h:aaX),YP w h->(K w.params).In h)(F:∀(w:abc) (mg:Str->Option Yj) (fa:YG) (h:aaX),(K w.params).In h->h.Ns Y2 mg->mg d.name=some (.ref fa)->
   ∃fd:acu,(∀(s:Yv) (u:Yj),BindsTo s fd ⟨[u],[]⟩ [(x,u)])/\
    ∀base:aaX,(K w.params).In base->base.Ns Y2 mg->nQ l.prog w (K w.params) mg base (CX w) k fa fd [x] (sp w))(NF:∀(w:abc) (H:Hp) (a:YG) (ns:List Int),ns.length<=n->KJ H->fX (K w.params) H a (ns.map V.int)->sp w [.ref a] H (λv _=>v=.bl true) λ_ _ _=>False)(UP:∀(w:abc) (H:Hp) (s:Yv) (e:Yj) (s':Yv),CX w [] H s (λ_ _ _=>False) e s'->False) :
  PySem.W.WalkO q loose XP YP l.row.toRowW d [] (λf vs=>PySem.call f vs):=by
 refine Att.attach_call hn Sn λw s₀ s₁ mg mb fa o pm cd qv a vs ns G Y ho hd tw So PV JT cW hg=>?_;have KX:=hY w _ Y;obtain⟨fd,hb,hF⟩:=F w mg fa _ KX G.T.g So;exact GX KX G.T.g G.T.b G.T.builtins G.T.nolimit hg PV JT (Zj cW Qq) hr hF hb (λH hO hS=>NF w H a ns cW hO hS) λH e s'=>UP w H s₁ e s'
end L2
namespace L2
noncomputable def gG (s:ab4):Arguments:=match s with
 | .FunctionDef _ a _ _ _ _ _ _ _ _=>a
 |_=>{posonlyargs:=[],args:=[],vararg:=none,kwonlyargs:=[],kw_defaults:=[],kwarg:=none,defaults:=[]}
noncomputable def dE (s:ab4):List ab4:=match s with
 | .FunctionDef _ _ b _ _ _ _ _ _ _=>b
 |_=>[]
noncomputable def ar (s:ab4):ada:=match s with
 | .FunctionDef _ _ _ _ _ _ sc _ _ _=>sc
 |_=>{kind:=.function,names:=[],isGenerator:=false,isCoroutine:=false}
abbrev zw:CXT:=λ_ _ _ _ _ _=>False
abbrev E0:XK:=λ_ _ _=>False
def Q3:BS zw X E0:=λ_ _ _ _ _ _ _ h=>h.elim
structure J5 (K:Ye)(x qual:Str)(st:ab4)(f:YG)(fd:acu):Prop where
 ex:∃(oc:Yj) (od:Option YG) (kV qv pm:Yj) (an:Option YG) (dH ct:Yj) (ND:Array (Option Yj)),
  fd=aaf x qual (gG st) (dE st) (ar st) .none kV qv pm an dH ct/\K.lookup f=some ⟨oc,od,.func fd,ND⟩/\ac3 K dH qual=true
 kp:aa7 K (.ref f)=true
section
variable {base:aaX}
theorem J5.ok {N:List Str}(F:J5 K x qual st f fd)(S:a9 N ps (ar st))(len:∀vs H Q E,sp vs H Q E->vs.length=ps.length)(j2:∀(dH:Yj) (A:Zk) (outer:List Env) (s:Yv) (H:Hp) (vs:List V) (Q:VK) (E:XK),gF k (A.deeper (acV qual (ar st) s.heap.objs.size f dH))->sp vs H Q E->
   ∃t,wN (sT zw P w K mg base N qual (ar st) f dH A outer s H E).nox (dE st) t/\t {nx:=λ_ H'=>Q .non H',rt:=Q} (abO N vs) H):nQ P w K mg base zw (k+1) f fd ps sp:=by
 obtain⟨oc,od,kV,qv,pm,an,dH,ct,ND,rfl,lk,tw⟩:=F.ex;refine QT lk tw S len λA outer s H vs Q E hr NF=>?_;obtain⟨t,h,q⟩:=j2 dH A outer s H vs Q E hr NF;exact⟨t,h.nox,q⟩
theorem J5.binds (F:J5 K x qual st f fd)(h:∀(kV qv pm:Yj) (an:Option YG) (dH ct:Yj) (us:List Yj),us.length=ps.length->bindArgs (aaf x qual (gG st) (dE st) (ar st) .none kV qv pm an dH ct) ⟨us,[]⟩=pure (ps.zip us)):wQ K fd ps []:=by
 obtain⟨oc,od,kV,qv,pm,an,dH,ct,ND,rfl,lk,tw⟩:=F.ex;exact .all (h kV qv pm an dH ct)
def GY {oc:Yj}{od an:Option YG}{ND:Array (Option Yj)}{kV qv pm dH ct:Yj}(l:K.lookup f=some ⟨oc,od,.func (aaf x qual (gG st) (dE st) (ar st) .none kV qv pm an dH ct),ND⟩)(c:ac3 K dH qual=true)(k:aa7 K (.ref f)=true):J5 K x qual st f (aaf x qual (gG st) (dE st) (ar st) .none kV qv pm an dH ct):=⟨⟨oc,od,kV,qv,pm,an,dH,ct,ND,rfl,l,c⟩,k⟩
end
def n_ {A:Zk}(hr:gF k A):A.units+1<abg:=abR (Nat.add_le_add_left (by decide:1<=64) _) hr.units
def bh (H H':Hp):Prop:=∀b o,H b=some o->H' b=some o
def bh.refl (H:Hp):bh H H:=λ_ _ h=>h
def bh.trans (a:bh H H1)(b:bh H1 H2):bh H H2:=λc o h=>b c o (a c o h)
theorem bh.seq (e:bh H H')(h:fX K H a xs):fX K H' a xs:=by
 rcases h with (h|⟨o,h⟩)|h
 ·exact .inl (.inl (e _ _ h))
 ·exact .inl (.inr ⟨o,e _ _ h⟩)
 ·exact .inr h
end L2
namespace L2
theorem BX {env:Env}(hf:∀x,(x,NameKind.free)∈scope.names->∃c,env.cells.lookup x=some c) :
  ∃cl:List (Str×YG),closureFor scope env=pure cl/\(∀x c,cl.lookup x=some c->env.cells.lookup x=some c)/\∀x,(x,NameKind.free)∈scope.names->∃c,cl.lookup x=some c:=by
 have gen:∀(names:List (Str×adn)) (cs:List (Str×YG)),(∀x,(x,NameKind.free)∈names->∃c,env.cells.lookup x=some c)->(∀x c,cs.lookup x=some c->env.cells.lookup x=some c)->
   ∃cl:List (Str×YG),(forIn names cs λ(x:Str×adn) (r:List (Str×YG))=>(match x with|(name,kind)=>if (kind==NameKind.free)=true then (do let a ←cellOf env name;pure (ForInStep.yield ((name,a)::r))) else pure (ForInStep.yield r):Sem (ForInStep (List (Str×YG)))))=(pure cl:Sem _)/\
    (∀x c,cl.lookup x=some c->env.cells.lookup x=some c)/\(∀x c,cs.lookup x=some c->∃c',cl.lookup x=some c')/\∀x,(x,NameKind.free)∈names->∃c,cl.lookup x=some c:=by
  intro names
  induction names with
  |nil=>intro cs _ h;exact⟨cs,rfl,h,λx c e=>⟨c,e⟩,λx hx=>absurd hx (by simp)⟩
  |cons p r ih=>
   intro cs hn h;obtain⟨n,k⟩:=p;by_cases hk:k=NameKind.free
   ·subst hk;obtain⟨c,hc⟩:=hn n Yb;have h':∀x c',((n,c)::cs).lookup x=some c'->env.cells.lookup x=some c':=λx c' e=>by
     rw[ZH] at e;by_cases hx:x==n
     ·rw[hx] at e;have:x=n:=by simpa using hx
      subst this;cases e;exact hc
     ·rw[ZT.mpr hx] at e;exact h x c' e
    obtain⟨cl,e1,e2,e3,e4⟩:=ih ((n,c)::cs) (λx hx=>hn x (Ya _ hx)) h';refine⟨cl,?_,e2,λx c' e=>?_,λx hx=>?_⟩
    ·rw[abS];have:cellOf env n=pure c:=by unfold cellOf;rw[hc]
     simp only[beq_self_eq_true,if_true,this];exact e1
    ·by_cases hx:x=n
     ·subst hx;exact e3 x c (by rw[ZH];simp)
     ·exact e3 x c' (by rw[ZH,show (x==n)=false from by simpa using hx];exact e)
    ·rcases Yk.mp hx with e|hx
     ·cases e;exact e3 n c (by rw[ZH];simp)
     ·exact e4 x hx
   ·obtain⟨cl,e1,e2,e3,e4⟩:=ih cs (λx hx=>hn x (Ya _ hx)) h;refine⟨cl,?_,e2,e3,λx hx=>?_⟩
    ·rw[abS];have:(k==NameKind.free)=false:=by simpa using hk
     simp only[this,Yn,if_false];exact e1
    ·rcases Yk.mp hx with e|hx
     ·cases e;exact absurd rfl hk
     ·exact e4 x hx
 obtain⟨cl,e1,e2,_,e4⟩:=gen scope.names [] hf (λx c e=>by simp at e);refine⟨cl,?_,e2,e4⟩;unfold closureFor;exact (congrArg (λm=>m >>= λr=>pure r) e1).trans rfl
structure tK where
 C:YG
 s:Yv
 H:Hp
 fp:List YG
 pins:List (YG×Obj)
 cl:List (Str×YG)
noncomputable abbrev fD (X:Cx)(scope:ada)(N:List Str)(Y:tK):Cx where
 prog:=X.prog
 w:=X.w
 K:=X.K
 mg:=X.mg
 base:=X.base
 A:=X.A
 N:=N
 s₀:=Y.s
 H₀:=Y.H
 env:=compEnvC scope Y.cl Y.C X.env
 outer:=X.stack
 stack:=X.stack
 ex:=Y.fp
 fn:=λ_=>false
 calm:=X.calm
 pn:=X.pn++Y.pins
 xe:=λ_ _=>False
noncomputable def vV (nN:ada)(NX:List Str)(scope:ada)(N:List Str)(js:List (Option Nat)):Bool:=
 decide (scope.kind=.function)&&scope.names.all (λy=>decide (y.2≠.cell))&&scope.names.all (λy=>decide (y.2=.local->scope.names.lookup y.1=some .local))&&decide (js.length=N.length) &&
 (js.zip N).all (λp=>match p.1 with|none=>true|some j=>decide (NX[j]? = some p.2)&&decide (scope.names.lookup p.2=some .free)) &&
 scope.names.all (λy=>decide (y.2=.free->nN.names.lookup y.1=some .cell\/nN.names.lookup y.1=some .free))
structure pE (nN:ada)(NX:List Str)(scope:ada)(N:List Str)(js:List (Option Nat)):Prop where
 kind:scope.kind=.function
 nocell:∀y∈scope.names,y.2≠.cell
 loc:∀y∈scope.names,y.2=.local->scope.names.lookup y.1=some .local
 len:js.length=N.length
 cap:∀(i j:Nat) (x:Str),js[i]? = some (some j)->N[i]? = some x->NX[j]? = some x/\scope.names.lookup x=some .free
 free:∀x,(x,NameKind.free)∈scope.names->nN.names.lookup x=some .cell\/nN.names.lookup x=some .free
theorem vV.to {nN:ada}{NX:List Str}{N:List Str}(h:vV nN NX scope N js=true):pE nN NX scope N js:=by
 unfold vV at h;simp only[Ys] at h;obtain⟨⟨⟨⟨⟨h1,h2⟩,h3⟩,h4⟩,h5⟩,h6⟩:=h;refine⟨of_decide_eq_true h1,λy hy=>of_decide_eq_true (Yo.mp h2 y hy),λy hy=>of_decide_eq_true (Yo.mp h3 y hy),of_decide_eq_true h4,λi j x e1 e2=>?_,λx hx=>of_decide_eq_true (Yo.mp h6 (x,NameKind.free) hx) rfl⟩;have hz:(js.zip N)[i]? = some (some j,x):=by
  rw[List.getElem?_zip_eq_some];exact⟨e1,e2⟩
 have q:=Yo.mp h5 _ (Y6 hz);simp only[Ys] at q;exact⟨of_decide_eq_true q.1,of_decide_eq_true q.2⟩
noncomputable def wY (js:List (Option Nat))(σ:St):St:=js.map λo=>match o with
 |none=>none
 |some j=>match σ[j]? with
  |some v=>v
  |none=>none
theorem pF {env:Env}(sQ:∀y∈scope.names,y.2≠.cell)(h:(relabel scope env).names.lookup x=some .cell\/(relabel scope env).names.lookup x=some .free):(x,NameKind.free)∈scope.names:=by
 have gen:∀k,(k=NameKind.cell\/k=NameKind.free)->(relabel scope env).names.lookup x=some k->(x,NameKind.free)∈scope.names:=λk hk e=>by
  have hm:=ZC e;obtain⟨⟨n,k0⟩,hy,q⟩:=Yz.mp hm;dsimp only at q;split at q
  ·rename_i c;simp only[Ys,beq_iff_eq] at c;cases q;obtain⟨⟨c1,_⟩,_⟩:=c;rw[c1] at hy;exact hy
  ·cases q;rcases hk with hk|hk
   ·exact absurd hk (sQ _ hy)
   ·rw[hk] at hy;exact hy
 rcases h with h|h
 ·exact gen _ (.inl rfl) h
 ·exact gen _ (.inr rfl) h
theorem fA {env:Env}{x:Str}:∀{names:List (Str×adn)},names.lookup x=some .free->
  (names.map λ(n,k)=>if (k==NameKind.free&&env.scope.kind==.function&&env.kindOf n==some .cell) then (n,NameKind.cell) else (n,k)).lookup x=some .cell \/
  (names.map λ(n,k)=>if (k==NameKind.free&&env.scope.kind==.function&&env.kindOf n==some .cell) then (n,NameKind.cell) else (n,k)).lookup x=some .free
 | [],h=>by simp at h
 | (n,k)::r,h=>by
  rw[Yp];by_cases hx:x==n
  ·rw[ZH,hx] at h;cases h;by_cases c:(NameKind.free==NameKind.free&&env.scope.kind==.function&&env.kindOf n==some .cell)=true
   ·refine .inl ?_;show List.lookup x ((if (NameKind.free==NameKind.free&&env.scope.kind==.function&&env.kindOf n==some .cell)=true then (n,NameKind.cell) else (n,NameKind.free))::_)=_;rw[hV c,ZH,hx]
   ·refine .inr ?_;show List.lookup x ((if (NameKind.free==NameKind.free&&env.scope.kind==.function&&env.kindOf n==some .cell)=true then (n,NameKind.cell) else (n,NameKind.free))::_)=_;rw[hU c,ZH,hx]
  ·have vQ:=ZT.mpr hx;rw[ZH,vQ] at h;have ih:=fA (env:=env) (x:=x) (names:=r) h;have e:∀p:Str×adn,p.1=n->List.lookup x (p::(r.map λ(n,k)=>if (k==NameKind.free&&env.scope.kind==.function&&env.kindOf n==some .cell) then (n,NameKind.cell) else (n,k))) =
     List.lookup x (r.map λ(n,k)=>if (k==NameKind.free&&env.scope.kind==.function&&env.kindOf n==some .cell) then (n,NameKind.cell) else (n,k)):=λp hp=>by
    obtain⟨p1,p2⟩:=p;cases hp;rw[ZH,vQ]
   rw[e _ (by dsimp only;split<;>rfl)];exact ih
def Fo (X:Cx)(vK:List aaE)(t:TT):Prop:=
 ∀(pins:List (YG×Obj)) (s:Yv) (σ:St) (H:Hp) (Q:Bool->Hp->Prop),a_ X pins σ H s->t σ H Q->
  YE (YQ X.prog X.w) X.A (forIn vK true λc r=>if r=true then do let ok ←isTrue c X.env (abN c X.env);pure (ForInStep.yield ok) else pure (ForInStep.yield r)) (TP X pins σ Q) X.xe s
def T7:TT:=λ_ H Q=>Q true H
def GZ:Fo X [] T7:=λ_ _ _ H _ I h=>wpAny_tests_nil ⟨H,I,h⟩
def G0 {t:TT}(h:PT X c t):Fo X [c] t:=λpins s σ H Q I q=>wpAny_tests_one (h pins s σ H Q I q)
end L2
namespace L2
theorem mJ {A:Zk}{R:Result->Yv->Prop}{rC:aaE}{it bX:Yj}{env:Env}(I:Nat->Yv->Prop)(turn:∀n s,I n s->YE (YQ prog w) A (pyNext it) (λr s₁=>match r with
   |none=>R (.ok .next) s₁
   |some v=>YE (YQ prog w) A (acC rC it v) (λ_ VP=>YE (YQ prog w) A (assign rC env v) (λ_ s₂=>
     YE (YQ prog w) A (forIn vK true λc r=>if r=true then do let ok ←isTrue c env (abN c env);pure (ForInStep.yield ok) else pure (ForInStep.yield r)) (λok s₃=>
      if ok=true then YE (YQ prog w) A (abN elt env) (λx s₄=>
       YE (YQ prog w) A (call (.builtin "list.append") [bX,x]) (λ_ s₅=>∃m,m<n/\I m s₅) (λ_ _=>False) s₄) (λ_ _=>False) s₃
      else ∃m,m<n/\I m s₃) (λ_ _=>False) s₂) (λ_ _=>False) VP) (λ_ _=>False) s₁) (λ_ _=>False) s)(n:Nat)(h:I n s) :
  codeAny (YQ prog w) A (.compLoop (.ListComp elt [⟨rC,iter,vK,0⟩] scope pos) 0 it bX env) R s:=by
 refine codeAny_loop rfl I (λn s hI=>?_) n h;show YE _ A ((compTurn (.ListComp elt [⟨rC,iter,vK,0⟩] scope pos) 0 it bX env).onRaise (λx=>do noteFrame x env;theTreesLotGoes x)) _ _ s;refine wpAny_noted ?_;rw[compTurn_list];have fe:∀{e:Yj} {s':Yv} {Z:Prop},(λ(_:Yj) (_:Yv)=>False) e s'->Z:=λh=>h.elim;refine X6 (wpAny_standAt (X6 (ZR (turn n s hI) (λr s₁ h₁=>?_) λ_ _ h'=>h'.elim)));cases r with
 |none=>exact Yg h₁
 |some v=>
  refine X6 (ZR h₁ (λ_ VP WD=>?_) λ_ _ h'=>h'.elim);refine X6 (ZR WD (λ_ s₂ h₂=>X6 (ZR h₂ (λok s₃ h₃=>?_) λ_ _ h'=>h'.elim)) λ_ _ h'=>h'.elim);cases ok with
  |false=>exact Yg ⟨rfl,h₃⟩
  |true=>
   exact X6 (X6 (ZR h₃ (λx s₄ h₄=>X6 (ZR h₄ (λ_ s₅ h₅=>Yg (Yg ⟨rfl,h₅⟩)) λ_ _ h'=>h'.elim)) λ_ _ h'=>h'.elim))
def Q4 (J:It)(js:List (Option Nat))(g:tK->TG)(tt:tK->TT)(te:tK->TE)(σ:St)(H1:Hp)(P:List V->Hp->Prop):Prop:=
 ∀Y:tK,∃W:Nat->Nat->List V->Hp->Prop,(∃m,W 0 m [] H1)/\∀i m ys H2,W i m ys H2->
  (J.stop i H2/\P ys H2) \/
  (J.go i H2/\ys.length<Yf/\∃Nx:List V->Hp->Prop,(∀NI H',Nx NI H'->∃m',m'<m/\W (i+1) m' NI H')/\∀x H3,J.yld i H2 x H3->g Y x (wY js σ) H3 λσ4 H4=>tt Y σ4 H4 λb H5=>
   if b=true then te Y σ4 H5 λy H6=>Nx (ys++[y]) H6 else Nx ys H5)
def S2 (wi:TI)(js:List (Option Nat))(g:tK->TG)(tt:tK->TT)(te:tK->TE):TE:=λσ H Q=>wi σ H λJ H1=>
 Q4 J js g tt te σ H1 λys H2=>∀p,H2 p=none->Q (.ref p) (eY H2 p (.lst ys))
theorem uj {E:Yj->Yv->Prop}{s2:Yv}{nN:ada}{N:List Str}{g:tK->TG}{tt:tK->TT}{te:tK->TE}{J:It}{tn:Nat->aaX->Prop}{P:List V->Hp->Prop}{cl:List (Str×YG)}{RR:Yj->YG->Result->Yv->Prop}(I:a_ X pins σ H s2)(hc:X.calm=true)(T:E_ X.prog X.w X.K tg J fp it tn)(nO:tn 0 s2.heap)(f2:∀b∈fp,sS X pins H b)(zc:∀Y:tK,PG (fD X scope N Y) tg (g Y)/\Fo (fD X scope N Y) vK (tt Y)/\PE (fD X scope N Y) elt (te Y))(S:pE nN X.N scope N js)(n8:X.env.scope=nN)(c1:∀x c,cl.lookup x=some c->X.env.cells.lookup x=some c)(c2:∀x,(x,NameKind.free)∈scope.names->∃c,cl.lookup x=some c)(h:Q4 J js g tt te σ H P)(hR:∀(bX C:YG) (ys:List V) (H':Hp) (s':Yv),a_ X pins σ (eY H' bX (.lst ys)) s'->(∃m,s'.heap.Ns C m)->sS X pins (eY H' bX (.lst ys)) C->H' bX=none->P ys H'->RR (.ref bX) C (.ok .next) s') :
  YE (YQ X.prog X.w) X.A (newList []) (λbX s₃=>YE (YQ X.prog X.w) X.A (newFunctionEnv scope X.env.globals cl [] X.env.qual none .none (some X.env)) (λSs s₄=>
   codeAny (YQ X.prog X.w) X.A (.compStart (.ListComp elt [⟨tg,iter,vK,0⟩] scope pos) 0 (.ref it) bX {Ss with scope:=relabel scope X.env}) (RR bX Ss.locals) s₄) E s₃) E s2:=by
 refine Zl (wpAny_newFunctionEnv S.nocell (by intro y hy;simp at hy) (λh₁ PX L4=>?_) S.kind);dsimp only at PX L4 ⊢;generalize hH2:s2.heap.push {cls:=.type "list",dict:=none,data:=.seq ([]:List Yj).toArray}=H2 at PX L4 ⊢;have hC:H2.objs.size=s2.heap.objs.size+1:=by rw[←hH2,ZQ]
 have Tj:s2.heap.objs.size≠H2.objs.size:=by rw[hC];exact YK (acp _)
 have L5:s2.heap.objs.size<=H2.objs.size:=by rw[hC];exact Nat.le_succ _
 have below:∀b,b<s2.heap.objs.size->b≠H2.objs.size/\b≠s2.heap.objs.size:=λb hb=>⟨by rw[hC];exact YK (aaC hb),YK hb⟩;have old:∀b o,s2.heap.get? b=some o->h₁.get? b=some o:=λb o e=>L4.extBut b o (below b (Yu e)).1 (X9 _ (hH2▸X9 _ e));have tx:h₁.PlainList s2.heap.objs.size #[]:=⟨_,L4.extBut _ _ Tj (X9 _ (hH2▸Ym _ rfl))⟩;have UR:∀b∈fp,b<s2.heap.objs.size:=λb hb=>by
  obtain⟨o,e,_⟩:=T.obj _ _ nO b hb;exact Yu e
 generalize hCg:H2.objs.size=C at *;generalize hAg:s2.heap.objs.size=bX at *
 let Y:tK:=⟨C,s2,H,fp,pins,cl⟩
 have ok:(fD X scope N Y).Ok:=by
  refine⟨I.ok.mod,S.kind,I.ok.glob,I.ok.blt,?_,λx y c e1 e2=>I.ok.inj x y c (c1 x c e1) (c1 y c e2),λx hx=>c2 x (pF S.nocell hx),λx c e=>(by cases e),I.ok.hd,I.ok.frames,.inl rfl,λb hb=>⟨?_,λx c e=>?_⟩,I.bs,Zj I.ok.bsz I.sz,λb o e hb=>?_,λb hb hf=>?_,I.stack,I.stkFree⟩
  ·show s2.heap.objs.size<=C;rw[hAg];exact L5
  ·exact (below b (UR b hb)).1
  ·exact (f2 b hb).2.2.2.2.1 x c (c1 x c e)
  ·rcases (f2 b hb).2.2.2.1 with z|z
   ·exact I.ok.noex b o e z
   ·exact absurd (Y4 (Yu (I.ok.bs b o e).1) z) (Z_ _)
  ·rcases Yk.mp (I.stkSub b hf) with z|z
   ·exact (f2 b hb).2.1 z
   ·exact (f2 b hb).2.2.1 z
 have US:∀x c,X.env.cells.lookup x=some c->c<bX:=λx c e=>by
  obtain⟨v,q⟩:=I.cell x c e;rw[←hAg];exact q.lt
 have NG:∀p∈X.pn++pins,p.1<bX:=λp hp=>by rw[←hAg];exact Yu (I.pin p hp).1
 have XR:X.env.locals<bX:=by rw[←hAg];exact I.lt
 have Su:∀b∈Dk X.stack,b<bX:=λb hb=>by
  obtain⟨_,o,ho,_⟩:=I.stack.mem hb;rw[←hAg];exact Yu ho
 have Sv:∀p∈X.pn++pins,p.1∉Dk X.stack:=λp hp hf=>by
  rcases Yk.mp (I.stkSub _ hf) with z|z
  ·exact (I.pin p hp).2.2.1 z
  ·exact (I.pin p hp).2.2.2.1 z
 have E7:H bX=none:=by rw[←hAg];exact I.hok.fresh (Yl _)
 have WE:H C=none:=I.hok.fresh (by rw[hAg];exact L5);have I4:∀tk:Nat,a_ (fD X scope N Y) [] (wY js σ) H {s2 with heap:=h₁,toks:=tk}:=λtk=>by
  refine⟨ok,rfl,I.bare,Un.kept old,⟨_,PX,λi x v e1 e2 e3=>?_⟩,λx c e=>?_,WE,λx c e=>I.freeC x c (c1 x c e),λp hp=>?_,I.hok.kept old,?_⟩
  ·
   have L6:(wY js σ)[i]? = some (some v):=e2;unfold wY at L6;rw[YL] at L6;cases hj:js[i]? with
   |none=>rw[hj] at L6;cases L6
   |some o=>
    rw[hj] at L6;cases o with
    |none=>cases L6
    |some j=>
     have e4:(match σ[j]? with|some v=>v|none=>none)=some v:=YF L6;obtain⟨nx,fr⟩:=S.cap i j x hj e1;have e5:σ[j]? = some (some v):=by
      cases q:σ[j]? with
      |none=>rw[q] at e4;cases e4
      |some z=>rw[q] at e4;rw[show z=some v from e4]
     obtain⟨m,hn,hl⟩:=I.loc;have kx:X.env.scope.names.lookup x=some .cell\/X.env.scope.names.lookup x=some .free:=by rw[n8];exact S.free x (ZC fr)
     obtain⟨u,r,lk⟩:=hl j x v nx e5 (.inr kx);refine⟨u,r,.inr ⟨fA fr,?_⟩⟩;obtain⟨c,hcl⟩:=c2 x (ZC fr);rcases lk with⟨k,_⟩|⟨k,c',e',z⟩
     ·have k':X.env.scope.names.lookup x=some .local:=k;rcases kx with q|q<;>· rw[q] at k';cases k'
     ·have:c'=c:=by
       have:=c1 x c hcl;rw[e'] at this;exact YF this
      subst this;obtain⟨o,ho,hd⟩:=z;exact⟨c',hcl,o,old _ _ ho,hd⟩
  ·obtain⟨v,o,ho,hd⟩:=I.cell x c (c1 x c e);exact⟨v,o,old _ _ ho,hd⟩
  ·have BI:p∈X.pn++pins:=by simpa using hp
   obtain⟨q1,q2,q3,q4,q5⟩:=I.pin p BI;exact⟨old _ _ q1,q2,λz=>absurd (NG p BI) (by rw[z];exact Nat.not_lt.mpr L5),Sv p BI,q5⟩
  ·show (wY js σ).length=N.length;unfold wY;rw[X8];exact S.len
 obtain⟨hg,ht,he⟩:=zc Y;obtain⟨W,⟨m0,w0⟩,turn⟩:=h Y;have UT:∀{H':Hp} {pl:List (YG×Obj)},H' bX=none->(∀p∈pl,p.1≠bX)->sS (fD X scope N Y) pl H' bX:=λ{H' pl} hn hp=>by
  refine⟨hn,Tj,λz=>absurd (Su _ z) (Z_ _),.inr (by show s2.heap.objs.size<=bX;rw[hAg];exact Yl _),λx c e=>YK (US x c (c1 x c e)),λp BI=>?_⟩;rcases Yx.mp BI with z|z
  ·exact YK (NG p z)
  ·exact hp p z
 have UU:∀{H':Hp} {pl:List (YG×Obj)},(∀b∈fp,H' b=none)->(∀p∈pl,p.1∉fp)->∀b∈fp,sS (fD X scope N Y) pl H' b:=λ{H' pl} hn hp b hb=>by
  refine⟨hn b hb,(below b (UR b hb)).1,λz=>?_,.inl hb,λx c e=>(f2 b hb).2.2.2.2.1 x c (c1 x c e),λp BI=>?_⟩
  ·rcases Yk.mp (I.stkSub b z) with q|q
   ·exact (f2 b hb).2.1 q
   ·exact (f2 b hb).2.2.1 q
  ·rcases Yx.mp BI with z|z
   ·exact (f2 b hb).2.2.2.2.2 p z
   ·exact λe=>hp p z (by rw[e];exact hb)
 have VQ:bX∉fp:=λz=>absurd (UR bX z) (by intro q;rw[hAg] at *;exact Z_ _ q);have UW:∀{i:Nat} {x:Str} {v:V},N[i]? = some x->(wY js σ)[i]? = some (some v)->∃u c o,cK v u/\scope.names.lookup x=some .free/\cl.lookup x=some c/\s2.heap.get? c=some o/\o.data=.cell (some u):=λ{i x v} e1 e2=>by
  unfold wY at e2;rw[YL] at e2;cases hj:js[i]? with
  |none=>rw[hj] at e2;cases e2
  |some o=>
   rw[hj] at e2;cases o with
   |none=>cases e2
   |some j=>
    have e4:(match σ[j]? with|some v=>v|none=>none)=some v:=YF e2;obtain⟨nx,fr⟩:=S.cap i j x hj e1;have e5:σ[j]? = some (some v):=by
     cases q:σ[j]? with
     |none=>rw[q] at e4;cases e4
     |some z=>rw[q] at e4;rw[show z=some v from e4]
    obtain⟨m,hn,hl⟩:=I.loc;have kx:X.env.scope.names.lookup x=some .cell\/X.env.scope.names.lookup x=some .free:=by rw[n8];exact S.free x (ZC fr)
    obtain⟨u,r,lk⟩:=hl j x v nx e5 (.inr kx);obtain⟨c,hcl⟩:=c2 x (ZC fr);rcases lk with⟨k,_⟩|⟨k,c',e',z⟩
    ·have k':X.env.scope.names.lookup x=some .local:=k;rcases kx with q|q<;>· rw[q] at k';cases k'
    ·have:c'=c:=by
      have:=c1 x c hcl;rw[e'] at this;exact YF this
     subst this;obtain⟨o,ho,hd⟩:=z;exact⟨u,c',o,r,fr,hcl,ho,hd⟩
 have Sw:∀{pl:List (YG×Obj)} {σ':St} {H':Hp} {s':Yv},a_ (fD X scope N Y) pl σ' H' s'->a_ (fD X scope N Y) pl (wY js σ) H' s':=λ{pl σ' H' s'} K=>by
  refine⟨K.ok,K.os,K.bare,K.base,?_,K.cell,K.free,K.freeC,K.pin,K.hok,?_⟩
  ·obtain⟨m,hn,_⟩:=K.loc;refine⟨m,hn,λi x v e1 e2 e3=>?_⟩;obtain⟨u,c,o,r,fr,hcl,ho,hd⟩:=UW e1 e2;refine⟨u,r,.inr ⟨fA fr,c,hcl,?_⟩⟩;obtain⟨sl,q⟩:=K.base.any ho (I.freeC x c (c1 x c hcl)) λz=>(f2 c z).2.2.2.2.1 x c (c1 x c hcl) rfl;exact⟨_,q,hd⟩
  ·show (wY js σ).length=N.length;unfold wY;rw[X8];exact S.len
 have loop:∀tk:Nat,codeAny (YQ X.prog X.w) X.A (.compLoop (.ListComp elt [⟨tg,iter,vK,0⟩] scope pos) 0 (.ref it) (.ref bX) (compEnvC scope cl C X.env)) (RR (.ref bX) C) {s2 with heap:=h₁,toks:=tk}:=by
  intro tk;refine mJ (λn s'=>∃(i:Nat) (ys:List V) (its:List Yj) (H':Hp),a_ (fD X scope N Y) [] (wY js σ) H' s'/\tn i s'.heap/\(∀b∈fp,H' b=none)/\H' bX=none/\s'.heap.PlainList bX its.toArray/\bC ys its/\ys.length<=Yf/\W i n ys H') ?_ m0
   ⟨0,[],[],H,I4 tk,T.keep _ _ _ nO (λb hb o e=>old b o e),λb hb=>(f2 b hb).1,E7,tx,.nil,aak _,w0⟩
  rintro n s3 ⟨i,ys,its,H3,I3,Kc,fr3,na3,⟨nn,ea⟩,rv3,hz3,w3⟩;have PY:∀p∈[(bX,({cls:=.type "list",data:=.seq its.toArray nn}:Obj))],p.1∉fp:=λp hp=>by
   have e:p=(bX,({cls:=.type "list",data:=.seq its.toArray nn}:Obj)):=by simpa using hp
   rw[e];exact VQ
  have Ip:a_ (fD X scope N Y) [(bX,({cls:=.type "list",data:=.seq its.toArray nn}:Obj))] (wY js σ) H3 s3:=I3.pins_of λp hp=>by
   have e:p=(bX,({cls:=.type "list",data:=.seq its.toArray nn}:Obj)):=by simpa using hp
   subst e;exact⟨ea,na3,Tj,λz=>absurd (Su _ z) (Z_ _),λv z=>by cases z⟩
  rcases turn i n ys H3 w3 with⟨stop,p⟩|⟨go,Dd,Nx,hNx,step⟩
  ·refine ZR (T.done (fD X scope N Y) rfl rfl rfl hc i _ s3 _ H3 (λ_ _=>False) Ip (UU fr3 PY) Kc stop) (λr s4 WG=>?_) λ_ _ z=>z;obtain⟨hr,J4⟩:=WG;subst hr;have pa:=(J4.pin (bX,({cls:=.type "list",data:=.seq its.toArray nn}:Obj)) (YM _ Yb)).1;have u:Un (Dk X.stack) fp H (eY H3 bX (.lst ys)) s2.heap s4.heap:=
    ⟨J4.base.keep,J4.base.slot,λb o e nb hx=>by rw[bY (below b (by rw[←hAg];exact Yu e)).2];exact J4.base.free b o e nb hx,J4.base.there,
     λb xs e=>by rw[bY (c9 e E7)];exact J4.base.tups b xs e,λb o w' e=>by rw[bY (c9 e E7)];exact J4.base.frzs b o w' e,λb ps e=>by rw[bY (c9 e E7)];exact J4.base.tbls b ps e⟩
   have hok:qw X.prog X.w (eY H3 bX (.lst ys)) s4.heap:=λb o e=>by
    by_cases hb:b=bX
    ·subst hb;rw[dg] at e;cases e;exact⟨hz3,its,nn,rv3,pa⟩
    ·rw[bY hb] at e;refine (J4.hok b o e).stay (λ_ _ _ q=>q) (λc q=>?_) λc xs q=>?_
     ·rw[bY (c9 q na3)];exact q
     ·rw[bY (c9 q na3)];exact q
   have UX:a_ X pins σ (eY H3 bX (.lst ys)) s4:=I.call' (ch:=fp) J4.os u hok J4.bare λb hb=>⟨(f2 b hb).2.2.2.1,(f2 b hb).2.1,(f2 b hb).2.2.2.2.1,(f2 b hb).2.2.2.2.2⟩;have WH:∃m,s4.heap.Ns C m:=by obtain⟨m,hn,_⟩:=J4.loc;exact⟨m,hn⟩
   exact hR bX C ys H3 s4 UX WH (I.fpOk (by rw[hAg];exact L5) (by rw[bY (Ne.symm Tj)];exact J4.free)) na3 p
  ·refine ZR (T.item (fD X scope N Y) rfl rfl rfl hc i _ s3 _ H3 (λ_ _=>False) Ip (UU fr3 PY) Kc go) (λr s4 h4=>?_) λ_ _ z=>z;obtain⟨u,hr,h4⟩:=h4;subst hr;refine ZR h4 (λ_ s5 h5=>?_) λ_ _ z=>z;obtain⟨x,H5,I5,r5,y5,st5,fr5⟩:=h5;have UJ:=I5.pinned (UU fr5 PY) (T.obj _ _ st5);refine ZR (hg _ s5 _ H5 x u _ UJ r5 (step x H5 y5)) (λ_ s6 h6=>?_) λ_ _ z=>z;obtain⟨σ6,H6,I6,q6⟩:=h6;refine ZR (ht _ s6 σ6 H6 _ I6 q6) (λb s7 h7=>?_) λ_ _ z=>z;obtain⟨H7,I7,q7⟩:=h7;have Sz:∀{H8:Hp} {σ8:St} {s8:Yv},a_ (fD X scope N Y) ([(bX,({cls:=.type "list",data:=.seq its.toArray nn}:Obj))]++uc fp s5.heap) σ8 H8 s8->
     s8.heap.get? bX=some ({cls:=.type "list",data:=.seq its.toArray nn}:Obj)/\H8 bX=none/\(∀b∈fp,H8 b=none)/\(∀b∈fp,∀o,s5.heap.get? b=some o->s8.heap.get? b=some o):=λ{H8 σ8 s8} K=>by
    have q:=K.pin (bX,({cls:=.type "list",data:=.seq its.toArray nn}:Obj)) (YM _ (ZY _ Yb));refine⟨q.1,q.2.1,λb hb=>?_,λb hb o e=>(K.pin (b,o) (YM _ (YM _ (lP hb e)))).1⟩;obtain⟨o,e,d⟩:=T.obj _ _ st5 b hb;exact (K.pin (b,o) (YM _ (YM _ (lP hb e)))).2.1
   have JU:∀{H8:Hp} {σ8:St} {s8:Yv} {pl:List (YG×Obj)},a_ (fD X scope N Y) pl σ8 H8 s8->a_ (fD X scope N Y) [] σ8 H8 s8:=λK=>K.pins_of λp hp=>absurd hp (by simp);cases b with
   |false=>
    rw[hU (by simp)] at q7;obtain⟨m',hm,w7⟩:=hNx _ _ q7;obtain⟨p1,p2,p3,p4⟩:=Sz I7;exact⟨m',hm,i+1,ys,its,H7,Sw (JU I7),T.keep _ _ _ st5 p4,p3,p2,⟨nn,p1⟩,rv3,hz3,w7⟩
   |true=>
    rw[hV rfl] at q7;refine ZR (he _ s7 σ6 H7 _ I7 q7) (λv s8 h8=>?_) λ_ _ z=>z;obtain⟨y,H8,I8,r8,q8⟩:=h8;obtain⟨m',hm,w8⟩:=hNx _ _ q8;obtain⟨p1,p2,p3,p4⟩:=Sz I8;refine wpAny_list_append_plain (items:=its.toArray) ⟨nn,p1⟩ (λh' WI sb=>?_) (by rw[Yh,←rv3.length];exact hz3);obtain⟨f0,f1,f2',f3,f4,f5⟩:=UT (H':=H8) (pl:=[]) p2 (by simp);have I9:a_ (fD X scope N Y) [] σ6 H8 {s8 with heap:=h'}:=(JU I8).turned (t':=s8.toks) (λb o hb e=>(sb.2 b hb).trans e) f0 f1 f3 f4 f5;refine⟨m',hm,i+1,ys++[y],its++[v],H8,Sw I9,T.keep _ _ _ st5 (λb hb o e=>(sb.2 b (λz=>VQ (z▸hb))).trans (p4 b hb o e)),p3,p2,?_,rv3.append (.cons r8 .nil),?_,w8⟩
    ·rw[show (its++[v]).toArray=its.toArray.push v from by simp];exact WI
    ·rw[Yc,YA];exact Dd
 exact codeAny_compStart_list (loop _) (T.self _ _ _ _ _ (T.keep _ _ _ nO (λb hb o e=>old b o e)) (loop _))
def uk {nN:ada}{N:List Str}(I:a_ X pins σ H s)(S:pE nN X.N scope N js)(n8:X.env.scope=nN) :
  ∃cl:List (Str×YG),closureFor scope X.env=pure cl/\(∀x c,cl.lookup x=some c->X.env.cells.lookup x=some c)/\∀x,(x,NameKind.free)∈scope.names->∃c,cl.lookup x=some c:=
 BX λx hx=>I.ok.has x (by
  have:=S.free x hx;rw[←n8] at this;exact this)
theorem Mf {g:tK->TG}{tt:tK->TT}{te:tK->TE}(nN:ada)(NX N:List Str)(js:List (Option Nat))(hc:X.calm=true)(hi:PI X tg iter wi)(zc:∀Y:tK,PG (fD X scope N Y) tg (g Y)/\Fo (fD X scope N Y) vK (tt Y)/\PE (fD X scope N Y) elt (te Y))(n8:X.env.scope=nN:=by rfl)(L7:X.N=NX:=by rfl)(hS:vV nN NX scope N js=true:=by decide+kernel)(hs:∀x,aah iter X.env x=pure x:=by intro _;rfl):PE X (.ListComp elt [⟨tg,iter,vK,0⟩] scope pos) (S2 wi js g tt te):=by
 intro pins s σ H Q I h;have S:pE nN X.N scope N js:=by rw[L7];exact vV.to hS
 obtain⟨cl,e1,e2,e3⟩:=uk I S n8;rw[eval_ListComp];refine wpAny_comprehension_free (use:=none) rfl hs e1 S.kind S.loc (eT (hi pins s σ H _ I h) λv s1 h1=>eT h1 λTh s2 h2=>?_);obtain⟨it,fp,tn,J,H2,e,I2,T,nO,f2,q⟩:=h2;subst e;refine uj (RR:=λbX C=>compPost (YQ X.prog X.w) X.A X.xe none (EP X pins σ Q) bX C) I2 hc T nO f2 zc S n8 e2 e3 q ?_;intro bX C ys H' s' I' ns fC na p;obtain⟨m,hn⟩:=ns;obtain⟨f0,f1,f2',f3,f4,f5⟩:=fC;exact⟨m,hn,λh' sb=>⟨.ref bX,_,I'.turned (t':=s'.toks) (λb o hb e=>(sb.2 b hb).trans e) f0 f1 f3 f4 f5,rfl,p bX na⟩⟩
theorem G1 {qs n9:Pos}{g:tK->TG}{tt:tK->TT}{te:tK->TE}(nN:ada)(NX N:List Str)(js:List (Option Nat))(hN:X.N.Nodup)(hx:X.N[i]? = some x)(hl:Gk X.env.scope x)(hc:X.calm=true)(hi:PI X tg iter wi)(zc:∀Y:tK,PG (fD X scope N Y) tg (g Y)/\Fo (fD X scope N Y) vK (tt Y)/\PE (fD X scope N Y) elt (te Y))(n8:X.env.scope=nN:=by rfl)(L7:X.N=NX:=by rfl)(hS:vV nN NX scope N js=true:=by decide+kernel)(hw:acB (.ListComp elt [⟨tg,iter,vK,0⟩] scope n9) (some (.Name x qs)) pos.line X.env=pure true:=by rfl)(hf:X.fn x=true\/X.env.scope.names.lookup x=some .local:=by first|exact .inl rfl|exact .inr rfl|assumption)(hs:∀x,aah iter X.env x=pure x:=by intro _;rfl) :
  PS X (.Assign [.Name x qs] (.ListComp elt [⟨tg,iter,vK,0⟩] scope n9) pos) (GF (S2 wi js g tt te) (zm i)):=by
 intro pins s σ H D I h;have S:pE nN X.N scope N js:=by rw[L7];exact vV.to hS
 obtain⟨cl,e1,e2,e3⟩:=uk I S n8;rw[exec_Assign_Name_used _ _ _ _ hw];refine X6 (wpAny_standAt (X6 ?_));show YE _ X.A (do let _ ←comprehension (.ListComp elt [⟨tg,iter,vK,0⟩] scope n9) scope X.env _ (newList []) false (abN iter X.env) (some (assign (.Name x qs) X.env))) _ _ s;refine X6 (ZR (wpAny_comprehension_free (use:=some (assign (.Name x qs) X.env)) (Q:=λ_ s'=>SP X pins D .next s') rfl hs e1 S.kind S.loc
  (eT (hi pins s σ H _ I h) λv s1 h1=>eT h1 λTh s2 h2=>?_)) (λ_ s' hq=>Yg (Yg hq)) λ_ _ e=>e)
 obtain⟨it,fp,tn,J,H2,e,I2,T,nO,f2,q⟩:=h2;subst e;refine uj (RR:=λbX C=>compPost (YQ X.prog X.w) X.A X.xe (some (assign (.Name x qs) X.env)) (λ_ s'=>SP X pins D .next s') bX C) I2 hc T nO f2 zc S n8 e2 e3 q ?_;intro bX C ys H' s' I' ns fC na p;obtain⟨m,hn⟩:=ns;obtain⟨f0,f1,f2',f3,f4,f5⟩:=fC;show YE _ X.A (assign (.Name x qs) X.env (.ref bX)) _ _ _;refine wpAny_assign_Name (wM I' hN hx hl (v:=.ref bX) rfl (λNC WJ WK=>?_) hf);obtain⟨a,sb,ha⟩:=WK;have aC:C≠a:=by
  rcases ha with ha|ha
  ·rw[ha];exact f1
  ·exact λz=>f4 x a ha z.symm
 refine⟨m,hn.sameBut sb aC,λh' WL=>⟨_,_,WJ.turned (t':=NC.toks) (λb o hb e=>(WL.2 b hb).trans e) f0 f1 f3 f4 f5,?_⟩⟩;exact p bX na
def Q5 (J:It)(g:TG)(tb:TS)(D:t_)(σ:St)(H1:Hp):Prop:=∃W:Nat->Nat->St->Hp->Prop,(∃m,W 0 m σ H1)/\∀i m σ H,W i m σ H->
 (J.stop i H/\D.nx σ H)\/(J.go i H/\∃N:St->Hp->Prop,(∀σ' H',N σ' H'->∃m',m'<m/\W (i+1) m' σ' H')/\∀x H',J.yld i H x H'->g x σ H' λσ2 H2=>tb {D with nx:=N,ct:=N,bk:=D.nx} σ2 H2)
def Q7 (wi:TI)(g:TG)(tb:TS):TS:=λD σ H=>wi σ H λJ H1=>Q5 J g tb D σ H1
def KL {g:TG}{tb:TS}(hp:ado (YQ X.prog X.w) X.A X.env X.xe)(hc:X.calm=true)(hi:PI X tg iter wi)(hg:PG X tg g)(hb:wN X body tb)(hs:∀x,aah iter X.env x=pure x:=by intro _;rfl):PS X (.For tg iter body [] pos) (Q7 wi g tb):=Oc hp hc hi hg hb hs
end L2
namespace L2
inductive D where
 |non|bl (b:Bool)|int (i:Int)|str (x:Str)|tup (xs:List D)|lst (xs:List D)
instance:Inhabited D:=⟨.non⟩
mutual
def bZ (K:Ye)(H:Hp):D->V->Prop
 | .non,v=>v=.non
 | .bl b,v=>v=.bl b
 | .int i,v=>v=.int i
 | .str x,v=>v=.str x
 | .tup ds,v=>∃a xs,v=.ref a/\gE K H a xs/\iz K H ds xs
 | .lst ds,v=>∃a xs,v=.ref a/\fX K H a xs/\iz K H ds xs
def iz (K:Ye)(H:Hp):List D->List V->Prop
 | [],xs=>xs=[]
 |d::ds,xs=>∃x r,xs=x::r/\bZ K H d x/\iz K H ds r
end
mutual
noncomputable def iP:D->D->Bool
 | .non,.non=>true
 | .bl a,.bl b=>a==b
 | .bl a,.int b=>(if a then 1 else 0)==b
 | .int a,.bl b=>a==(if b then 1 else 0)
 | .int a,.int b=>a==b
 | .str a,.str b=>a==b
 | .tup xs,.tup ys=>k_ xs ys
 | .lst xs,.lst ys=>k_ xs ys
 |_,_=>false
noncomputable def k_:List D->List D->Bool
 | [],[]=>true
 |x::xs,y::ys=>iP x y&&k_ xs ys
 |_,_=>false
end
mutual
noncomputable def cT:D->Nat
 | .tup xs=>gH xs+1
 | .lst xs=>gH xs+1
 |_=>0
noncomputable def gH:List D->Nat
 | []=>0
 |x::xs=>max (cT x) (gH xs)
end
theorem iz.length {K:Ye}{H:Hp}:∀{ds:List D} {xs:List V},iz K H ds xs->ds.length=xs.length
 | [],_,h=>by unfold iz at h;subst h;rfl
 |d::ds,_,h=>by
  unfold iz at h;obtain⟨x,r,rfl,_,q⟩:=h;rw[X_,X_,iz.length q]
theorem iz.get {K:Ye}{H:Hp}:∀{ds:List D} {xs:List V} {i:Nat} {d:D} {x:V},iz K H ds xs->ds[i]? = some d->xs[i]? = some x->bZ K H d x
 | [],_,_,_,_,_,e,_=>by simp at e
 |d::ds,_,i,d',x',h,e1,e2=>by
  unfold iz at h;obtain⟨x,r,rfl,p,q⟩:=h;cases i with
  |zero=>simp at e1 e2;subst e1 e2;exact p
  |succ i=>exact iz.get q (by simpa using e1) (by simpa using e2)
theorem lh:∀{ds:List D} {i:Nat} {d:D},ds[i]? = some d->cT d<=gH ds
 | [],_,_,e=>by simp at e
 |d::ds,i,d',e=>by
  unfold gH;cases i with
  |zero=>simp at e;subst e;exact Nat.le_max_left _ _
  |succ i=>exact Zj (lh (ds:=ds) (by simpa using e)) (Nat.le_max_right _ _)
noncomputable def iX (xs ys:List D)(j:Nat):Bool:=match xs[j]?,ys[j]? with
 |some a,some b=>iP a b
 |_,_=>true
theorem lj:∀(xs ys:List D),((YS (min xs.length ys.length)).all (iX xs ys)&&xs.length==ys.length)=k_ xs ys
 | [],[]=>by simp[k_]
 | [],_::_=>by simp[k_]
 |_::_,[]=>by simp[k_]
 |x::xs,y::ys=>by
  have ih:=lj xs ys;unfold k_;rw[←ih,X_,X_,Nat.add_min_add_right,List.range_succ_eq_map,ZU,acW];have e0:iX (x::xs) (y::ys) 0=iP x y:=rfl;have e1:(iX (x::xs) (y::ys)∘Nat.succ)=iX xs ys:=by funext j;simp[iX,Function.comp]
  rw[e0,e1,Bool.and_assoc];congr 1;congr 1;rw[aap];simp
def zx {xs ys:List D}(h:xs.length≠ys.length):k_ xs ys=false:=by
 rw[←lj,show (xs.length==ys.length)=false from by simpa using h,Zy]
mutual
theorem zy:∀d:D,iP d d=true
 | .non=>rfl
 | .bl b=>by unfold iP;simp
 | .int b=>by unfold iP;simp
 | .str b=>by unfold iP;simp
 | .tup xs=>by unfold iP;exact qF xs
 | .lst xs=>by unfold iP;exact qF xs
theorem qF:∀ds:List D,k_ ds ds=true
 | []=>rfl
 |d::ds=>by unfold k_;rw[zy d,qF ds];rfl
end
theorem Q8 {ys:List V}(I:a_ X pins σ H s)(h:fX X.K H a xs)(h':gE X.K H a ys):False:=by
 obtain⟨its,_,p,_⟩:=I.list h;obtain⟨its',_,q,_⟩:=I.tuple h';exact absurd rfl (SeqAt.ne_of_list_tuple p.isList q)
theorem zz (I:a_ X pins σ H s):∀n d1 d2 x,cT d1<=n->bZ X.K H d1 x->bZ X.K H d2 x->iP d1 d2=true:=by
 have lists:∀n,(∀d1 d2 x,cT d1<=n->bZ X.K H d1 x->bZ X.K H d2 x->iP d1 d2=true)->∀(ds es:List D) (xs:List V),gH ds<=n->iz X.K H ds xs->iz X.K H es xs->k_ ds es=true:=by
  intro n ih ds
  induction ds with
  |nil=>
   intro es xs _ h1 h2;unfold iz at h1;subst h1;cases es with
   |nil=>rfl
   |cons e es=>unfold iz at h2;obtain⟨x,r,e',_⟩:=h2;cases e'
  |cons d ds ihd=>
   intro es xs hd h1 h2;unfold iz at h1;obtain⟨x,r,rfl,p,q⟩:=h1;cases es with
   |nil=>unfold iz at h2;cases h2
   |cons e es=>
    unfold iz at h2;obtain⟨x',r',e',p',q'⟩:=h2;cases e';unfold gH at hd;unfold k_;rw[ih d e x (Zj (Nat.le_max_left _ _) hd) p p',ihd es r (Zj (Nat.le_max_right _ _) hd) q q'];rfl
 intro n
 induction n with
 |zero=>
  intro d1 d2 x hd h1 h2;have fl:∀d,bZ X.K H d x->(∃a,x=.ref a)\/(d=.non/\x=.non)\/(∃b,d=.bl b/\x=.bl b)\/(∃b,d=.int b/\x=.int b)\/∃b,d=.str b/\x=.str b:=λd h=>by
   cases d with
   |non=>unfold bZ at h;exact .inr (.inl ⟨rfl,h⟩)
   |bl b=>unfold bZ at h;exact .inr (.inr (.inl ⟨b,rfl,h⟩))
   |int b=>unfold bZ at h;exact .inr (.inr (.inr (.inl ⟨b,rfl,h⟩)))
   |str b=>unfold bZ at h;exact .inr (.inr (.inr (.inr ⟨b,rfl,h⟩)))
   |tup ds=>unfold bZ at h;obtain⟨a,_,e,_⟩:=h;exact .inl ⟨a,e⟩
   |lst ds=>unfold bZ at h;obtain⟨a,_,e,_⟩:=h;exact .inl ⟨a,e⟩
  have nr:¬∃a,x=.ref a:=λh00=>by
   obtain⟨a,e⟩:=h00;subst e;cases d1 with
   |tup ds=>unfold cT at hd;lia
   |lst ds=>unfold cT at hd;lia
   |_=>unfold bZ at h1;cases h1
  have f1:=fl d1 h1;have f2:=fl d2 h2;rcases f1 with f1|⟨rfl,rfl⟩|⟨b,rfl,rfl⟩|⟨b,rfl,rfl⟩|⟨b,rfl,rfl⟩
  ·exact absurd f1 nr
  all_goals
   rcases f2 with f2|⟨rfl,f2⟩|⟨c,rfl,f2⟩|⟨c,rfl,f2⟩|⟨c,rfl,f2⟩
   ·exact absurd f2 nr
   all_goals first|(cases f2;exact zy _)|cases f2
 |succ n ih=>
  intro d1 d2 x hd h1 h2;cases d1 with
  |tup ds=>
   unfold bZ at h1;obtain⟨a,xs,rfl,hs,hr⟩:=h1;cases d2 with
   |tup es=>
    unfold bZ at h2;obtain⟨a',xs',e,hs',hr'⟩:=h2;cases e;have:=I.tuple_inj hs hs';subst this;unfold iP;exact lists n ih ds es xs (by unfold cT at hd;lia) hr hr'
   |lst es=>
    unfold bZ at h2;obtain⟨a',xs',e,hs',hr'⟩:=h2;cases e;exact (Q8 I hs' hs).elim
   |_=>unfold bZ at h2;cases h2
  |lst ds=>
   unfold bZ at h1;obtain⟨a,xs,rfl,hs,hr⟩:=h1;cases d2 with
   |lst es=>
    unfold bZ at h2;obtain⟨a',xs',e,hs',hr'⟩:=h2;cases e;have:=I.list_inj hs hs';subst this;unfold iP;exact lists n ih ds es xs (by unfold cT at hd;lia) hr hr'
   |tup es=>
    unfold bZ at h2;obtain⟨a',xs',e,hs',hr'⟩:=h2;cases e;exact (Q8 I hs hs').elim
   |_=>unfold bZ at h2;cases h2
  |_=>exact ih _ d2 x (by unfold cT;exact aak _) h1 h2
theorem BY (I:a_ X pins σ H s):∀(n:Nat) (d1 d2:D) (x y:V) (u v:Yj) (A:Zk),cT d1<=n->A.units+n<abg->bZ X.K H d1 x->bZ X.K H d2 y->cK x u->cK y v->ab6 A s u v (iP d1 d2):=by
 intro n
 induction n with
 |zero=>
  intro d1 d2 x y u v A hd hu h1 h2 r1 r2;have kL:A.units<abg:=by lia
  cases d1 with
  |non=>
   unfold bZ at h1;subst h1;cases r1;cases d2 with
   |non=>
    unfold bZ at h2;subst h2;cases r2;exact SeqAt.EqAt.same _
   |bl b2=>
    unfold bZ at h2;subst h2;cases r2;exact SeqAt.EqAt.none_bool b2
   |int b2=>
    unfold bZ at h2;subst h2;obtain⟨t2,rfl⟩:=r2;exact SeqAt.EqAt.none_int b2 t2
   |str b2=>
    unfold bZ at h2;subst h2;obtain⟨t2,rfl⟩:=r2;exact SeqAt.EqAt.none_str b2 t2
   |tup b2=>
    unfold bZ at h2;obtain⟨a2,xs2,rfl,dG,jn⟩:=h2;cases r2;obtain⟨its2,rv2,p2,tG⟩:=I.tuple dG;exact SeqAt.EqAt.none_tuple p2 kL
   |lst b2=>
    unfold bZ at h2;obtain⟨a2,xs2,rfl,dG,jn⟩:=h2;cases r2;obtain⟨its2,rv2,p2,tG⟩:=I.list dG;exact SeqAt.EqAt.none_list p2.isList kL
  |bl b1=>
   unfold bZ at h1;subst h1;cases r1;cases d2 with
   |non=>
    unfold bZ at h2;subst h2;cases r2;exact SeqAt.EqAt.bool_none b1
   |bl b2=>
    unfold bZ at h2;subst h2;cases r2;exact SeqAt.EqAt.bool_bool b1 b2
   |int b2=>
    unfold bZ at h2;subst h2;obtain⟨t2,rfl⟩:=r2;exact SeqAt.EqAt.bool_int b1 b2 t2
   |str b2=>
    unfold bZ at h2;subst h2;obtain⟨t2,rfl⟩:=r2;exact SeqAt.EqAt.bool_str b1 b2 t2
   |tup b2=>
    unfold bZ at h2;obtain⟨a2,xs2,rfl,dG,jn⟩:=h2;cases r2;obtain⟨its2,rv2,p2,tG⟩:=I.tuple dG;exact SeqAt.EqAt.bool_tuple b1 p2 kL
   |lst b2=>
    unfold bZ at h2;obtain⟨a2,xs2,rfl,dG,jn⟩:=h2;cases r2;obtain⟨its2,rv2,p2,tG⟩:=I.list dG;exact SeqAt.EqAt.bool_list b1 p2.isList kL
  |int b1=>
   unfold bZ at h1;subst h1;obtain⟨t1,rfl⟩:=r1;cases d2 with
   |non=>
    unfold bZ at h2;subst h2;cases r2;exact SeqAt.EqAt.int_none b1 t1
   |bl b2=>
    unfold bZ at h2;subst h2;cases r2;exact SeqAt.EqAt.int_bool b1 t1 b2
   |int b2=>
    unfold bZ at h2;subst h2;obtain⟨t2,rfl⟩:=r2;exact SeqAt.EqAt.int_int b1 t1 b2 t2
   |str b2=>
    unfold bZ at h2;subst h2;obtain⟨t2,rfl⟩:=r2;exact SeqAt.EqAt.int_str b1 t1 b2 t2
   |tup b2=>
    unfold bZ at h2;obtain⟨a2,xs2,rfl,dG,jn⟩:=h2;cases r2;obtain⟨its2,rv2,p2,tG⟩:=I.tuple dG;exact SeqAt.EqAt.int_tuple b1 t1 p2 kL
   |lst b2=>
    unfold bZ at h2;obtain⟨a2,xs2,rfl,dG,jn⟩:=h2;cases r2;obtain⟨its2,rv2,p2,tG⟩:=I.list dG;exact SeqAt.EqAt.int_list b1 t1 p2.isList kL
  |str b1=>
   unfold bZ at h1;subst h1;obtain⟨t1,rfl⟩:=r1;cases d2 with
   |non=>
    unfold bZ at h2;subst h2;cases r2;exact SeqAt.EqAt.str_none b1 t1
   |bl b2=>
    unfold bZ at h2;subst h2;cases r2;exact SeqAt.EqAt.str_bool b1 t1 b2
   |int b2=>
    unfold bZ at h2;subst h2;obtain⟨t2,rfl⟩:=r2;exact SeqAt.EqAt.str_int b1 t1 b2 t2
   |str b2=>
    unfold bZ at h2;subst h2;obtain⟨t2,rfl⟩:=r2;exact SeqAt.EqAt.str_str b1 t1 b2 t2
   |tup b2=>
    unfold bZ at h2;obtain⟨a2,xs2,rfl,dG,jn⟩:=h2;cases r2;obtain⟨its2,rv2,p2,tG⟩:=I.tuple dG;exact SeqAt.EqAt.str_tuple b1 t1 p2 kL
   |lst b2=>
    unfold bZ at h2;obtain⟨a2,xs2,rfl,dG,jn⟩:=h2;cases r2;obtain⟨its2,rv2,p2,tG⟩:=I.list dG;exact SeqAt.EqAt.str_list b1 t1 p2.isList kL
  |tup ds=>unfold cT at hd;lia
  |lst ds=>unfold cT at hd;lia
 |succ n ih=>
  intro d1 d2 x y u v A hd hu h1 h2 r1 r2;have kL:A.units<abg:=by lia
  cases d1 with
  |tup ds=>
   unfold bZ at h1;obtain⟨a1,xs1,rfl,kg,hr1⟩:=h1;cases r1;obtain⟨its1,rv1,p1,hz1⟩:=I.tuple kg;cases d2 with
   |non=>
    unfold bZ at h2;subst h2;cases r2;exact SeqAt.EqAt.tuple_none p1 kL
   |bl b2=>
    unfold bZ at h2;subst h2;cases r2;exact SeqAt.EqAt.tuple_bool b2 p1 kL
   |int b2=>
    unfold bZ at h2;subst h2;obtain⟨t2,rfl⟩:=r2;exact SeqAt.EqAt.tuple_int b2 t2 p1 kL
   |str b2=>
    unfold bZ at h2;subst h2;obtain⟨t2,rfl⟩:=r2;exact SeqAt.EqAt.tuple_str b2 t2 p1 kL
   |tup es=>
    unfold bZ at h2;obtain⟨a2,xs2,rfl,dG,jn⟩:=h2;cases r2;obtain⟨its2,rv2,p2,tG⟩:=I.tuple dG;by_cases BA:a1=a2
    ·subst BA;rw[zz I (n+1) (.tup ds) (.tup es) (.ref a1) hd (by unfold bZ;exact⟨a1,xs1,rfl,kg,hr1⟩) (by unfold bZ;exact⟨a1,xs2,rfl,dG,jn⟩)];exact SeqAt.EqAt.same _
    ·refine SeqAt.EqAt.of_refs BA ?_;have l1:its1.toArray.size=ds.length:=by rw[Yh,←rv1.length,hr1.length]
     have l2:its2.toArray.size=es.length:=by rw[Yh,←rv2.length,jn.length]
     have k1:xs1.length=ds.length:=hr1.length.symm;have k2:xs2.length=es.length:=jn.length.symm;have he:∀j (h1:j<its1.toArray.size) (h2:j<its2.toArray.size),ab6 A.in1 s its1.toArray[j] its2.toArray[j] (iX ds es j):=λj g1 g2=>by
      have q1:ds[j]? = some ds[j]:=X7 (by lia);have q2:es[j]? = some es[j]:=X7 (by lia);have e1:xs1[j]? = some xs1[j]:=X7 (by lia);have e2:xs2[j]? = some xs2[j]:=X7 (by lia);obtain⟨u1,z1,w1⟩:=rv1.get e1;obtain⟨u2,z2,w2⟩:=rv2.get e2;have y1:its1.toArray[j]=u1:=by
       have:=Yr.mp z1;obtain⟨_,q⟩:=this;simpa using q
      have y2:its2.toArray[j]=u2:=by
       have:=Yr.mp z2;obtain⟨_,q⟩:=this;simpa using q
      rw[y1,y2];have:iX ds es j=iP ds[j] es[j]:=by unfold iX;rw[q1,q2]
      rw[this];refine ih ds[j] es[j] xs1[j] xs2[j] u1 u2 A.in1 ?_ (by show A.units+1+n<abg;lia) (hr1.get q1 e1) (jn.get q2 e2) w1 w2;have:=lh q1;unfold cT at hd;lia
     have q:=SeqAt.RcAt.tuples (A:=A) p1 p2 kL he;rw[l1,l2,lj] at q;unfold iP;exact q
   |lst es=>
    unfold bZ at h2;obtain⟨a2,xs2,rfl,dG,jn⟩:=h2;cases r2;obtain⟨its2,rv2,p2,tG⟩:=I.list dG;exact SeqAt.EqAt.tuple_list p1 p2.isList kL
  |lst ds=>
   unfold bZ at h1;obtain⟨a1,xs1,rfl,kg,hr1⟩:=h1;cases r1;obtain⟨its1,rv1,p1,hz1⟩:=I.list kg;cases d2 with
   |non=>
    unfold bZ at h2;subst h2;cases r2;exact SeqAt.EqAt.list_none p1.isList kL
   |bl b2=>
    unfold bZ at h2;subst h2;cases r2;exact SeqAt.EqAt.list_bool b2 p1.isList kL
   |int b2=>
    unfold bZ at h2;subst h2;obtain⟨t2,rfl⟩:=r2;exact SeqAt.EqAt.list_int b2 t2 p1.isList kL
   |str b2=>
    unfold bZ at h2;subst h2;obtain⟨t2,rfl⟩:=r2;exact SeqAt.EqAt.list_str b2 t2 p1.isList kL
   |tup es=>
    unfold bZ at h2;obtain⟨a2,xs2,rfl,dG,jn⟩:=h2;cases r2;obtain⟨its2,rv2,p2,tG⟩:=I.tuple dG;exact SeqAt.EqAt.list_tuple p1.isList p2 kL
   |lst es=>
    unfold bZ at h2;obtain⟨a2,xs2,rfl,dG,jn⟩:=h2;cases r2;obtain⟨its2,rv2,p2,tG⟩:=I.list dG;by_cases BA:a1=a2
    ·subst BA;rw[zz I (n+1) (.lst ds) (.lst es) (.ref a1) hd (by unfold bZ;exact⟨a1,xs1,rfl,kg,hr1⟩) (by unfold bZ;exact⟨a1,xs2,rfl,dG,jn⟩)];exact SeqAt.EqAt.same _
    ·refine SeqAt.EqAt.of_refs BA ?_;have l1:its1.toArray.size=ds.length:=by rw[Yh,←rv1.length,hr1.length]
     have l2:its2.toArray.size=es.length:=by rw[Yh,←rv2.length,jn.length]
     have k1:xs1.length=ds.length:=hr1.length.symm;have k2:xs2.length=es.length:=jn.length.symm;have he:∀j (h1:j<its1.toArray.size) (h2:j<its2.toArray.size),ab6 A.in1 s its1.toArray[j] its2.toArray[j] (iX ds es j):=λj g1 g2=>by
      have q1:ds[j]? = some ds[j]:=X7 (by lia);have q2:es[j]? = some es[j]:=X7 (by lia);have e1:xs1[j]? = some xs1[j]:=X7 (by lia);have e2:xs2[j]? = some xs2[j]:=X7 (by lia);obtain⟨u1,z1,w1⟩:=rv1.get e1;obtain⟨u2,z2,w2⟩:=rv2.get e2;have y1:its1.toArray[j]=u1:=by
       have:=Yr.mp z1;obtain⟨_,q⟩:=this;simpa using q
      have y2:its2.toArray[j]=u2:=by
       have:=Yr.mp z2;obtain⟨_,q⟩:=this;simpa using q
      rw[y1,y2];have:iX ds es j=iP ds[j] es[j]:=by unfold iX;rw[q1,q2]
      rw[this];refine ih ds[j] es[j] xs1[j] xs2[j] u1 u2 A.in1 ?_ (by show A.units+1+n<abg;lia) (hr1.get q1 e1) (jn.get q2 e2) w1 w2;have:=lh q1;unfold cT at hd;lia
     unfold iP;by_cases hl:ds.length=es.length
     ·have q:=SeqAt.RcAt.lists (A:=A) p1.isList p2.isList (by rw[l1,l2,hl]) kL he;rw[l1] at q;have z:=lj ds es;rw[hl,Nat.min_self,beq_self_eq_true,aaN] at z;rw[hl,z] at q;exact q
     ·rw[zx hl];exact adh (A:=A) p1.isList p2.isList (by rw[l1,l2];simpa using hl) kL
  |non=>exact ih _ d2 x y u v A (by unfold cT;exact aak _) (by lia) h1 h2 r1 r2
  |bl b1=>exact ih _ d2 x y u v A (by unfold cT;exact aak _) (by lia) h1 h2 r1 r2
  |int b1=>exact ih _ d2 x y u v A (by unfold cT;exact aak _) (by lia) h1 h2 r1 r2
  |str b1=>exact ih _ d2 x y u v A (by unfold cT;exact aak _) (by lia) h1 h2 r1 r2
theorem Ow (I:a_ X pins σ H s)(n:Nat)(d1 d2:D)(x y:V)(u v:Yj)(A:Zk)(hd:cT d1<=n)(hu:A.units+n<abg)(h1:bZ X.K H d1 x)(h2:bZ X.K H d2 y)(r1:cK x u)(r2:cK y v):SeqAt.RcAt A s u v (iP d1 d2):=by
  have kL:A.units<abg:=by lia
  cases d1 with
  |non=>
   unfold bZ at h1;subst h1;cases r1;cases d2 with
   |non=>
    unfold bZ at h2;subst h2;cases r2;exact SeqAt.RcAt.none_none
   |bl b2=>
    unfold bZ at h2;subst h2;cases r2;exact SeqAt.RcAt.none_bool b2
   |int b2=>
    unfold bZ at h2;subst h2;obtain⟨t2,rfl⟩:=r2;exact SeqAt.RcAt.none_int b2 t2
   |str b2=>
    unfold bZ at h2;subst h2;obtain⟨t2,rfl⟩:=r2;exact SeqAt.RcAt.none_str b2 t2
   |tup es=>
    unfold bZ at h2;obtain⟨a2,xs2,rfl,dG,jn⟩:=h2;cases r2;obtain⟨its2,rv2,p2,tG⟩:=I.tuple dG;exact SeqAt.RcAt.none_tuple p2 kL
   |lst es=>
    unfold bZ at h2;obtain⟨a2,xs2,rfl,dG,jn⟩:=h2;cases r2;obtain⟨its2,rv2,p2,tG⟩:=I.list dG;exact SeqAt.RcAt.none_list p2.isList kL
  |bl b1=>
   unfold bZ at h1;subst h1;cases r1;cases d2 with
   |non=>
    unfold bZ at h2;subst h2;cases r2;exact SeqAt.RcAt.bool_none b1
   |bl b2=>
    unfold bZ at h2;subst h2;cases r2;exact SeqAt.RcAt.bool_bool b1 b2
   |int b2=>
    unfold bZ at h2;subst h2;obtain⟨t2,rfl⟩:=r2;exact SeqAt.RcAt.bool_int b1 b2 t2
   |str b2=>
    unfold bZ at h2;subst h2;obtain⟨t2,rfl⟩:=r2;exact SeqAt.RcAt.bool_str b1 b2 t2
   |tup es=>
    unfold bZ at h2;obtain⟨a2,xs2,rfl,dG,jn⟩:=h2;cases r2;obtain⟨its2,rv2,p2,tG⟩:=I.tuple dG;exact SeqAt.RcAt.bool_tuple b1 p2 kL
   |lst es=>
    unfold bZ at h2;obtain⟨a2,xs2,rfl,dG,jn⟩:=h2;cases r2;obtain⟨its2,rv2,p2,tG⟩:=I.list dG;exact SeqAt.RcAt.bool_list b1 p2.isList kL
  |int b1=>
   unfold bZ at h1;subst h1;obtain⟨t1,rfl⟩:=r1;cases d2 with
   |non=>
    unfold bZ at h2;subst h2;cases r2;exact SeqAt.RcAt.int_none b1 t1
   |bl b2=>
    unfold bZ at h2;subst h2;cases r2;exact SeqAt.RcAt.int_bool b1 t1 b2
   |int b2=>
    unfold bZ at h2;subst h2;obtain⟨t2,rfl⟩:=r2;exact SeqAt.RcAt.int_int b1 t1 b2 t2
   |str b2=>
    unfold bZ at h2;subst h2;obtain⟨t2,rfl⟩:=r2;exact SeqAt.RcAt.int_str b1 t1 b2 t2
   |tup es=>
    unfold bZ at h2;obtain⟨a2,xs2,rfl,dG,jn⟩:=h2;cases r2;obtain⟨its2,rv2,p2,tG⟩:=I.tuple dG;exact SeqAt.RcAt.int_tuple b1 t1 p2 kL
   |lst es=>
    unfold bZ at h2;obtain⟨a2,xs2,rfl,dG,jn⟩:=h2;cases r2;obtain⟨its2,rv2,p2,tG⟩:=I.list dG;exact SeqAt.RcAt.int_list b1 t1 p2.isList kL
  |str b1=>
   unfold bZ at h1;subst h1;obtain⟨t1,rfl⟩:=r1;cases d2 with
   |non=>
    unfold bZ at h2;subst h2;cases r2;exact SeqAt.RcAt.str_none b1 t1
   |bl b2=>
    unfold bZ at h2;subst h2;cases r2;exact SeqAt.RcAt.str_bool b1 t1 b2
   |int b2=>
    unfold bZ at h2;subst h2;obtain⟨t2,rfl⟩:=r2;exact SeqAt.RcAt.str_int b1 t1 b2 t2
   |str b2=>
    unfold bZ at h2;subst h2;obtain⟨t2,rfl⟩:=r2;exact SeqAt.RcAt.str_str b1 t1 b2 t2
   |tup es=>
    unfold bZ at h2;obtain⟨a2,xs2,rfl,dG,jn⟩:=h2;cases r2;obtain⟨its2,rv2,p2,tG⟩:=I.tuple dG;exact SeqAt.RcAt.str_tuple b1 t1 p2 kL
   |lst es=>
    unfold bZ at h2;obtain⟨a2,xs2,rfl,dG,jn⟩:=h2;cases r2;obtain⟨its2,rv2,p2,tG⟩:=I.list dG;exact SeqAt.RcAt.str_list b1 t1 p2.isList kL
  |tup ds=>
   unfold bZ at h1;obtain⟨a1,xs1,rfl,kg,hr1⟩:=h1;cases r1;obtain⟨its1,rv1,p1,hz1⟩:=I.tuple kg;cases d2 with
   |non=>
    unfold bZ at h2;subst h2;cases r2;exact SeqAt.RcAt.tuple_none p1 kL
   |bl b2=>
    unfold bZ at h2;subst h2;cases r2;exact SeqAt.RcAt.tuple_bool b2 p1 kL
   |int b2=>
    unfold bZ at h2;subst h2;obtain⟨t2,rfl⟩:=r2;exact SeqAt.RcAt.tuple_int b2 t2 p1 kL
   |str b2=>
    unfold bZ at h2;subst h2;obtain⟨t2,rfl⟩:=r2;exact SeqAt.RcAt.tuple_str b2 t2 p1 kL
   |tup es=>
    unfold bZ at h2;obtain⟨a2,xs2,rfl,dG,jn⟩:=h2;cases r2;obtain⟨its2,rv2,p2,tG⟩:=I.tuple dG;have l1:its1.toArray.size=ds.length:=by rw[Yh,←rv1.length,hr1.length]
    have l2:its2.toArray.size=es.length:=by rw[Yh,←rv2.length,jn.length]
    have k1:xs1.length=ds.length:=hr1.length.symm;have k2:xs2.length=es.length:=jn.length.symm;have he:∀j (h1:j<its1.toArray.size) (h2:j<its2.toArray.size),ab6 A.in1 s its1.toArray[j] its2.toArray[j] (iX ds es j):=λj g1 g2=>by
     have q1:ds[j]? = some ds[j]:=X7 (by lia);have q2:es[j]? = some es[j]:=X7 (by lia);have e1:xs1[j]? = some xs1[j]:=X7 (by lia);have e2:xs2[j]? = some xs2[j]:=X7 (by lia);obtain⟨u1,z1,w1⟩:=rv1.get e1;obtain⟨u2,z2,w2⟩:=rv2.get e2;have y1:its1.toArray[j]=u1:=by
      obtain⟨_,q⟩:=Yr.mp z1;simpa using q
     have y2:its2.toArray[j]=u2:=by
      obtain⟨_,q⟩:=Yr.mp z2;simpa using q
     rw[y1,y2];have:iX ds es j=iP ds[j] es[j]:=by unfold iX;rw[q1,q2]
     rw[this];have dl:=lh q1;unfold cT at hd;exact BY I (n-1) ds[j] es[j] xs1[j] xs2[j] u1 u2 A.in1 (by lia) (by show A.units+1+(n-1)<abg;lia) (hr1.get q1 e1) (jn.get q2 e2) w1 w2
    have q:=SeqAt.RcAt.tuples (A:=A) p1 p2 kL he;rw[l1,l2,lj] at q;unfold iP;exact q
   |lst es=>
    unfold bZ at h2;obtain⟨a2,xs2,rfl,dG,jn⟩:=h2;cases r2;obtain⟨its2,rv2,p2,tG⟩:=I.list dG;exact SeqAt.RcAt.tuple_list p1 p2.isList kL
  |lst ds=>
   unfold bZ at h1;obtain⟨a1,xs1,rfl,kg,hr1⟩:=h1;cases r1;obtain⟨its1,rv1,p1,hz1⟩:=I.list kg;cases d2 with
   |non=>
    unfold bZ at h2;subst h2;cases r2;exact SeqAt.RcAt.list_none p1.isList kL
   |bl b2=>
    unfold bZ at h2;subst h2;cases r2;exact SeqAt.RcAt.list_bool b2 p1.isList kL
   |int b2=>
    unfold bZ at h2;subst h2;obtain⟨t2,rfl⟩:=r2;exact SeqAt.RcAt.list_int b2 t2 p1.isList kL
   |str b2=>
    unfold bZ at h2;subst h2;obtain⟨t2,rfl⟩:=r2;exact SeqAt.RcAt.list_str b2 t2 p1.isList kL
   |tup es=>
    unfold bZ at h2;obtain⟨a2,xs2,rfl,dG,jn⟩:=h2;cases r2;obtain⟨its2,rv2,p2,tG⟩:=I.tuple dG;exact SeqAt.RcAt.list_tuple p1.isList p2 kL
   |lst es=>
    unfold bZ at h2;obtain⟨a2,xs2,rfl,dG,jn⟩:=h2;cases r2;obtain⟨its2,rv2,p2,tG⟩:=I.list dG;have l1:its1.toArray.size=ds.length:=by rw[Yh,←rv1.length,hr1.length]
    have l2:its2.toArray.size=es.length:=by rw[Yh,←rv2.length,jn.length]
    have k1:xs1.length=ds.length:=hr1.length.symm;have k2:xs2.length=es.length:=jn.length.symm;have he:∀j (h1:j<its1.toArray.size) (h2:j<its2.toArray.size),ab6 A.in1 s its1.toArray[j] its2.toArray[j] (iX ds es j):=λj g1 g2=>by
     have q1:ds[j]? = some ds[j]:=X7 (by lia);have q2:es[j]? = some es[j]:=X7 (by lia);have e1:xs1[j]? = some xs1[j]:=X7 (by lia);have e2:xs2[j]? = some xs2[j]:=X7 (by lia);obtain⟨u1,z1,w1⟩:=rv1.get e1;obtain⟨u2,z2,w2⟩:=rv2.get e2;have y1:its1.toArray[j]=u1:=by
      obtain⟨_,q⟩:=Yr.mp z1;simpa using q
     have y2:its2.toArray[j]=u2:=by
      obtain⟨_,q⟩:=Yr.mp z2;simpa using q
     rw[y1,y2];have:iX ds es j=iP ds[j] es[j]:=by unfold iX;rw[q1,q2]
     rw[this];have dl:=lh q1;unfold cT at hd;exact BY I (n-1) ds[j] es[j] xs1[j] xs2[j] u1 u2 A.in1 (by lia) (by show A.units+1+(n-1)<abg;lia) (hr1.get q1 e1) (jn.get q2 e2) w1 w2
    unfold iP;by_cases hl:ds.length=es.length
    ·have q:=SeqAt.RcAt.lists (A:=A) p1.isList p2.isList (by rw[l1,l2,hl]) kL he;rw[l1] at q;have z:=lj ds es;rw[hl,Nat.min_self,beq_self_eq_true,aaN] at z;rw[hl,z] at q;exact q
    ·rw[zx hl];exact adh (A:=A) p1.isList p2.isList (by rw[l1,l2];simpa using hl) kL
def Q9 (K:Ye)(f:Bool->Bool):R2:=λx y H Q=>∃d1 d2,bZ K H d1 x/\bZ K H d2 y/\cT d1<=30/\Q (.bl (f (iP d1 d2))) H
theorem bO (hu:X.A.units+64<abg):jt X (Zn .Eq) (Q9 X.K id):=by
 intro pins s σ H x y v u Q I rx ry h;obtain⟨d1,d2,h1,h2,hd,q⟩:=h;exact Ow I 30 d1 d2 x y v u X.A hd (by lia) h1 h2 rx ry X.prog X.w X.xe _ ⟨.bl _,H,I,rfl,q⟩
end L2
variable {dx:L2.D}{ds:List L2.D}
namespace L2
noncomputable def kh (n m:String):Bool:=(n==m)||(n=="bool"&&m=="int")
theorem Q_ (K:Ye){n m:String}(hn:n∈["NoneType","bool","int","str","list","tuple","dict"])(hm:m∈["bool","int","str","list","tuple","dict"]) :
  PySem.W.kitOne K (.type n) (.type m)=some (kh n m):=by
 simp only[Yk,aav,or_false] at hn hm;rcases hn with rfl|rfl|rfl|rfl|rfl|rfl|rfl<;>rcases hm with rfl|rfl|rfl|rfl|rfl|rfl<;>kernel_rfl
inductive BF (K:Ye)(H:Hp):V->String->Prop where
 |non:BF K H .non "NoneType"
 |bl (x:Bool):BF K H (.bl x) "bool"
 |int (i:Int):BF K H (.int i) "int"
 |str (x:Str):BF K H (.str x) "str"
 |lst {a:YG} {xs:List V} (e:H a=some (.lst xs)):BF K H (.ref a) "list"
 |frz {a:YG} {o:Obj} {xs:List V} (e:H a=some (.frz o (.lst xs))):BF K H (.ref a) "list"
 |tup {a:YG} {xs:List V} (e:H a=some (.tup xs)):BF K H (.ref a) "tuple"
 |dK {a:YG} {kl:List (vN×V)} (e:H a=some (.dK kl)):BF K H (.ref a) "dict"
 |dT {a:YG} {kl:List (List vN×V)} (e:H a=some (.dT kl)):BF K H (.ref a) "dict"
theorem BF.mem {x:V}{n:String}(h:BF K H x n):n∈["NoneType","bool","int","str","list","tuple","dict"]:=by
 cases h<;>simp
theorem BF.ty {x:V}{n:String}(h:BF K H x n):qB K H x (.type n):=by
 cases h with
 |non=>exact .non
 |bl=>exact .bl _
 |int=>exact .int _
 |str=>exact .str _
 |lst e=>exact .lst e
 |frz e=>exact .frz e
 |tup e=>exact .tup e
 |dK e=>exact .dK e
 |dT e=>exact .dT e
theorem zA {m:String}(hm:m∈["bool","int","str","list","tuple","dict"]):eZ X (.builtin "isinstance") (λxs H Q=>∃x n,xs=[x,.ty m]/\BF X.K H x n/\Q (.bl (kh n m)) H):=by
 intro pins s σ H xs us Q I r h;obtain⟨x,n,rfl,ty,q⟩:=h;obtain⟨u,w',rfl,rx,rt⟩:=GN r;cases rt;exact Fi I rx ty.ty (Q_ X.K ty.mem hm) λtk=>⟨.bl _,H,I.tok tk,rfl,q⟩
theorem rK:eZ X (.type "range") (λxs H Q=>∃j,xs=[.int j]/\∀p,H p=none->Q (.ref p) (eY H p (.rng 0 j))):=by
 intro pins s σ H xs us Q I r h;obtain⟨j,rfl,q⟩:=h;obtain⟨u,rfl,rx⟩:=iW r;obtain⟨t,rfl⟩:=rx;refine call_range_1 ⟨.ref s.heap.objs.size,eY H s.heap.objs.size (.rng 0 j),I.laid (λb u e=>X9 _ e) (Yl _) ?_,rfl,q _ (I.hok.fresh (Yl _))⟩;exact⟨_,_,_,Ym _ rfl⟩
theorem um {a:Int}{bX:Array Yj}(h:ItemsOf (λi v=>∃t,v=Value.int (a+i*1) t) bX n):bC ((YS n).map λi=>V.int (a+(i:Nat))) bX.toList:=by
 obtain⟨hs,hi⟩:=h;have gen:∀(l:List Yj) (k:Nat),(∀(i:Nat) v,l[i]? = some v->∃t,v=Value.int (a+((k+i:Nat):Int)*1) t)->bC ((List.range' k l.length).map λi=>V.int (a+(i:Nat))) l:=by
  intro l
  induction l with
  |nil=>intro k _;exact .nil
  |cons v r ih=>
   intro k hk;rw[X_,List.range'_succ,Yp];refine .cons ?_ (ih (k+1) λi v e=>?_)
   ·obtain⟨t,e⟩:=hk 0 v rfl;exact⟨t,by rw[e];simp⟩
   ·obtain⟨t,e'⟩:=hk (i+1) v (by simpa using e);refine⟨t,?_⟩;rw[e',show k+(i+1)=k+1+i by lia]
 have q:=gen bX.toList 0 (λi v e=>by
  obtain⟨t,e'⟩:=hi i v (by simpa using e);exact⟨t,by rw[e',aaA]⟩)
 rw[Yi,hs] at q;rw[List.range_eq_range'];exact q
theorem vW (hc:X.calm=true):eZ X (.type "list") (λxs H Q=>∃p lo hi,xs=[.ref p]/\H p=some (.rng lo hi)/\(-(2 ^ 62)<=lo/\lo<2 ^ 62/\ -(2 ^ 62)<=hi/\hi<2 ^ 62)/\(hi-lo).toNat<=2 ^ 20/\
  ∀l,H l=none->Q (.ref l) (eY H l (.lst ((YS (hi-lo).toNat).map λi=>V.int (lo+(i:Nat)))))):=by
 intro pins s σ H xs us Q I r h;obtain⟨p,lo,hi,rfl,hp,⟨h1,h2,h3,h4⟩,hz,q⟩:=h;obtain⟨u,rfl,rx⟩:=iW r;cases rx;obtain⟨t,u,v,e⟩:=I.hok p _ hp;refine call_list_range (n:=(hi-lo).toNat) (I.ok.hd hc) (c:=1) (show IsRange s.heap p lo hi 1 t u v from e) (small_one h1 h2 h3 h4) (by rw[rangeSize_one];split<;>lia) (by lia) λh' tk PZ c' hk J9 tx=>?_;have hl:((YS (hi-lo).toNat).map λi=>V.int (lo+(i:Nat))).length<=Yf:=by
  rw[X8,Zh,aau];lia
 refine⟨.ref s.heap.objs.size,_,I.laid hk (Yl _) (show eJ X.prog X.w _ _ _ (.lst _) from ⟨hl,PZ.toList,c',um tx,by simpa using J9⟩),rfl,q _ (I.hok.fresh (Yl _))⟩
def G2 (i j:Int):Prop:=0<j/\j<18446744073709551616
theorem BZ (h:n<18446744073709551616):n.log2<9000:=by
 by_cases h0:n=0
 ·subst h0;decide
 ·have:=(Nat.log2_lt h0 (k:=64)).mpr (by lia);lia
theorem qG:jt X (aa3 .FloorDiv) (rI G2 λi j=>.int (i / j)):=S1 λi j _ _ _ _ _ hc q=>by
 refine floordiv_int (by have:=hc.1;lia) ?_ (.inl (PyProof.noPylong_of_log2 (BZ (by have:=hc.1;have:=hc.2;lia))));rw[Int.fdiv_eq_ediv_of_nonneg _ (by have:=hc.1;lia)];exact q
def xU:Zg "list"=some (.type "list"):=by decide+kernel
def bE:Zg "tuple"=some (.type "tuple"):=by decide+kernel
def B0:Zg "int"=some (.type "int"):=by decide+kernel
def xV:Zg "bool"=some (.type "bool"):=by decide+kernel
def Ox:Zg "str"=some (.type "str"):=by decide+kernel
def zB:Zg "range"=some (.type "range"):=by decide+kernel
def bH:Zg "len"=some (.builtin "len"):=by decide+kernel
def G3:Zg "max"=some (.builtin "max"):=by decide+kernel
def G4:Zg "min"=some (.builtin "min"):=by decide+kernel
def vX:Zg "isinstance"=some (.builtin "isinstance"):=by decide+kernel
def qH:Zg "sorted"=some (.builtin "sorted"):=by decide+kernel
def kM:Zg "all"=some (.builtin "all"):=by decide+kernel
def B3:Zg "sum"=some (.builtin "sum"):=by decide+kernel
end L2
namespace HT
open L2
section
variable {A:Zk}
theorem getItem_tuple_whole {t sl:YG}{vl vu:Yj}{lo hi:Option Int}(ht:IsTup s.heap t items)(hs:s.heap.IsSliceOf sl vl vu .none)(pl:IsPart vl lo)(pu:IsPart vu hi)(hw:sIx items.size 0 lo=0/\sIx items.size items.size hi=items.size)(h:Q (.ref t) s):YE (YQ prog w) A (getItem (.ref t) (.ref sl)) Q E s:=by
 obtain⟨os,Ke,hcs,hds⟩:=id hs;have UL:s.TypeIs (.ref sl) "slice":=⟨os,Ke,hcs⟩;unfold getItem
 try with_reducible refine Z6 ?_
 first|refine X6 (Yg ?_)|skip
 refine X6 (wpAny_sequenceKey ht.typeIs (by decide) ?_);refine X6 (ZD (name:=Yq "__getitem__") ht.typeIs aaj
  (ZG aaj ht.typeIs entry_tuple_getitem ?_ (args_tuple_getitem _ _)))
 show YE _ _ (acM (.ref t) >>= _) _ _ s;refine X6 (tupleItemsOf_ ht ?_);refine X6 (acm UL ?_);rw[hV (by decide)];refine X6 (k9 hs pl pu ?_);obtain⟨w1,w2⟩:=hw;rw[w1,w2];show YE _ _ (if (((0:Nat):Int)==0&&(1:Int)==1&&(items.size-0)==items.size)=true then _ else _) _ _ s;rw[hV (by simp)];have J_:YE (YQ prog w) A.in1 (acN (.ref t)) (λb s'=>b=true/\s'=s) E s:=by
  unfold acN;exact X6 (acm ht.typeIs (Yg ⟨by decide,rfl⟩))
 refine X6 (ZR J_ (λb s' hb=>?_) λ_ _ e=>e);obtain⟨rfl,rfl⟩:=hb;rw[hV rfl];exact X6 (aa8 (Yg ⟨_,rfl,Yg h⟩))
end
end HT
namespace L2
def uo {p:YG}(h:H p=none)(o:HO):bh H (eY H p o):=λb u q=>by rw[bY (c9 q h)];exact q
section
open AutoSeq1 (wpAny_loadPart')
theorem nR {A:Zk}{Q:List Yj->Yv->Prop}{r:YG}{a b c:Int}{t u v:Tok}(hh:A.handled=none)(hr:IsRange s.heap r a b c t u v)(C_:Builtin.Range.small a b c=true)(hn:abP a b c=n)(cW:n<=2 ^ 24)(hQ:∀h' tk (bX:Array Yj),(∀b o',s.heap.get? b=some o'->h'.get? b=some o')->ItemsOf (λi v=>∃t,v=.int (a+i*c) t) bX n->Q bX.toList {s with heap:=h',toks:=tk}) :
  YE (YQ prog w) A (collect (.ref r)) Q E s:=by
 unfold collect;refine X6 (ac4 (aaG F.entry_proto_collect ?_));rw[aae F.plain_proto_collect _];show YE _ A.in1 (newList [] >>= λl=>again (.builtin "list.__iadd__" ⟨[l,.ref r],[]⟩)) _ _ s;refine X6 (Zl ?_);refine Yg ⟨plainId_quiet F.plain_list_iadd _,aaG F.entry_list_iadd ?_⟩;rw[aae F.plain_list_iadd _];have hS:(s.heap.push {cls:=.type "list",data:=.seq ([]:List Yj).toArray}).get? s.heap.objs.size=some {cls:=.type "list",data:=.seq #[] 0}:=Ym _ rfl;show YE _ A.in1 (acE (.ref s.heap.objs.size) (.ref r) (.ref s.heap.objs.size)) _ _ _;refine ZR (wpAny_extend_range (A:=A) (R:=λres s'=>res=.ok (.ret (.ref s.heap.objs.size))/\YE (YQ prog w) A (load s.heap.objs.size >>= λo=>match o.data with|.seq xs _=>pure xs.toList|_=>abF "internal:collect") Q E s')
  hh (X9 _ hr) C_ hn cW s.heap.objs.size _ 0 hS λh' tk PZ c' hk J9 tx=>⟨rfl,?_⟩) (λfin s' h=>?_) λe s' h=>absurd h.1 (by simp)
 ·refine X6 (wpAny_load J9 (Yg ?_));exact hQ h' tk PZ (λb o' hb=>hk b o' (YK (Yu hb)) (X9 _ hb)) tx
 ·cases fin with
  |done f=>
   obtain⟨e,q⟩:=h;cases e;exact q
  |again c'=>exact⟨h.1,acj h.2 λr NC hr=>by obtain⟨rfl,q⟩:=hr;exact q⟩
theorem mB (l:YG)(a b c:Int)(t u v:Tok)(n:Nat)(C_:Builtin.Range.small a b c=true)(hn:abP a b c=n)(cW:n<=2 ^ 20) :
  Meets (Builtin.«tuple.__new__» ⟨[.type "tuple",.ref l],[]⟩)
   (λA R s=>A.handled=none/\IsRange s.heap l a b c t u v/\∀(h':aaX) (tk:Nat) (bX:Array Yj),(∀b o',s.heap.get? b=some o'->h'.get? b=some o')->ItemsOf (λi v=>∃t,v=.int (a+i*c) t) bX n->
    R (.ok (.ret (.ref h'.objs.size))) {s with heap:=h'.push {cls:=.type "tuple",data:=.seq bX},toks:=tk}):=
 .of_wp λprog w A R s h=>by
  obtain⟨hp,g,d,tk,os⟩:=s;obtain⟨hh,ht,h⟩:=h;have WM:=sub_tuple_self;have VR:=init_tuple_lookup;have XS:=madeHere_tuple;have hT:Shared.TypeIs ⟨hp,g,d,tk,os⟩ (.ref l) "range":=⟨_,ht,rfl⟩;wp_walk using acm hT,nR (A:=A.in1) hh ht C_ hn (by lia);intro h' SA bX hk tx;show YE _ _ (ZN bX.toList.toArray >>= λv=>ret v) _ _ _;unfold ZN;refine X6 (Zl ?_ (by show bX.toList.toArray.size<=Yf;rw[aau];simp;have:=tx.1;lia));refine Yg ⟨_,rfl,?_⟩;have e:bX.toList.toArray=bX:=by simp
  rw[e];exact h h' SA bX hk tx
theorem uq (hc:X.calm=true):eZ X (.type "tuple") (λxs H Q=>∃p lo hi,xs=[.ref p]/\H p=some (.rng lo hi)/\(-(2 ^ 62)<=lo/\lo<2 ^ 62/\ -(2 ^ 62)<=hi/\hi<2 ^ 62)/\(hi-lo).toNat<=2 ^ 20/\
  ∀l,H l=none->Q (.ref l) (eY H l (.tup ((YS (hi-lo).toNat).map λi=>V.int (lo+(i:Nat)))))):=by
 intro pins s σ H xs us Q I r h;obtain⟨p,lo,hi,rfl,hp,⟨h1,h2,h3,h4⟩,hz,q⟩:=h;obtain⟨u,rfl,rx⟩:=iW r;cases rx;obtain⟨t,u,v,e⟩:=I.hok p _ hp;refine callType_new F.called_tuple (by decide) (F.typeCall_tuple_1 _) (F.newCall_tuple_1 _) (λobj=>F.args_object_init_2 obj _) F.entry_tuple_new
  (mB p lo hi 1 t u v (hi-lo).toNat (small_one h1 h2 h3 h4) (by rw[rangeSize_one];split<;>lia) hz) ⟨I.ok.hd hc,e,λh' tk bX hk tx=>⟨⟨_,Ym _ rfl,rfl⟩,?_⟩⟩
 have hl:((YS (hi-lo).toNat).map λi=>V.int (lo+(i:Nat))).length<=Yf:=by
  rw[X8,Zh,aau];lia
 have I1:a_ X pins σ H {s with heap:=h',toks:=tk}:=I.kept hk;refine⟨.ref h'.objs.size,_,I1.laid (t':=tk) (λb o e=>X9 _ e) (Yl _) (show eJ X.prog X.w _ _ _ (.tup _) from ⟨hl,bX.toList,um tx,by simpa using IsTup.new h' bX,0,by simpa using Ym h' rfl⟩),rfl,q _ (I1.hok.fresh (Yl _))⟩
end
end L2
namespace HT
open L2
end HT
namespace L2
def zC:V->List V->Hp->VK->Prop:=λx vs H Q=>∃l b xs zs,x=.ref l/\vs=[.ref b]/\H l=some (.lst xs)/\H b=some (.tup zs)/\xs.length+zs.length<=Yf/\Q .non (eY H l (.lst (xs++zs)))
theorem B4:T6 X "list.extend" zC:=by
 intro pins s σ H x vs v us Q I rx rv h;obtain⟨l,b,xs,zs,rfl,rfl,hH,hB,hz,q⟩:=h;cases rx;obtain⟨u,rfl,ru⟩:=rv.one;cases ru;obtain⟨z,its,n,r,hl,e⟩:=I.lstM hH;obtain⟨z2,its2,r2,_,n2,e2⟩:=I.hok b _ hB;have JV:=r2.length;have hsz:its.toArray.size+its2.toArray.size<=Yf:=by rw[Yh,Yh];lia
 have JW:¬(!its.toArray.isEmpty&&aa0 (its.toArray.size+its2.toArray.size))=true:=by
  rw[ui hsz,Zy];exact Yd
 refine ab9 F.slot_list_extend ⟨_,e,rfl⟩ F.entry_list_extend (F.args_list_extend_2 _ _)
  (AutoSeq1.list_extend_list_tuple_0 l its.toArray n b its2.toArray n2 JW (by rw[Yh];lia) (by lia)) ⟨e,e2,?_⟩
 refine⟨.non,_,I.lset (its':=its++its2) hH e (by simp) (r.append r2) ?_,rfl,q⟩;rw[Yc];lia
theorem xW:eZ X (.builtin "sorted") (λxs H Q=>∃(p:YG) (ns:List Int),xs=[.ref p]/\(fX X.K H p (ns.map V.int)\/gE X.K H p (ns.map V.int))/\ns.length<64/\
  ∀(l:YG) (pq:List Int),H l=none->pq.Perm ns->pq.Pairwise (·<=·)->Q (.ref l) (eY H l (.lst (pq.map V.int)))):=by
 intro pins s σ H xs us Q I r h;obtain⟨p,ns,rfl,hq,h64,q⟩:=h;obtain⟨u,rfl,rx⟩:=iW r;cases rx;have WN:∃(T:String) (o:Obj) (its:List Yj) (n:Nat),(T="list"\/T="tuple")/\s.heap.get? p=some o/\o.cls=.type T/\o.data=.seq its.toArray n/\ZS its ns:=by
  rcases hq with hq|hq
  ·obtain⟨its,rv,pl,hz⟩:=I.list hq;obtain⟨o,e,c,n,d⟩:=pl.isList;exact⟨"list",o,its,n,.inl rfl,e,c,d,c_ rv⟩
  ·obtain⟨its,rv,pl,hz⟩:=I.tuple hq;obtain⟨o,e,c,n,d⟩:=pl;exact⟨"tuple",o,its,n,.inr rfl,e,c,d,c_ rv⟩
 obtain⟨T,o,its,n,hT,ho,hc,hd,hI⟩:=WN;have cW:its.length=ns.length:=hI.length;refine ac5 kind_sorted plain_sorted entry_sorted (args_sorted1 _) ?_;unfold Builtin.«sorted»;refine X6 (m:=checkCount "sorted" 1 1 _) (Yg ?_);refine X6 (wpAny_collect_seq p hT ho hc hd (λh1 k1=>?_) (by rw[Yh,aau];lia));refine X6 (wpAny_newList ?_);have P0:(h1.push (acX "list" its.toArray 0)).get? h1.objs.size=some (acX "list" its.toArray 0):=Ym _ rfl;have P2:(h1.push {cls:=.type "list",data:=.seq (its.toArray.toList).toArray}).get? h1.objs.size=some (acX "list" its.toArray 0):=by simpa using P0
 refine X6 (Z6 (ZG slot_list_sort ⟨_,P2,rfl⟩ entry_list_sort (list_sort_tree P2 hI (by lia) λout pq a1 a2 a3=>⟨_,rfl,?_⟩) (args_list_sort _)));refine Yg ⟨_,rfl,?_⟩;obtain⟨e,he⟩:=sortedHeap_at (out:=out) P2;have keep:∀b o,h1.get? b=some o->(sortedHeap (h1.push {cls:=.type "list",data:=.seq (its.toArray.toList).toArray}) h1.objs.size its out).get? b=some o:=λb o e=>by
  have hb:=Yu e;rw[sortedHeap_old (YK hb) (by rw[ZQ];exact aaC hb)];exact X9 _ e
 have I1:a_ X pins σ H {s with heap:=h1}:=I.kept (t':=s.toks) k1;have JV:(pq.map V.int).length<=Yf:=by rw[X8,a2.length_eq,aau];lia
 exact⟨.ref h1.objs.size,_,I1.laid (t':=s.toks) keep (Yl _) (show eJ X.prog X.w _ _ _ (.lst _) from ⟨JV,out.toList,e,qE a1,by simpa using he⟩),rfl,q _ pq (I1.hok.fresh (Yl _)) a2 a3⟩
theorem Fp {bs:List Bool}{us:List Yj}(r:bC (bs.map V.bl) us){v:Yj}(h:us[i]? = some v):v=.bool (bs.getD i true):=by
 have hl:=r.length;rw[X8] at hl;obtain⟨hi,_⟩:=Yr.mp h;have e:(bs.map V.bl)[i]? = some (V.bl (bs.getD i true)):=by
  rw[YL,X7 (by lia)];simp[abv,X7 (show i<bs.length by lia)]
 obtain⟨u,hu,ru⟩:=r.get e;rw[h] at hu;cases hu;exact ru
theorem Fq (bs:List Bool):((YS bs.length).all λi=>bs.getD i true)=bs.all id:=by
 induction bs with
 |nil=>rfl
 |cons b bs ih=>
  rw[X_,List.range_succ_eq_map,ZU,acW,ZU];congr 1
theorem eN (hc:X.calm=true):eZ X (.builtin "all") (λxs H Q=>∃(p:YG) (bs:List Bool),xs=[.ref p]/\fX X.K H p (bs.map V.bl)/\Q (.bl (bs.all id)) H):=by
 intro pins s σ H xs us Q I r h;obtain⟨p,bs,rfl,hq,q⟩:=h;obtain⟨u,rfl,rx⟩:=iW r;cases rx;obtain⟨its,rv,pl,hz⟩:=I.list hq;have hl:=pl.isList;have Dd:p<s.heap.objs.size:=by obtain⟨_,e,_⟩:=hl;exact Yu e
 refine call_all_walk (ab5 hl ?_);refine⟨s.heap.objs.size,_,_,_,_,_,λi=>bs.getD i true,rfl,Walks.list (A:=X.A.in1) (I.ok.hd hc) _ p (YK Dd) its.toArray,⟨⟨_,Ym _ rfl,rfl,rfl⟩,hl.push _⟩,?_,λh' tk hk=>?_⟩
 ·intro i v s' Q' E' hP WO;have e:=Fp rv (i:=i) (v:=v) (by simpa using hP);subst e;exact ZI WO
 ·have e:(YS its.toArray.size).all (λi=>bs.getD i true)=bs.all id:=by
   rw[Yh,←rv.length,X8];exact Fq bs
  rw[e];refine⟨.bl _,H,I.kept λb o e=>hk b o (λhm=>?_) (X9 _ e),rfl,q⟩;rcases Yk.mp hm with e1|hm
  ·exact absurd (e1▸Yu e) (Z_ _)
  ·cases hm
def G5 (K:Ye):V->Option Int->Option Int->Hp->VK->Prop:=λx lo hi H Q=>∃a xs,x=.ref a/\H a=some (.tup xs)/\∀r H',bh H H'->H' r=some (.tup (uh xs lo hi))->Q (.ref r) H'
theorem KN:GQ X (G5 X.K):=by
 have base:GQ X (QV X.K):=Om;intro pins s σ H x v vl vu lo hi sl Q I rx hs pl pu h;obtain⟨a,xs,rfl,vQ,q⟩:=h;have hx:gE X.K H a xs:=gE.of vQ;by_cases hw:HT.sIx xs.length 0 lo=0/\HT.sIx xs.length xs.length hi=xs.length
 ·cases rx;obtain⟨its,r,ht,hz⟩:=I.tuple hx;have hl:its.toArray.size=xs.length:=by rw[Yh,r.length]
  refine⟨"tuple",_,PyProof.Rows.slot_tuple_getitem.lookup,ht.typeIs,HT.getItem_tuple_whole ht hs pl pu (by rw[hl];exact hw) ⟨.ref a,H,I,rfl,q a H (bh.refl _) ?_⟩⟩;have e:uh xs lo hi=xs:=by unfold uh;rw[hw.1,hw.2];simp
  rw[e];exact vQ
 ·exact base pins s σ H _ v vl vu lo hi sl Q I rx hs pl pu ⟨a,xs,rfl,hx,hw,λp hp=>q p _ (uo hp _) dg⟩
def G6:R2:=λx y H Q=>∃a b xs ys,x=.ref a/\y=.ref b/\H a=some (.tup xs)/\H b=some (.tup ys)/\xs.length+ys.length<=Yf/\∀r H',bh H H'->H' r=some (.tup (xs++ys))->Q (.ref r) H'
theorem G7:jt X (aa3 .Add) G6:=by
 intro pins s σ H x y v u Q I rx ry h;obtain⟨a,b,xs,ys,rfl,rfl,Di,zj,hz,q⟩:=h;have ha:gE X.K H a xs:=gE.of Di;have hb:gE X.K H b ys:=gE.of zj;by_cases hx:xs=[]
 ·subst hx;cases rx;cases ry;obtain⟨its,r1,p1,_⟩:=I.tuple ha;obtain⟨its2,r2,p2,_⟩:=I.tuple hb;have e1:its=[]:=(bC.nil_iff r1).mpr rfl;subst e1;obtain⟨⟨cls,dd,data,sl⟩,ho,hc,n,hd⟩:=id p1;obtain⟨⟨cls2,Gw,data2,Gx⟩,ho2,hc2,n2,hd2⟩:=id p2;simp only at hc hd hc2 hd2;subst hc hd hc2 hd2;exact concat_meets ⟨_,ho,rfl⟩ ⟨_,ho2,rfl⟩ noFill_tuple_add seq_tuple_add ab2 abQ (abH _ _)
   (tuple_addW0 a b ([]:List Yj).toArray its2.toArray n n2 dd Gw sl Gx (by simp)) ⟨ho,ho2,⟨.ref b,H,I,rfl,q b H (bh.refl _) (by simpa using zj)⟩⟩
 ·refine KC pins s σ H _ _ v u Q I rx ry ⟨a,b,xs,ys,rfl,rfl,ha,hb,hx,hz,λe=>?_,λ_ p hp=>q p _ (uo hp _) dg⟩;subst e;exact q a H (bh.refl _) (by simpa using Di)
end L2
namespace L2
structure Fn (P:aa9)(w:abc)(K:Ye)(mg:Str->Option Yj)(base:aaX)(x:Str)(k:Nat)(ps:List Str)(sp:Sp):Prop where
 ex:∃(f:YG) (fd:acu),mg x=some (.ref f)/\aa7 K (.ref f)=true/\wQ K fd ps []/\nQ P w K mg base zw k f fd ps sp
structure Df (K:Ye)(mg:Str->Option Yj)(x:Str)(st:ab4):Prop where
 ex:∃(f:YG) (fd:acu),mg x=some (.ref f)/\J5 K x x st f fd
section
variable {base:aaX}
theorem Df.fn {N:List Str}(d:Df K mg x st)(S:a9 N ps (ar st))(hb:∀(kV qv pm:Yj) (an:Option YG) (dH ct:Yj) (us:List Yj),us.length=ps.length->bindArgs (aaf x x (gG st) (dE st) (ar st) .none kV qv pm an dH ct) ⟨us,[]⟩=pure (ps.zip us))(len:∀vs H Q E,sp vs H Q E->vs.length=ps.length)(j2:∀(f:YG) (dH:Yj) (A:Zk) (outer:List Env) (s:Yv) (H:Hp) (vs:List V) (Q:VK) (E:XK),gF k (A.deeper (acV x (ar st) s.heap.objs.size f dH))->sp vs H Q E->
   ∃t,wN (sT zw P w K mg base N x (ar st) f dH A outer s H E).nox (dE st) t/\t {nx:=λ_ H'=>Q .non H',rt:=Q} (abO N vs) H):Fn P w K mg base x (k+1) ps sp:=by
 obtain⟨f,fd,m,F⟩:=d.ex;exact⟨f,fd,m,F.kp,F.binds hb,F.ok S len (j2 f)⟩
end
section
variable {p:Pos}{e:aaE}{es:List aaE}{t:TA}
theorem zD (F:Fn X.prog X.w X.K X.mg X.base x k ps sp)(hr:gF k X.A)(ha:PA X (e::es) t)(hg:Gl X x:=by rfl)(C8:(x==("__debug__":Str))=false:=by decide)
  (he:YC (e::es) X.env=(false,abN e X.env)::YC es X.env:=by rfl) (pj:(abe pos (YC es X.env)).any (·.1)=false:=by rfl) :
  PE X (.Call (.Name x p) (e::es) [] pos) (Mc sp [] E0 t):=by
 obtain⟨f,fd,hm,hk,hb,G⟩:=F.ex;exact Kx G hr hg hm hk hb .nil Q3 ha C8 he pj
end
theorem bh.seqT (e:bh H H')(h:gE K H a xs):gE K H' a xs:=by
 rcases h with (h|⟨o,h⟩)|h
 ·exact .inl (.inl (e _ _ h))
 ·exact .inl (.inr ⟨o,e _ _ h⟩)
 ·exact .inr h
mutual
theorem bh.rep {K:Ye}{H H':Hp}(e:bh H H'):∀{d:D} {v:V},bZ K H d v->bZ K H' d v
 | .non,v,h=>by unfold bZ at h ⊢;exact h
 | .bl b,v,h=>by unfold bZ at h ⊢;exact h
 | .int b,v,h=>by unfold bZ at h ⊢;exact h
 | .str b,v,h=>by unfold bZ at h ⊢;exact h
 | .tup ds,v,h=>by
  unfold bZ at h ⊢;obtain⟨a,xs,r,q,z⟩:=h;exact⟨a,xs,r,e.seqT q,bh.reps e z⟩
 | .lst ds,v,h=>by
  unfold bZ at h ⊢;obtain⟨a,xs,r,q,z⟩:=h;exact⟨a,xs,r,e.seq q,bh.reps e z⟩
theorem bh.reps {K:Ye}{H H':Hp}(e:bh H H'):∀{ds:List D} {vs:List V},iz K H ds vs->iz K H' ds vs
 | [],vs,h=>by unfold iz at h ⊢;exact h
 |d::ds,vs,h=>by
  unfold iz at h ⊢;obtain⟨x,r,q,p,z⟩:=h;exact⟨x,r,q,bh.rep e p,bh.reps e z⟩
end
end L2
namespace L2
inductive U where
 |non|bl (b:Bool)|int (i:Int)|str (x:Str)|tup (xs:List U)|lst (xs:List U)|dct (ks vs:List U)|scr (xs:List U)
instance:Inhabited U:=⟨.non⟩
inductive R (α:Type) where
 |ok (a:α)|exc (c:String) (u:U)|stk
noncomputable def R.bind {α β:Type}:R α->(α->R β)->R β
 | .ok a,f=>f a
 | .exc c u,_=>.exc c u
 | .stk,_=>.stk
noncomputable abbrev Ev:=List (Option U)
inductive SR where
 |nx (ρ:Ev)|rt (u:U) (ρ:Ev)|bk (ρ:Ev)|ct (ρ:Ev)|exc (c:String) (u:U)|stk
end L2
variable {us ks:List L2.U}{u p s1 q:L2.U}{ρ ρ1:L2.Ev}{p':L2.U->L2.U->L2.R L2.U}{sg:L2.U->L2.Ev->L2.R L2.Ev}{x0 x1 x3 x4 x5 x6 x2:Option L2.U}
namespace L2
open Sem (wp)
noncomputable instance Wh:DecidableEq U:=λa b=>Classical.propDecidable (a=b)
mutual
def ph (h:aaX):U->Yj->Prop
 | .int i,v=>∃t,v=.int i t
 | .tup us,v=>∃a items,v=.ref a/\h.IsTuple a items/\kn h us items.toList
 |_,_=>False
def kn (h:aaX):List U->List Yj->Prop
 | [],vs=>vs=[]
 |u::us,vs=>∃v r,vs=v::r/\ph h u v/\kn h us r
end
mutual
noncomputable def hK:U->Int
 | .int i=>hashInt i
 | .tup us=>reduceHash (Builtin.Tuple.tupleHashOf (Vp us))
 |_=>0
noncomputable def Vp:List U->List Int
 | []=>[]
 |u::us=>hK u::Vp us
end
mutual
noncomputable def Wi:U->Nat
 | .tup us=>Ra us+1
 |_=>1
noncomputable def Ra:List U->Nat
 | []=>0
 |u::us=>Wi u+Ra us
end
mutual
noncomputable def Wj:U->Nat
 | .tup us=>Oy us+1
 |_=>0
noncomputable def Oy:List U->Nat
 | []=>0
 |u::us=>max (Wj u) (Oy us)
end
theorem B5 {x y:Array Yj}(h1:h.IsTuple a x)(h2:h.IsTuple a y):x=y:=by
 obtain⟨o,e,_,n,d⟩:=h1;obtain⟨o',e',_,n',d'⟩:=h2;rw[e] at e';cases e';rw[d] at d';cases d';rfl
mutual
theorem ph.inj {h:aaX}:∀{x y:U} {v:Yj},ph h x v->ph h y v->x=y
 | .int i,y,v,h1,h2=>by
  unfold ph at h1;obtain⟨t,rfl⟩:=h1;cases y<;>unfold ph at h2<;>first|exact h2.elim|skip
  ·obtain⟨u,e⟩:=h2;cases e;rfl
  ·obtain⟨_,_,e,_⟩:=h2;cases e
 | .str i,y,v,h1,h2=>by unfold ph at h1;exact h1.elim
 | .tup us,y,v,h1,h2=>by
  unfold ph at h1;obtain⟨a,its,rfl,q,z⟩:=h1;cases y<;>unfold ph at h2<;>first|exact h2.elim|skip
  ·obtain⟨u,e⟩:=h2;cases e
  ·obtain⟨a',its',e,q',z'⟩:=h2;cases e;have:=B5 q q';subst this;rw[kn.inj z z']
 | .non,y,v,h1,h2=>by unfold ph at h1;exact h1.elim
 | .bl _,y,v,h1,h2=>by unfold ph at h1;exact h1.elim
 | .lst _,y,v,h1,h2=>by unfold ph at h1;exact h1.elim
 | .dct _ _,y,v,h1,h2=>by unfold ph at h1;exact h1.elim
 | .scr _,y,v,h1,h2=>by unfold ph at h1;exact h1.elim
theorem kn.inj {h:aaX}:∀{x y:List U} {vs:List Yj},kn h x vs->kn h y vs->x=y
 | [],y,vs,h1,h2=>by
  unfold kn at h1;subst h1;cases y with
  |nil=>rfl
  |cons=>unfold kn at h2;obtain⟨_,_,e,_⟩:=h2;cases e
 |u::us,y,vs,h1,h2=>by
  unfold kn at h1;obtain⟨v,r,rfl,p,q⟩:=h1;cases y with
  |nil=>unfold kn at h2;cases h2
  |cons=>
   unfold kn at h2;obtain⟨v',r',e,p',q'⟩:=h2;cases e;rw[ph.inj p p',kn.inj q q']
end
mutual
theorem ph.keep {h h':aaX}(k:∀a its,h.IsTuple a its->h'.IsTuple a its):∀{x:U} {v:Yj},ph h x v->ph h' x v
 | .int i,v,h1=>by unfold ph at h1 ⊢;exact h1
 | .str i,v,h1=>by unfold ph at h1;exact h1.elim
 | .tup us,v,h1=>by
  unfold ph at h1 ⊢;obtain⟨a,its,e,q,z⟩:=h1;exact⟨a,its,e,k a its q,kn.keep k z⟩
 | .non,v,h1=>by unfold ph at h1;exact h1.elim
 | .bl _,v,h1=>by unfold ph at h1;exact h1.elim
 | .lst _,v,h1=>by unfold ph at h1;exact h1.elim
 | .dct _ _,v,h1=>by unfold ph at h1;exact h1.elim
 | .scr _,v,h1=>by unfold ph at h1;exact h1.elim
theorem kn.keep {h h':aaX}(k:∀a its,h.IsTuple a its->h'.IsTuple a its):∀{x:List U} {vs:List Yj},kn h x vs->kn h' x vs
 | [],vs,h1=>by unfold kn at h1 ⊢;exact h1
 |u::us,vs,h1=>by
  unfold kn at h1 ⊢;obtain⟨v,r,e,p,q⟩:=h1;exact⟨v,r,e,ph.keep k p,kn.keep k q⟩
end
def Wl (p:List U×YG×V)(q:List U×YG×Yj):Prop:=p.1=q.1/\p.2.1=q.2.1/\cK p.2.2 q.2.2
noncomputable def T8 (e:List U×YG×Yj):DictEntry:=⟨hK (.tup e.1),.ref e.2.1,e.2.2⟩
def Rb (a:YG)(ep:Nat)(es:List (List U×YG×V))(h:aaX):Prop:=(a==sysModules)=false/\∃o ds,∃xs:List (List U×YG×Yj),h.get? a=some o/\o.ExactDict/\o.data=.dict ds ep/\Paired Wl es xs/\ds.toList=xs.map T8
noncomputable def DN (a:YG)(ep:Nat)(es:List (List U×YG×V)):HO:=.ext (Rb a ep es)
mutual
def KH (H:Hp):U->V->Prop
 | .int i,v=>v=.int i
 | .tup us,v=>∃b ys,v=.ref b/\H b=some (.tup ys)/\us.length<=Yf/\BG H us ys
 |_,_=>False
def BG (H:Hp):List U->List V->Prop
 | [],vs=>vs=[]
 |u::us,vs=>∃v r,vs=v::r/\KH H u v/\BG H us r
end
mutual
theorem KH.to {H H':Hp}(e:∀b ys,H b=some (.tup ys)->H' b=some (.tup ys)):∀{u:U} {v:V},KH H u v->KH H' u v
 | .int i,v,h=>by unfold KH at h ⊢;exact h
 | .tup us,v,h=>by
  unfold KH at h ⊢;obtain⟨b,ys,r,q,l,z⟩:=h;exact⟨b,ys,r,e b ys q,l,BG.to e z⟩
 | .non,v,h=>by unfold KH at h;exact h.elim
 | .bl _,v,h=>by unfold KH at h;exact h.elim
 | .str _,v,h=>by unfold KH at h;exact h.elim
 | .lst _,v,h=>by unfold KH at h;exact h.elim
 | .dct _ _,v,h=>by unfold KH at h;exact h.elim
 | .scr _,v,h=>by unfold KH at h;exact h.elim
theorem BG.to {H H':Hp}(e:∀b ys,H b=some (.tup ys)->H' b=some (.tup ys)):∀{us:List U} {vs:List V},BG H us vs->BG H' us vs
 | [],vs,h=>by unfold BG at h ⊢;exact h
 |u::us,vs,h=>by
  unfold BG at h ⊢;obtain⟨v,r,q,p,z⟩:=h;exact⟨v,r,q,KH.to e p,BG.to e z⟩
end
mutual
theorem KH.is (ok:qw P w H h):∀{u:U} {v:V} {x:Yj},KH H u v->cK v x->ph h u x
 | .int i,v,x,k,r=>by
  unfold KH at k;subst k;obtain⟨t,rfl⟩:=r;unfold ph;exact⟨t,rfl⟩
 | .tup us,v,x,k,r=>by
  unfold KH at k;obtain⟨b,ys,rfl,q,_,z⟩:=k;cases r;obtain⟨_,its,rv,it,_⟩:=ok b _ q;unfold ph;exact⟨b,its.toArray,rfl,it,by simpa using BG.is ok z rv⟩
 | .non,v,x,k,r=>by unfold KH at k;exact k.elim
 | .bl _,v,x,k,r=>by unfold KH at k;exact k.elim
 | .str _,v,x,k,r=>by unfold KH at k;exact k.elim
 | .lst _,v,x,k,r=>by unfold KH at k;exact k.elim
 | .dct _ _,v,x,k,r=>by unfold KH at k;exact k.elim
 | .scr _,v,x,k,r=>by unfold KH at k;exact k.elim
theorem BG.is (ok:qw P w H h):∀{us:List U} {vs:List V} {xs:List Yj},BG H us vs->bC vs xs->kn h us xs
 | [],vs,xs,k,r=>by
  unfold BG at k;subst k;cases r;unfold kn;rfl
 |u::us,vs,xs,k,r=>by
  unfold BG at k;obtain⟨v,vr,rfl,p,z⟩:=k;cases r with
  |cons r1 r2=>
   unfold kn;exact⟨_,_,rfl,KH.is ok p r1,BG.is ok z r2⟩
end
def S3 (H:Hp)(us:List U)(b:YG):Prop:=Oy us<=6/\∃ys,H b=some (.tup ys)/\us.length<=Yf/\BG H us ys
theorem S3.to (e:∀b ys,H b=some (.tup ys)->H' b=some (.tup ys))(k:S3 H us b):S3 H' us b:=by
 obtain⟨l,ys,q,n,z⟩:=k;exact⟨l,ys,e b ys q,n,z.to e⟩
structure Oz (H:Hp)(a:YG)(es:List (List U×YG×V)):Prop where
 ob:(∃ep,H a=some (DN a ep es))\/(es=[]/\H a=some (.dK []))
 nd:(es.map (·.1)).Nodup
 key:∀e∈es,S3 H e.1 e.2.1
end L2
namespace L2
noncomputable def kU:vN->U
 | .inl i=>.int i
 | .inr x=>.str x
def J6 (H:Hp)(a:YG)(ks:List U)(xs:List V):Prop:=
 (∃kl:List (vN×V),H a=some (.dK kl)/\ks=kl.map (λp=>kU p.1)/\xs=kl.map (·.2)) \/
 ∃es:List (List U×YG×V),es≠[]/\Oz H a es/\ks=es.map (λp=>.tup p.1)/\xs=es.map (·.2.2)
noncomputable abbrev Rc:=J6
def J6.at (h:Rc H a ks xs):J6 H a ks xs:=h
theorem Oz.ne {es:List (List U×YG×V)}(h:Oz H a es)(n:es≠[]):∃ep,H a=some (DN a ep es):=by
 rcases h.ob with q|⟨e,_⟩
 ·exact q
 ·exact absurd e n
def KO (K:Ye)(H:Hp)(a:YG)(xs:List V):Prop:=(∃o,H a=some (.frz o (.lst xs))) \/
  ∃(o:Obj) (its:Array Yj) (n:Nat),K.lookup a=some o/\o.cls=.type "list"/\o.dict=none/\o.data=.seq its n/\its.size<=Yf/\bC xs its.toList
theorem KO.sq (h:KO K H a xs):fX K H a xs:=by
 rcases h with⟨o,h⟩|h
 ·exact .inl (.inr ⟨o,h⟩)
 ·exact .inr h
theorem KO.to (h:KO K H a xs)(e:∀o y,H a=some (.frz o y)->H' a=some (.frz o y)):KO K H' a xs:=by
 rcases h with⟨o,h⟩|h
 ·exact .inl ⟨o,e _ _ h⟩
 ·exact .inr h
mutual
def Rp (K:Ye)(H:Hp)(A:YG->Prop):U->V->Prop
 | .non,v=>v=.non
 | .bl b,v=>v=.bl b
 | .int i,v=>v=.int i
 | .str x,v=>v=.str x
 | .tup us,v=>∃a xs,v=.ref a/\H a=some (.tup xs)/\us.length<=Yf/\bf K H A us xs
 | .lst us,v=>∃a xs,v=.ref a/\¬A a/\H a=some (.lst xs)/\us.length<=Yf/\bf K H A us xs
 | .dct ks us,v=>∃a xs,v=.ref a/\¬A a/\J6 H a ks xs/\us.length<=Yf/\bf K H A us xs
 | .scr us,v=>∃a xs,v=.ref a/\KO K H a xs/\us.length<=Yf/\bf K H A us xs
def bf (K:Ye)(H:Hp)(A:YG->Prop):List U->List V->Prop
 | [],xs=>xs=[]
 |u::us,xs=>∃x r,xs=x::r/\Rp K H A u x/\bf K H A us r
end
def nU (K:Ye)(H:Hp)(A:YG->Prop):U->YG->Prop
 | .lst us,a=>∃xs,H a=some (.lst xs)/\us.length<=Yf/\bf K H A us xs
 | .dct ks us,a=>∃xs,Rc H a ks xs/\us.length<=Yf/\bf K H A us xs
 |_,_=>False
def Pk (K:Ye)(H:Hp)(A:YG->Prop):U->V->Prop
 | .non,v=>v=.non
 | .bl b,v=>v=.bl b
 | .int i,v=>v=.int i
 | .str x,v=>v=.str x
 | .tup us,v=>∃a xs,v=.ref a/\H a=some (.tup xs)/\us.length<=Yf/\bf K H A us xs
 | .lst us,v=>∃a xs,v=.ref a/\H a=some (.lst xs)/\us.length<=Yf/\bf K H A us xs
 | .dct ks us,v=>∃a xs,v=.ref a/\J6 H a ks xs/\us.length<=Yf/\bf K H A us xs
 | .scr us,v=>∃a xs,v=.ref a/\KO K H a xs/\us.length<=Yf/\bf K H A us xs
def Mu:Option HO->Prop
 |some (.lst _)=>True
 |some (.dK _)=>True
 |some (.dT _)=>True
 |some (.ext _)=>True
 |_=>False
theorem Mu.ex {o:Option HO}(h:Mu o):∃x,o=.some x:=by
 cases o with
 |none=>exact h.elim
 |some x=>exact⟨x,rfl⟩
def fY (A:YG->Prop)(H H':Hp):Prop:=∀b o,¬A b->H b=some o->H' b=some o
def fY.refl:fY A H H:=λ_ _ _ h=>h
def fY.trans (a:fY A H H1)(b:fY A H1 H2):fY A H H2:=λc o n h=>b c o n (a c o n h)
def fY.same (h:bh H H'):fY A H H':=λb o _ e=>h b o e
section
variable {A':YG->Prop}
theorem J6.ex (h:J6 H a ks xs):∃o,H a=some o:=by
 rcases h with⟨k,h,_⟩|⟨k,n,h,_⟩
 ·exact⟨_,h⟩
 ·obtain⟨ep,q⟩:=h.ne n;exact⟨_,q⟩
theorem J6.to (h:J6 H a ks xs)(e:∀o,H a=some o->H' a=some o)(t:∀b ys,H b=some (.tup ys)->H' b=some (.tup ys)):J6 H' a ks xs:=by
 rcases h with⟨k,h,z⟩|⟨k,n,h,z⟩
 ·exact .inl ⟨k,e _ h,z⟩
 ·exact .inr ⟨k,n,⟨h.ob.imp (fun⟨ep,q⟩=>⟨ep,e _ q⟩) (λq=>⟨q.1,e _ q.2⟩),h.nd,λy hy=>(h.key y hy).to t⟩,z⟩
mutual
theorem Rp.re (m:∀b,A b->Mu (H b))(e:fY A H H')(n:∀b,A' b->A b\/H b=none):∀{u:U} {v:V},Rp K H A u v->Rp K H' A' u v
 | .non,v,h=>by unfold Rp at h ⊢;exact h
 | .bl b,v,h=>by unfold Rp at h ⊢;exact h
 | .int b,v,h=>by unfold Rp at h ⊢;exact h
 | .str b,v,h=>by unfold Rp at h ⊢;exact h
 | .tup us,v,h=>by
  unfold Rp at h ⊢;obtain⟨a,xs,r,q,l,z⟩:=h;exact⟨a,xs,r,e a _ (λz=>by have:=m a z;rw[q] at this;exact this) q,l,bf.re m e n z⟩
 | .lst us,v,h=>by
  unfold Rp at h ⊢;obtain⟨a,xs,r,na,q,l,z⟩:=h;refine⟨a,xs,r,λy=>?_,e a _ na q,l,bf.re m e n z⟩;rcases n a y with y|y
  ·exact na y
  ·rw[q] at y;cases y
 | .scr us,v,h=>by
  unfold Rp at h ⊢;obtain⟨a,xs,r,q,l,z⟩:=h;exact⟨a,xs,r,q.to λo y w=>e a _ (λz=>by have:=m a z;rw[w] at this;exact this) w,l,bf.re m e n z⟩
 | .dct ks us,v,h=>by
  unfold Rp at h ⊢;obtain⟨a,xs,r,na,q,l,z⟩:=h;refine⟨a,xs,r,λy=>?_,q.to (λo w=>e a o na w) (λb ys w=>e b _ (λy=>by have:=m b y;rw[w] at this;exact this) w),l,bf.re m e n z⟩;obtain⟨o,w⟩:=q.ex;rcases n a y with y|y
  ·exact na y
  ·rw[w] at y;cases y
theorem bf.re (m:∀b,A b->Mu (H b))(e:fY A H H')(n:∀b,A' b->A b\/H b=none):∀{us:List U} {vs:List V},bf K H A us vs->bf K H' A' us vs
 | [],vs,h=>by unfold bf at h ⊢;exact h
 |u::us,vs,h=>by
  unfold bf at h ⊢;obtain⟨x,r,q,p,z⟩:=h;exact⟨x,r,q,Rp.re m e n p,bf.re m e n z⟩
end
mutual
theorem Rp.mono (n:∀b,A' b->A b):∀{u:U} {v:V},Rp K H A u v->Rp K H A' u v
 | .non,v,h=>by unfold Rp at h ⊢;exact h
 | .bl b,v,h=>by unfold Rp at h ⊢;exact h
 | .int b,v,h=>by unfold Rp at h ⊢;exact h
 | .str b,v,h=>by unfold Rp at h ⊢;exact h
 | .tup us,v,h=>by
  unfold Rp at h ⊢;obtain⟨a,xs,r,q,l,z⟩:=h;exact⟨a,xs,r,q,l,bf.mono n z⟩
 | .lst us,v,h=>by
  unfold Rp at h ⊢;obtain⟨a,xs,r,na,q,l,z⟩:=h;exact⟨a,xs,r,λy=>na (n a y),q,l,bf.mono n z⟩
 | .scr us,v,h=>by
  unfold Rp at h ⊢;obtain⟨a,xs,r,q,l,z⟩:=h;exact⟨a,xs,r,q,l,bf.mono n z⟩
 | .dct ks us,v,h=>by
  unfold Rp at h ⊢;obtain⟨a,xs,r,na,q,l,z⟩:=h;exact⟨a,xs,r,λy=>na (n a y),q,l,bf.mono n z⟩
theorem bf.mono (n:∀b,A' b->A b):∀{us:List U} {vs:List V},bf K H A us vs->bf K H A' us vs
 | [],vs,h=>by unfold bf at h ⊢;exact h
 |u::us,vs,h=>by
  unfold bf at h ⊢;obtain⟨x,r,q,p,z⟩:=h;exact⟨x,r,q,Rp.mono n p,bf.mono n z⟩
end
mutual
theorem Rp.same (e:bh H H'):∀{u:U} {v:V},Rp K H A u v->Rp K H' A u v
 | .non,v,h=>by unfold Rp at h ⊢;exact h
 | .bl b,v,h=>by unfold Rp at h ⊢;exact h
 | .int b,v,h=>by unfold Rp at h ⊢;exact h
 | .str b,v,h=>by unfold Rp at h ⊢;exact h
 | .tup us,v,h=>by
  unfold Rp at h ⊢;obtain⟨a,xs,r,q,l,z⟩:=h;exact⟨a,xs,r,e a _ q,l,bf.same e z⟩
 | .lst us,v,h=>by
  unfold Rp at h ⊢;obtain⟨a,xs,r,na,q,l,z⟩:=h;exact⟨a,xs,r,na,e a _ q,l,bf.same e z⟩
 | .scr us,v,h=>by
  unfold Rp at h ⊢;obtain⟨a,xs,r,q,l,z⟩:=h;exact⟨a,xs,r,q.to λo y w=>e a _ w,l,bf.same e z⟩
 | .dct ks us,v,h=>by
  unfold Rp at h ⊢;obtain⟨a,xs,r,na,q,l,z⟩:=h;exact⟨a,xs,r,na,q.to (λo w=>e a o w) (λb ys w=>e b _ w),l,bf.same e z⟩
theorem bf.same (e:bh H H'):∀{us:List U} {vs:List V},bf K H A us vs->bf K H' A us vs
 | [],vs,h=>by unfold bf at h ⊢;exact h
 |u::us,vs,h=>by
  unfold bf at h ⊢;obtain⟨x,r,q,p,z⟩:=h;exact⟨x,r,q,Rp.same e p,bf.same e z⟩
end
theorem bf.length:∀{us:List U} {vs:List V},bf K H A us vs->us.length=vs.length
 | [],_,h=>by unfold bf at h;subst h;rfl
 |u::us,_,h=>by
  unfold bf at h;obtain⟨x,r,rfl,_,q⟩:=h;rw[X_,X_,bf.length q]
theorem bf.get:∀{us:List U} {vs:List V} {i:Nat} {u:U},bf K H A us vs->us[i]? = some u->∃v,vs[i]? = some v/\Rp K H A u v
 | [],_,_,_,_,e=>by simp at e
 |w::us,_,i,u,h,e=>by
  unfold bf at h;obtain⟨x,r,rfl,p,q⟩:=h;cases i with
  |zero=>simp at e;subst e;exact⟨x,by simp,p⟩
  |succ i=>
   obtain⟨v,a,b⟩:=bf.get q (i:=i) (by simpa using e);exact⟨v,by simpa using a,b⟩
def bf.nil:bf K H A [] []:=by unfold bf;rfl
def bf.cons (h:Rp K H A u v)(t:bf K H A us vs):bf K H A (u::us) (v::vs):=by unfold bf;exact⟨v,vs,rfl,h,t⟩
theorem bf.append:∀{us ws:List U} {vs xs:List V},bf K H A us vs->bf K H A ws xs->bf K H A (us++ws) (vs++xs)
 | [],ws,vs,xs,h,t=>by unfold bf at h;subst h;exact t
 |u::us,ws,vs,xs,h,t=>by
  unfold bf at h;obtain⟨x,r,rfl,p,q⟩:=h;exact bf.cons p (bf.append q t)
theorem bf.take:∀{us:List U} {vs:List V} (n:Nat),bf K H A us vs->bf K H A (us.take n) (vs.take n)
 | [],vs,n,h=>by unfold bf at h;subst h;simp;exact bf.nil
 |u::us,vs,0,h=>by simp;exact bf.nil
 |u::us,vs,n+1,h=>by
  unfold bf at h;obtain⟨x,r,rfl,p,q⟩:=h;exact bf.cons p (bf.take n q)
theorem bf.drop:∀{us:List U} {vs:List V} (n:Nat),bf K H A us vs->bf K H A (us.drop n) (vs.drop n)
 | [],vs,n,h=>by unfold bf at h;subst h;simp;exact bf.nil
 |u::us,vs,0,h=>h
 |u::us,vs,n+1,h=>by
  unfold bf at h;obtain⟨x,r,rfl,p,q⟩:=h;exact bf.drop n q
theorem bf.set:∀{us:List U} {vs:List V} (n:Nat) {u:U} {v:V},Rp K H A u v->bf K H A us vs->bf K H A (us.set n u) (vs.set n v)
 | [],vs,n,_,_,_,h=>by unfold bf at h;subst h;simp;exact bf.nil
 |u::us,vs,0,_,_,p',h=>by
  unfold bf at h;obtain⟨x,r,rfl,p,q⟩:=h;exact bf.cons p' q
 |u::us,vs,n+1,_,_,p',h=>by
  unfold bf at h;obtain⟨x,r,rfl,p,q⟩:=h;exact bf.cons p (bf.set n p' q)
theorem Rp.pk (h:Rp K H A u v):Pk K H A u v:=by
 cases u<;>(unfold Rp at h;unfold Pk)
 case lst us=>obtain⟨a,xs,r,na,q⟩:=h;exact⟨a,xs,r,q⟩
 case dct ks us=>obtain⟨a,xs,r,na,q⟩:=h;exact⟨a,xs,r,q⟩
 all_goals exact h
theorem Pk.same (e:bh H H')(h:Pk K H A u v):Pk K H' A u v:=by
 cases u<;>(unfold Pk at h ⊢)
 case tup us=>obtain⟨a,xs,r,q,l,z⟩:=h;exact⟨a,xs,r,e a _ q,l,z.same e⟩
 case lst us=>obtain⟨a,xs,r,q,l,z⟩:=h;exact⟨a,xs,r,e a _ q,l,z.same e⟩
 case scr us=>obtain⟨a,xs,r,q,l,z⟩:=h;exact⟨a,xs,r,q.to λo y w=>e a _ w,l,z.same e⟩
 case dct ks us=>obtain⟨a,xs,r,q,l,z⟩:=h;exact⟨a,xs,r,q.to (λo w=>e a o w) (λb ys w=>e b _ w),l,z.same e⟩
 all_goals exact h
theorem nU.pk (h:nU K H A u a):Pk K H A u (.ref a):=by
 cases u<;>(unfold nU at h;unfold Pk)
 case lst us=>obtain⟨xs,q,l,z⟩:=h;exact⟨a,xs,rfl,q,l,z⟩
 case dct ks us=>obtain⟨xs,q,l,z⟩:=h;exact⟨a,xs,rfl,q.at,l,z⟩
 all_goals exact h.elim
theorem nU.rp (h:nU K H A u a)(n:∀b,A' b->A b)(na:¬A' a):Rp K H A' u (.ref a):=by
 cases u<;>(unfold nU at h;unfold Rp)
 case lst us=>obtain⟨xs,q,l,z⟩:=h;exact⟨a,xs,rfl,na,q,l,z.mono n⟩
 case dct ks us=>obtain⟨xs,q,l,z⟩:=h;exact⟨a,xs,rfl,na,q.at,l,z.mono n⟩
 all_goals exact h.elim
theorem nU.re (m:∀b,A b->Mu (H b))(e:fY A H H')(n:∀b,A' b->A b\/H b=none)(ea:∀o,H a=some o->H' a=some o)(h:nU K H A u a):nU K H' A' u a:=by
 cases u<;>(unfold nU at h ⊢)
 case lst us=>obtain⟨xs,q,l,z⟩:=h;exact⟨xs,ea _ q,l,z.re m e n⟩
 case dct ks us=>obtain⟨xs,q,l,z⟩:=h;exact⟨xs,q.to ea (λb ys w=>e b _ (λy=>by have:=m b y;rw[w] at this;exact this) w),l,z.re m e n⟩
 all_goals exact h.elim
theorem nU.mu (h:nU K H A u a):Mu (H a):=by
 cases u<;>(unfold nU at h)
 case lst us=>obtain⟨xs,q,_⟩:=h;rw[q];trivial
 case dct ks us=>
  obtain⟨xs,q,_⟩:=h;rcases q with⟨k,q,_⟩|⟨k,n,q,_⟩
  ·rw[q];trivial
  ·obtain⟨ep,q⟩:=q.ne n;rw[q];trivial
 all_goals exact h.elim
end
structure Pkg where
 A0:YG->Prop
 B:Hp
 a0:YG
structure Gm where
 own:List Bool
 io:Bool
 W:Hp->Prop
noncomputable def Gm.is (G:Gm)(i:Nat):Bool:=G.own.getD i false
structure ef (K:Ye)(G:Gm)(Z:Pkg)(A:YG->Prop)(ρ:Ev)(σ:St)(H:Hp):Prop where
 slot:∀i u,ρ[i]? = some (some u)->∃v,σ[i]? = some (some v)/\if G.is i=true then (∃a,v=.ref a/\A a/\Z.B a=none/\(¬Z.A0 a\/(G.io=true/\i=0))/\nU K H A u a) else Rp K H A u v
 dis:∀i j u w a,G.is i=true->G.is j=true->i≠j->ρ[i]? = some (some u)->ρ[j]? = some (some w)->σ[i]? = some (some (.ref a))->σ[j]? = some (some (.ref a))->False
 mu:∀a,A a->Mu (H a)
 sup:∀a,Z.A0 a->A a
 out:∀a,A a->Z.A0 a\/Z.B a=none
 bas:∀a o,Z.B a=some o->H a=some o
 io0:G.io=true->σ[0]? = some (some (.ref Z.a0))/\G.is 0=true
 len:ρ.length=σ.length
section
variable {A':YG->Prop}{G:Gm}{Z:Pkg}{ρ':Ev}
theorem ef.same (r:ef K G Z A ρ σ H)(e:bh H H'):ef K G Z A ρ σ H' where
 slot:=λi u h=>by
  obtain⟨v,h1,h2⟩:=r.slot i u h;refine⟨v,h1,?_⟩;by_cases c:G.is i=true
  ·rw[hV c] at h2 ⊢;obtain⟨a,e1,e2,e3,e4,e5⟩:=h2;exact⟨a,e1,e2,e3,e4,e5.re r.mu (fY.same e) (λb z=>.inl z) λo w=>e a o w⟩
  ·rw[hU c] at h2 ⊢;exact h2.same e
 dis:=r.dis
 mu:=λa h=>by
  have m:=r.mu a h;obtain⟨o,q⟩:=m.ex;rw[e a o q,←q];exact m
 sup:=r.sup
 out:=r.out
 bas:=λa o h=>e a o (r.bas a o h)
 io0:=r.io0
 len:=r.len
theorem ef.add (r:ef K G Z A ρ σ H)(e:bh H H')(n:H a=none)(m:Mu (H' a)):ef K G Z (λb=>A b\/b=a) ρ σ H' where
 slot:=λi u h=>by
  have q:∀b,(A b\/b=a)->A b\/H b=none:=λb z=>by
   rcases z with z|z
   ·exact .inl z
   ·subst z;exact .inr n
  obtain⟨v,h1,h2⟩:=r.slot i u h;refine⟨v,h1,?_⟩;by_cases c:G.is i=true
  ·rw[hV c] at h2 ⊢;obtain⟨b,e1,e2,e3,e4,e5⟩:=h2;exact⟨b,e1,.inl e2,e3,e4,e5.re r.mu (fY.same e) q λo w=>e b o w⟩
  ·rw[hU c] at h2 ⊢;exact h2.re r.mu (fY.same e) q
 dis:=r.dis
 mu:=λb h=>by
  rcases h with h|h
  ·exact (r.same e).mu b h
  ·subst h;exact m
 sup:=λb h=>.inl (r.sup b h)
 out:=λb h=>by
  rcases h with h|h
  ·exact r.out b h
  ·subst h;refine .inr ?_;cases q:Z.B b with
   |none=>rfl
   |some o=>rw[r.bas b o q] at n;cases n
 bas:=λa o h=>e a o (r.bas a o h)
 io0:=r.io0
 len:=r.len
def ef.notA (r:ef K G Z A ρ σ H)(n:H a=none):¬A a:=λz=>by
 have:=r.mu a z;rw[n] at this;exact this
theorem ef.notB (r:ef K G Z A ρ σ H)(n:H a=none):Z.B a=none:=by
 cases q:Z.B a with
 |none=>rfl
 |some o=>rw[r.bas a o q] at n;cases n
theorem ef.val (r:ef K G Z A ρ σ H)(c:G.is i=false)(h:ρ[i]? = some (some u)):∃v,σ[i]? = some (some v)/\Rp K H A u v:=by
 obtain⟨v,h1,h2⟩:=r.slot i u h;rw[hU (by rw[c];exact Yd)] at h2;exact⟨v,h1,h2⟩
theorem ef.own (r:ef K G Z A ρ σ H)(c:G.is i=true)(h:ρ[i]? = some (some u)):∃a,σ[i]? = some (some (.ref a))/\A a/\Z.B a=none/\(¬Z.A0 a\/(G.io=true/\i=0))/\nU K H A u a:=by
 obtain⟨v,h1,h2⟩:=r.slot i u h;rw[hV c] at h2;obtain⟨a,rfl,z⟩:=h2;exact⟨a,h1,z⟩
end
end L2
variable {Z:L2.Pkg}
namespace L2
inductive Md where
 |S|O|P
 deriving DecidableEq
def wZ (K:Ye)(G:Gm)(Z:Pkg)(m:Md)(A:YG->Prop)(ρ:Ev)(σ:St)(H:Hp)(u:U)(v:V):Prop:=match m with
 | .S=>Rp K H A u v
 | .P=>Pk K H A u v
 | .O=>∃a,v=.ref a/\¬A a/\Z.B a=none/\ef K G Z (λb=>A b\/b=a) ρ σ H/\nU K H (λb=>A b\/b=a) u a
def Gp (K:Ye)(m:Md)(A:YG->Prop)(H H':Hp)(u:U)(v:V):Prop:=match m with
 | .S=>Rp K H' A u v
 | .P=>Pk K H' A u v
 | .O=>∃a,v=.ref a/\H a=none/\nU K H' (λb=>A b\/b=a) u a
def KP (K:Ye)(G:Gm)(Z:Pkg)(A:YG->Prop)(b:Bool)(m:Md)(ρ:Ev)(σ:St)(H:Hp):R (U×Ev)->VK->Prop
 | .ok (u,ρ'),Q=>∀v H',ef K G Z A ρ' σ H'->fY A H H'->(b=false->ρ'=ρ/\bh H H')->wZ K G Z m A ρ' σ H' u v->Q v H'
 |_,_=>False
def tD (K:Ye)(G:Gm)(b:Bool)(m:Md)(g:Ev->R (U×Ev)):TE:=λσ H Q=>∃Z A ρ,ef K G Z A ρ σ H/\KP K G Z A b m ρ σ H (g ρ) Q
structure DE (X:Cx)(G:Gm)(e:aaE)(b:Bool)(m:Md)(g:Ev->R (U×Ev)):Prop where
 un:PE X e (tD X.K G b m g)
def KQ (K:Ye)(G:Gm)(Z:Pkg)(A:YG->Prop)(b:Bool)(ρ:Ev)(σ:St)(H:Hp):R (Bool×Ev)->(Bool->Hp->Prop)->Prop
 | .ok (c,ρ'),Q=>∀H',ef K G Z A ρ' σ H'->fY A H H'->(b=false->ρ'=ρ/\bh H H')->Q c H'
 |_,_=>False
def Gq (K:Ye)(G:Gm)(b:Bool)(g:Ev->R (Bool×Ev)):TT:=λσ H Q=>∃Z A ρ,ef K G Z A ρ σ H/\KQ K G Z A b ρ σ H (g ρ) Q
structure DT (X:Cx)(G:Gm)(e:aaE)(b:Bool)(g:Ev->R (Bool×Ev)):Prop where
 un:PT X e (Gq X.K G b g)
def B6 (K:Ye)(H:Hp)(A:YG->Prop):List U->List V->Prop
 | [],vs=>vs=[]
 |u::us,vs=>∃x r,vs=x::r/\Pk K H A u x/\B6 K H A us r
def KR (K:Ye)(p:Bool)(A:YG->Prop)(H:Hp)(us:List U)(vs:List V):Prop:=if p=true then B6 K H A us vs else bf K H A us vs
def KS (K:Ye)(G:Gm)(Z:Pkg)(A:YG->Prop)(b p:Bool)(ρ:Ev)(σ:St)(H:Hp):R (List U×Ev)->(List V->Hp->Prop)->Prop
 | .ok (us,ρ'),Q=>∀vs H',ef K G Z A ρ' σ H'->fY A H H'->(b=false->ρ'=ρ/\bh H H')->KR K p A H' us vs->Q vs H'
 |_,_=>False
def T9 (K:Ye)(G:Gm)(b p:Bool)(g:Ev->R (List U×Ev)):TA:=λσ H Q=>∃Z A ρ,ef K G Z A ρ σ H/\KS K G Z A b p ρ σ H (g ρ) Q
structure DA (X:Cx)(G:Gm)(es:List aaE)(b p:Bool)(g:Ev->R (List U×Ev)):Prop where
 un:PA X es (T9 X.K G b p g)
section
variable {e:aaE}{t t':TE}
def PE.to (h:PE X e t)(i:∀σ H Q,t' σ H Q->t σ H Q):PE X e t':=λpins s σ H Q I q=>h pins s σ H Q I (i _ _ _ q)
def PT.to {t t':TT}(h:PT X e t)(i:∀σ H Q,t' σ H Q->t σ H Q):PT X e t':=λpins s σ H Q I q=>h pins s σ H Q I (i _ _ _ q)
def PW.to {t t':TT}(h:PW X e t)(i:∀σ H Q,t' σ H Q->t σ H Q):PW X e t':=λqt pins s σ H Q I q=>h qt pins s σ H Q I (i _ _ _ q)
def PA.to {es:List aaE}{t t':TA}(h:PA X es t)(i:∀σ H Q,t' σ H Q->t σ H Q):PA X es t':=λpos pins s σ H Q I q=>h pos pins s σ H Q I (i _ _ _ q)
def PS.to {t t':TS}(h:PS X st t)(i:∀D σ H,t' D σ H->t D σ H):PS X st t':=λpins s σ H D I q=>h pins s σ H D I (i _ _ _ q)
def wN.to {st:List ab4}{t t':TS}(h:wN X st t)(i:∀D σ H,t' D σ H->t D σ H):wN X st t':=λpins s σ H D I q=>h pins s σ H D I (i _ _ _ q)
def PG.to {t t':TG}(h:PG X e t)(i:∀v σ H Q,t' v σ H Q->t v σ H Q):PG X e t':=λpins s σ H v u Q I r q=>h pins s σ H v u Q I r (i _ _ _ _ q)
end
section
variable {G:Gm}{A':YG->Prop}{ρ':Ev}{m:Md}{b:Bool}
theorem wZ.rp (h:wZ K G Z m A ρ σ H u v)(n:m≠.P):Rp K H A u v:=by
 cases m with
 |S=>exact h
 |O=>
  obtain⟨a,rfl,na,_,_,t⟩:=h;exact t.rp (λb z=>.inl z) na
 |P=>exact absurd rfl n
theorem wZ.pk (h:wZ K G Z m A ρ σ H u v):Pk K H A u v:=by
 by_cases c:m=.P
 ·subst c;exact h
 ·exact (h.rp c).pk
theorem Gp.e (r:ef K G Z A ρ σ H)(s:bh H H')(h:Gp K m A H H' u v):wZ K G Z m A ρ σ H' u v:=by
 cases m with
 |S=>exact h
 |P=>exact h
 |O=>
  obtain⟨a,rfl,n,t⟩:=h;exact⟨a,rfl,r.notA n,r.notB n,r.add s n t.mu,t⟩
def wZ.later (r:ef K G Z A ρ σ H)(h:wZ K G Z m A ρ σ H u v)(x:fY A H H')(s:b=false->ρ'=ρ/\bh H H')(c:m=.P->b=false):Pk K H' A u v:=by
 by_cases d:m=.P
 ·exact h.pk.same (s (c d)).2
 ·exact ((h.rp d).re r.mu x λb z=>.inl z).pk
def wZ.laterS (r:ef K G Z A ρ σ H)(h:wZ K G Z m A ρ σ H u v)(x:fY A H H')(d:m≠.P):Rp K H' A u v:=(h.rp d).re r.mu x λb z=>.inl z
theorem two {b1 b2:Bool}{ρ2:Ev}(h1:b1=false->ρ1=ρ/\bh H H1)(h2:b2=false->ρ2=ρ1/\bh H1 H2):(b1||b2)=false->ρ2=ρ/\bh H H2:=λh=>by
 rw[Zq] at h;obtain⟨a,b⟩:=h1 h.1;obtain⟨c,d⟩:=h2 h.2;exact⟨c.trans a,b.trans d⟩
def oE {b1:Bool}(h1:b1=false->ρ1=ρ/\bh H H1)(h2:bh H1 H2):b1=false->ρ1=ρ/\bh H H2:=λh=>⟨(h1 h).1,(h1 h).2.trans h2⟩
end
noncomputable def ai (i:Nat):Ev->R (U×Ev):=λρ=>match ρ[i]? with
 |some (some u)=>.ok (u,ρ)
 |_=>.stk
noncomputable def gC (u:U):Ev->R (U×Ev):=λρ=>.ok (u,ρ)
noncomputable abbrev zqc (n:Int):Ev->R (U×Ev):=gC (.int n)
section
variable {G:Gm}{e a b:aaE}{es:List aaE}
theorem Rf {b:Bool}{m:Md}(h:PE X e (NU i))(c:G.is i=false):DE X G e false .S (ai i):=by
 refine⟨h.to λσ H Q ⟨Z,A,ρ,r,f⟩=>?_⟩;unfold ai at f;split at f
 ·rename_i u hu;obtain⟨v,h1,h2⟩:=r.val c hu;exact⟨v,h1,f v H r fY.refl (λ_=>⟨rfl,bh.refl _⟩) h2⟩
 ·exact f.elim
def ao (i:Nat)(hN:X.N[i]? = some x:=by rfl)(hv:GA X.env.scope x:=by first|exact Or.inl rfl|exact Or.inr (Or.inl rfl)|exact Or.inr (Or.inr rfl))(hd:(x==("__debug__":Str))=false:=by decide)
  (tw:(x==("__classdict__":Str))=false:=by decide) (c:G.is i=false:=by rfl):DE X G (.Name x pos) false .S (ai i):=Rf (b:=false) (m:=.S) (mH hN hv hd tw) c
theorem kN (i:Nat)(hN:X.N[i]? = some x:=by rfl)(hv:GA X.env.scope x:=by first|exact Or.inl rfl|exact Or.inr (Or.inl rfl)|exact Or.inr (Or.inr rfl))(hd:(x==("__debug__":Str))=false:=by decide)
  (tw:(x==("__classdict__":Str))=false:=by decide) (c:G.is i=true:=by rfl):DE X G (.Name x pos) false .P (ai i):=by
 refine⟨(mH hN hv hd tw).to λσ H Q ⟨Z,A,ρ,r,f⟩=>?_⟩;unfold ai at f;split at f
 ·rename_i u hu;obtain⟨a,h1,_,_,_,h2⟩:=r.own c hu;exact⟨.ref a,h1,f _ H r fY.refl (λ_=>⟨rfl,bh.refl _⟩) h2.pk⟩
 ·exact f.elim
def G8 (h:PE X e (tC v))(r:∀K H A,Rp K H A u v):DE X G e false .S (gC u):=by
 refine⟨h.to λσ H Q ⟨Z,A,ρ,q,f⟩=>?_⟩;exact f v H q fY.refl (λ_=>⟨rfl,bh.refl _⟩) (r _ _ _)
def ah {i j pos}:DE X G (.Constant (.int i) j pos) false .S (gC (.int i)):=G8 NV λ_ _ _=>by unfold Rp;rfl
def eh {i j pos}:DE X G (.Constant (.bool i) j pos) false .S (gC (.bl i)):=G8 Qw λ_ _ _=>by unfold Rp;rfl
def jg {j pos}:DE X G (.Constant .none j pos) false .S (gC .non):=G8 NW λ_ _ _=>by unfold Rp;rfl
def aL {i j pos}:DE X G (.Constant (.str i) j pos) false .S (gC (.str i)):=G8 NY λ_ _ _=>by unfold Rp;rfl
def pG {i:Int}{tk:Tok}(hg:Gl X x)(hm:X.mg x=some (.int i tk))(hd:(x==("__debug__":Str))=false:=by decide):DE X G (.Name x pos) false .S (gC (.int i)):=G8 (v:=.int i) (Kh hg hm ⟨_,rfl⟩ hd) λ_ _ _=>by unfold Rp;rfl
noncomputable def aK (p:U->U->R U)(g1 g2:Ev->R (U×Ev)):Ev->R (U×Ev):=λρ=>(g1 ρ).bind λx=>(g2 x.2).bind λy=>(p x.1 y.1).bind λz=>.ok (z,y.2)
def eQ (K:Ye)(r:R2)(m:Md)(p:U->U->R U):Prop:=∀A H x y u w z Q,Pk K H A u x->Pk K H A w y->(∀a,A a->Mu (H a))->p u w=.ok z->(∀v H',bh H H'->Gp K m A H H' z v->Q v H')->r x y H Q
variable {b1 b2 b3:Bool}{m1 m2 m3 mr:Md}{g1 g2 g3:Ev->R (U×Ev)}
theorem tL {p:U->U->R U}(hp:eQ X.K r mr p)(hm:m1=.P->b2=false){Q:VK}(h:tD X.K G (b1||b2) mr (aK p g1 g2) σ H Q) :
  QL r (tD X.K G b1 m1 g1) (tD X.K G b2 m2 g2) σ H Q:=by
 obtain⟨Z,A,ρ,q,f⟩:=h;unfold aK at f;refine⟨Z,A,ρ,q,?_⟩;cases e1:g1 ρ with
 |stk=>rw[e1] at f;exact f.elim
 |exc=>rw[e1] at f;exact f.elim
 |ok x=>
  obtain⟨u,ρ1⟩:=x;rw[e1] at f;intro v1 H1 q1 x1 s1 t7;refine⟨Z,A,ρ1,q1,?_⟩;cases e2:g2 ρ1 with
  |stk=>simp only[R.bind,e2] at f;exact f.elim
  |exc=>simp only[R.bind,e2] at f;exact f.elim
  |ok y=>
   obtain⟨w,ρ2⟩:=y;simp only[R.bind,e2] at f;intro v2 H2 q2 x2 s2 vR;cases e3:p u w with
   |stk=>rw[e3] at f;exact f.elim
   |exc=>rw[e3] at f;exact f.elim
   |ok z=>
    rw[e3] at f;refine hp A H2 v1 v2 u w z Q (t7.later q1 x2 s2 hm) vR.pk q2.mu e3 λv H' sm vm=>?_;exact f v H' (q2.same sm) ((x1.trans x2).trans (fY.same sm)) (oE (two s1 s2) sm) (vm.e q2 sm)
def a8 {op:Operator}{p:U->U->R U}(ho:jt X (aa3 op) r)(hp:eQ X.K r mr p)(ha:DE X G a b1 m1 g1)(hb:DE X G b b2 m2 g2)(hm:m1=.P->b2=false:=by first|exact λ_=>rfl|exact λh=>nomatch h) :
  DE X G (.BinOp a op b pos) (b1||b2) mr (aK p g1 g2):=⟨(Ma ho ha.un hb.un).to λ_ _ _=>tL hp hm⟩
def gI {p:U->U->R U}(ho:jt X (Zn op) r)(hp:eQ X.K r mr p)(ha:DE X G a b1 m1 g1)(hb:DE X G b b2 m2 g2)(hk:abl op b=false)(hm:m1=.P->b2=false:=by first|exact λ_=>rfl|exact λh=>nomatch h) :
  DE X G (.Compare a [op] [b] pos) (b1||b2) mr (aK p g1 g2):=⟨(Kt ho ha.un hb.un hk).to λ_ _ _=>tL hp hm⟩
def aI {p:U->U->R U}(ho:J3 X r)(hp:eQ X.K r mr p)(ha:DE X G a b1 m1 g1)(hb:DE X G b b2 m2 g2)(hs:Dr b)(hm:m1=.P->b2=false:=by first|exact λ_=>rfl|exact λh=>nomatch h) :
  DE X G (.Subscript a b pos) (b1||b2) mr (aK p g1 g2):=⟨(QX ho ha.un hb.un hs).to λ_ _ _=>tL hp hm⟩
noncomputable def gB (g:Ev->R (U×Ev)):Ev->R (Bool×Ev):=λρ=>(g ρ).bind λx=>match x.1 with
 | .bl c=>.ok (c,x.2)
 |_=>.stk
theorem qI {g:Ev->R (U×Ev)}{m:Md}{Q:Bool->Hp->Prop}(h:Gq X.K G b1 (gB g) σ H Q):tD X.K G b1 m g σ H λx H'=>∃k,x=.bl k/\Q k H':=by
 obtain⟨Z,A,ρ,q,f⟩:=h;refine⟨Z,A,ρ,q,?_⟩;unfold gB at f;cases e1:g ρ with
 |stk=>rw[e1] at f;exact f.elim
 |exc=>rw[e1] at f;exact f.elim
 |ok x=>
  obtain⟨u,ρ1⟩:=x;rw[e1] at f;intro v H1 q1 x1 s1 vm;cases u with
  |bl c=>
   have e:v=.bl c:=by have:=vm.pk;unfold Pk at this;exact this
   exact⟨c,e,f H1 q1 x1 s1⟩
  |_=>exact f.elim
def cL (h:DE X G e b1 m1 g1)(he:∀qt,isTrue e X.env qt=(do let v ←qt;standAt e.pos;holding [v] (truthy v)):=by intro _;rfl):DT X G e b1 (gB g1):=⟨(NZ h.un he).to λ_ _ _ h=>qI h⟩
def aQ {p:U->U->R U}(ho:jt X (Zn op) r)(hp:eQ X.K r mr p)(ha:DE X G a b1 m1 g1)(hb:DE X G b b2 m2 g2)(hk:abl op b=false)(hm:m1=.P->b2=false:=by first|exact λ_=>rfl|exact λh=>nomatch h) :
  DT X G (.Compare a [op] [b] pos) (b1||b2) (gB (aK p g1 g2)):=⟨(Ku ho ha.un hb.un hk).to λ_ _ _ h=>tL hp hm (qI (m:=mr) h)⟩
end
end L2
namespace L2
section
variable {G:Gm}{A':YG->Prop}{ρ':Ev}{b p:Bool}{m:Md}{α:Type}
theorem KP.bind {x:R α}{k:α->R (U×Ev)}{Q:VK}(f:KP K G Z A b m ρ σ H (x.bind k) Q):∃a,x=.ok a/\KP K G Z A b m ρ σ H (k a) Q:=by
 cases x with
 |ok a=>exact⟨a,rfl,f⟩
 |exc=>exact f.elim
 |stk=>exact f.elim
theorem KQ.bind {x:R α}{k:α->R (Bool×Ev)}{Q:Bool->Hp->Prop}(f:KQ K G Z A b ρ σ H (x.bind k) Q):∃a,x=.ok a/\KQ K G Z A b ρ σ H (k a) Q:=by
 cases x with
 |ok a=>exact⟨a,rfl,f⟩
 |exc=>exact f.elim
 |stk=>exact f.elim
theorem KS.bind {x:R α}{k:α->R (List U×Ev)}{Q:List V->Hp->Prop}(f:KS K G Z A b p ρ σ H (x.bind k) Q):∃a,x=.ok a/\KS K G Z A b p ρ σ H (k a) Q:=by
 cases x with
 |ok a=>exact⟨a,rfl,f⟩
 |exc=>exact f.elim
 |stk=>exact f.elim
def Pk.bl {c:Bool}(h:Pk K H A (.bl c) v):v=.bl c:=by unfold Pk at h;exact h
def Pk.int {i:Int}(h:Pk K H A (.int i) v):v=.int i:=by unfold Pk at h;exact h
def Pk.str {i:Str}(h:Pk K H A (.str i) v):v=.str i:=by unfold Pk at h;exact h
def gJ {c:Bool}:Rp K H A (.bl c) (.bl c):=by unfold Rp;rfl
def eC {c:Int}:Rp K H A (.int c) (.int c):=by unfold Rp;rfl
def wZ.ofS (h:Rp K H A u v):wZ K G Z .S A ρ σ H u v:=h
def ur:Rp K H A .non .non:=by unfold Rp;rfl
def OA {c:Str}:Rp K H A (.str c) (.str c):=by unfold Rp;rfl
theorem bf.pks:∀{us:List U} {vs:List V},bf K H A us vs->B6 K H A us vs
 | [],_,h=>by unfold bf at h;unfold B6;exact h
 |u::us,_,h=>by
  unfold bf at h;unfold B6;obtain⟨x,r,e,z,q⟩:=h;exact⟨x,r,e,z.pk,bf.pks q⟩
end
section
variable {G:Gm}{e a b:aaE}{es rest:List aaE}{b1 b2 b3:Bool}{m1 m2 m3 mr:Md}{g1 g2 g3:Ev->R (U×Ev)}{h1 h2:Ev->R (Bool×Ev)}
noncomputable def mK (g1 g2:Ev->R (Bool×Ev)):Ev->R (Bool×Ev):=λρ=>(g1 ρ).bind λx=>if x.1=true then g2 x.2 else .ok (false,x.2)
noncomputable def vY (g1 g2:Ev->R (Bool×Ev)):Ev->R (Bool×Ev):=λρ=>(g1 ρ).bind λx=>if x.1=true then .ok (true,x.2) else g2 x.2
noncomputable def ko (g1:Ev->R (Bool×Ev)):Ev->R (Bool×Ev):=λρ=>(g1 ρ).bind λx=>.ok (!x.1,x.2)
structure DW (X:Cx)(G:Gm)(e:aaE)(b:Bool)(g:Ev->R (Bool×Ev)):Prop where
 un:PW X e (Gq X.K G b g)
def DW.dt (h:DW X G e b1 h1):DT X G e b1 h1:=⟨PW.pt h.un⟩
theorem G9 {Q:Bool->Hp->Prop}(h:Gq X.K G (b1||b2) (mK h1 h2) σ H Q):Qx (Gq X.K G b1 h1) (Gq X.K G b2 h2) σ H Q:=by
 obtain⟨Z,A,ρ,q,f⟩:=h;obtain⟨⟨k,ρ1⟩,e1,f⟩:=f.bind;refine⟨Z,A,ρ,q,?_⟩;rw[e1];intro H1 q1 x1 s1;cases k with
 |true=>
  rw[hV rfl] at f ⊢;refine⟨Z,A,ρ1,q1,?_⟩;dsimp only at f;cases e2:h2 ρ1 with
  |ok y=>rw[e2] at f;exact λH2 q2 x2 s2=>f H2 q2 (x1.trans x2) (two s1 s2)
  |exc=>rw[e2] at f;exact f.elim
  |stk=>rw[e2] at f;exact f.elim
 |false=>
  rw[hU Yd] at f ⊢;exact f H1 q1 x1 λz=>s1 (Zq.mp z).1
theorem KU {Q:Bool->Hp->Prop}(h:Gq X.K G (b1||b2) (vY h1 h2) σ H Q):Vh (Gq X.K G b1 h1) (Gq X.K G b2 h2) σ H Q:=by
 obtain⟨Z,A,ρ,q,f⟩:=h;obtain⟨⟨k,ρ1⟩,e1,f⟩:=f.bind;refine⟨Z,A,ρ,q,?_⟩;rw[e1];intro H1 q1 x1 s1;cases k with
 |false=>
  rw[hU Yd] at f ⊢;refine⟨Z,A,ρ1,q1,?_⟩;dsimp only at f;cases e2:h2 ρ1 with
  |ok y=>rw[e2] at f;exact λH2 q2 x2 s2=>f H2 q2 (x1.trans x2) (two s1 s2)
  |exc=>rw[e2] at f;exact f.elim
  |stk=>rw[e2] at f;exact f.elim
 |true=>
  rw[hV rfl] at f ⊢;exact f H1 q1 x1 λz=>s1 (Zq.mp z).1
def ky (ha:DT X G a b1 h1):DW X G (.BoolOp .And [a] pos) b1 h1:=⟨Kj ha.un⟩
def gK (ha:DT X G a b1 h1):DW X G (.BoolOp .Or [a] pos) b1 h1:=⟨N0 ha.un⟩
def gN (ha:DT X G a b1 h1)(hb:DW X G (.BoolOp .And (b::rest) pos) b2 h2):DW X G (.BoolOp .And (a::b::rest) pos) (b1||b2) (mK h1 h2):=⟨(N1 ha.un hb.un).to λ_ _ _=>G9⟩
def iA (ha:DT X G a b1 h1)(hb:DW X G (.BoolOp .Or (b::rest) pos) b2 h2):DW X G (.BoolOp .Or (a::b::rest) pos) (b1||b2) (vY h1 h2):=⟨(Qy ha.un hb.un).to λ_ _ _=>KU⟩
theorem d0 (ha:DT X G a b1 h1):DT X G (.UnaryOp .Not a pos) b1 (ko h1):=⟨(N2 ha.un).to λσ H Q h=>by
 obtain⟨Z,A,ρ,q,f⟩:=h;obtain⟨⟨k,ρ1⟩,e1,f⟩:=f.bind;refine⟨Z,A,ρ,q,?_⟩;rw[e1];exact λH1 q1 x1 s1=>f H1 q1 x1 s1⟩
noncomputable def mC (g1 g2:Ev->R (U×Ev)):Ev->R (U×Ev):=λρ=>(gB g1 ρ).bind λx=>if x.1=true then g2 x.2 else .ok (.bl false,x.2)
noncomputable def T_ (g1 g2:Ev->R (U×Ev)):Ev->R (U×Ev):=λρ=>(gB g1 ρ).bind λx=>if x.1=true then .ok (.bl true,x.2) else g2 x.2
noncomputable def G_ (g1:Ev->R (U×Ev)):Ev->R (U×Ev):=λρ=>(gB g1 ρ).bind λx=>.ok (.bl (!x.1),x.2)
theorem Ha {g:Ev->R (U×Ev)}{k:Bool}(h:gB g ρ=.ok (k,ρ1)):g ρ=.ok (.bl k,ρ1):=by
 unfold gB at h;cases e:g ρ with
 |ok y=>
  obtain⟨u,ρ2⟩:=y;rw[e] at h;cases u<;>simp[R.bind] at h;obtain⟨rfl,rfl⟩:=h;rfl
 |exc=>rw[e] at h;simp[R.bind] at h
 |stk=>rw[e] at h;simp[R.bind] at h
theorem gO (hn:m2≠.P:=by decide)(ha:DE X G a b1 m1 g1)(hb:DE X G (.BoolOp .And (b::rest) pos) b2 m2 g2):DE X G (.BoolOp .And (a::b::rest) pos) (b1||b2) .S (mC g1 g2):=⟨(N4 ha.un hb.un).to λσ H Q h=>by
 obtain⟨Z,A,ρ,q,f⟩:=h;obtain⟨⟨k,ρ1⟩,e1,f⟩:=f.bind;refine⟨Z,A,ρ,q,?_⟩;rw[Ha e1];intro v H1 q1 x1 s1 vm;refine⟨k,vm.pk.bl,?_⟩;cases k with
 |true=>
  rw[hV rfl] at f ⊢;refine⟨Z,A,ρ1,q1,?_⟩;dsimp only at f;cases e2:g2 ρ1 with
  |ok y=>rw[e2] at f;exact λv2 H2 q2 x2 s2 vR=>f v2 H2 q2 (x1.trans x2) (two s1 s2) (vR.rp hn)
  |exc=>rw[e2] at f;exact f.elim
  |stk=>rw[e2] at f;exact f.elim
 |false=>
  rw[hU Yd] at f ⊢;exact f _ H1 q1 x1 (λz=>s1 (Zq.mp z).1) (wZ.ofS gJ)⟩
theorem Rg (hn:m2≠.P:=by decide)(ha:DE X G a b1 m1 g1)(hb:DE X G (.BoolOp .Or (b::rest) pos) b2 m2 g2):DE X G (.BoolOp .Or (a::b::rest) pos) (b1||b2) .S (T_ g1 g2):=⟨(QB ha.un hb.un).to λσ H Q h=>by
 obtain⟨Z,A,ρ,q,f⟩:=h;obtain⟨⟨k,ρ1⟩,e1,f⟩:=f.bind;refine⟨Z,A,ρ,q,?_⟩;rw[Ha e1];intro v H1 q1 x1 s1 vm;refine⟨k,vm.pk.bl,?_⟩;cases k with
 |false=>
  rw[hU Yd] at f ⊢;refine⟨Z,A,ρ1,q1,?_⟩;dsimp only at f;cases e2:g2 ρ1 with
  |ok y=>rw[e2] at f;exact λv2 H2 q2 x2 s2 vR=>f v2 H2 q2 (x1.trans x2) (two s1 s2) (vR.rp hn)
  |exc=>rw[e2] at f;exact f.elim
  |stk=>rw[e2] at f;exact f.elim
 |true=>
  rw[hV rfl] at f ⊢;exact f _ H1 q1 x1 (λz=>s1 (Zq.mp z).1) (wZ.ofS gJ)⟩
def jK {op}(ha:DE X G a b1 m1 g1):DE X G (.BoolOp op [a] pos) b1 m1 g1:=⟨N3 ha.un⟩
theorem B7 (ha:DE X G a b1 m1 g1):DE X G (.UnaryOp .Not a pos) b1 .S (G_ g1):=⟨(N5 ha.un).to λσ H Q h=>by
 obtain⟨Z,A,ρ,q,f⟩:=h;obtain⟨⟨k,ρ1⟩,e1,f⟩:=f.bind;refine⟨Z,A,ρ,q,?_⟩;rw[Ha e1];exact λv H1 q1 x1 s1 vm=>⟨k,vm.pk.bl,f _ H1 q1 x1 s1 (wZ.ofS gJ)⟩⟩
noncomputable def Ua (h:Ev->R (Bool×Ev))(g1 g2:Ev->R (U×Ev)):Ev->R (U×Ev):=λρ=>(h ρ).bind λx=>if x.1=true then g1 x.2 else g2 x.2
theorem Hb (WQ:m1≠.P:=by decide)(Qq:m2≠.P:=by decide)(hc:DT X G c b1 h1)(ha:DE X G a b2 m1 g1)(hb:DE X G b b3 m2 g2):DE X G (.IfExp c a b pos) (b1||(b2||b3)) .S (Ua h1 g1 g2):=⟨(GB hc.un ha.un hb.un).to λσ H Q h=>by
 obtain⟨Z,A,ρ,q,f⟩:=h;obtain⟨⟨k,ρ1⟩,e1,f⟩:=f.bind;refine⟨Z,A,ρ,q,?_⟩;rw[e1];intro H1 q1 x1 s1;cases k with
 |true=>
  rw[hV rfl] at f ⊢;refine⟨Z,A,ρ1,q1,?_⟩;dsimp only at f;cases e2:g1 ρ1 with
  |ok y=>rw[e2] at f;exact λv2 H2 q2 x2 s2 vR=>f v2 H2 q2 (x1.trans x2) (two s1 λz=>s2 (Zq.mp z).1) (vR.rp WQ)
  |exc=>rw[e2] at f;exact f.elim
  |stk=>rw[e2] at f;exact f.elim
 |false=>
  rw[hU Yd] at f ⊢;refine⟨Z,A,ρ1,q1,?_⟩;dsimp only at f;cases e2:g2 ρ1 with
  |ok y=>rw[e2] at f;exact λv2 H2 q2 x2 s2 vR=>f v2 H2 q2 (x1.trans x2) (two s1 λz=>s2 (Zq.mp z).2) (vR.rp Qq)
  |exc=>rw[e2] at f;exact f.elim
  |stk=>rw[e2] at f;exact f.elim⟩
noncomputable def kO (p p':U->U->R U)(g1 g2 g3:Ev->R (U×Ev)):Ev->R (U×Ev):=λρ=>(g1 ρ).bind λx=>(g2 x.2).bind λy=>(p x.1 y.1).bind λz=>match z with
 | .bl k=>if k=true then (g3 y.2).bind λw=>(p' y.1 w.1).bind λz'=>.ok (z',w.2) else .ok (.bl false,y.2)
 |_=>.stk
theorem uu {p:U->U->R U}(hp:eQ X.K r .S p)(BI:eQ X.K r' .S p')(n1:m1≠.P)(n2:m2≠.P){Q:VK}(h:tD X.K G (b1||(b2||b3)) .S (kO p p' g1 g2 g3) σ H Q) :
  BQ r r' (tD X.K G b1 m1 g1) (tD X.K G b2 m2 g2) (tD X.K G b3 m3 g3) σ H Q:=by
 obtain⟨Z,A,ρ,q,f⟩:=h;obtain⟨⟨u,ρ1⟩,e1,f⟩:=f.bind;obtain⟨⟨w,ρ2⟩,e2,f⟩:=f.bind;obtain⟨z,e3,f⟩:=f.bind;refine⟨Z,A,ρ,q,?_⟩;rw[e1];intro v1 H1 q1 x1 s1 t7;refine⟨Z,A,ρ1,q1,?_⟩;dsimp only at e2;rw[e2];intro v2 H2 q2 x2 s2 vR;refine hp A H2 v1 v2 u w z _ (t7.laterS q1 x2 n1).pk vR.pk q2.mu e3 λv H3 sm vm=>?_;cases z with
 |bl k=>
  refine⟨k,(show Rp X.K H3 A (.bl k) v from vm).pk.bl,?_⟩;have q3:=q2.same sm;cases k with
  |false=>
   rw[hU Yd];exact f _ H3 q3 ((x1.trans x2).trans (fY.same sm)) (λz=>by
    obtain⟨a,b⟩:=Zq.mp z;exact oE (two s1 s2) sm (by rw[a,(Zq.mp b).1];rfl)) (wZ.ofS gJ)
  |true=>
   rw[hV rfl];dsimp only at f;rw[hV rfl] at f;obtain⟨⟨w3,ρ3⟩,e4,f⟩:=f.bind;obtain⟨z',e5,f⟩:=f.bind;refine⟨Z,A,ρ2,q3,?_⟩;rw[e4];intro v4 H4 q4 x4 s4 WR;refine BI A H4 v2 v4 w w3 z' Q ((vR.rp n2).same sm |>.re q3.mu x4 (λb z=>.inl z)).pk WR.pk q4.mu e5 λv5 H5 NH WS=>?_;refine f v5 H5 (q4.same NH) (((x1.trans x2).trans (fY.same sm)).trans (x4.trans (fY.same NH))) ?_ (WS.e q4 NH);intro z;obtain⟨a,b⟩:=Zq.mp z;obtain⟨b,c⟩:=Zq.mp b;exact oE (two (oE (two s1 s2) sm) s4) NH (by rw[a,b,c];rfl)
 |_=>exact f.elim
def uv {p:U->U->R U}(ho:jt X (Zn op) r)(hp:eQ X.K r .S p)(C7:jt X (Zn op') r')(BI:eQ X.K r' .S p')(ha:DE X G a b1 m1 g1)(hb:DE X G b b2 m2 g2)(hc:DE X G c b3 m3 g3)(n1:m1≠.P:=by decide)(n2:m2≠.P:=by decide)(hm:lastMarks [op,op'] [b,c]=false:=by with_unfolding_all rfl):DE X G (.Compare a [op,op'] [b,c] pos) (b1||(b2||b3)) .S (kO p p' g1 g2 g3):=⟨(GK ho C7 ha.un hb.un hc.un hm).to λ_ _ _=>uu hp BI n1 n2⟩
def zE {p:U->U->R U}(ho:jt X (Zn op) r)(hp:eQ X.K r .S p)(C7:jt X (Zn op') r')(BI:eQ X.K r' .S p')(ha:DE X G a b1 m1 g1)(hb:DE X G b b2 m2 g2)(hc:DE X G c b3 m3 g3)(n1:m1≠.P:=by decide)(n2:m2≠.P:=by decide)(hm:lastMarks [op,op'] [b,c]=false:=by with_unfolding_all rfl):DT X G (.Compare a [op,op'] [b,c] pos) (b1||(b2||b3)) (gB (kO p p' g1 g2 g3)):=⟨(GL ho C7 ha.un hb.un hc.un hm).to λ_ _ _ h=>uu hp BI n1 n2 (qI (m:=.S) h)⟩
noncomputable def Qe (p:U->R U)(g:Ev->R (U×Ev)):Ev->R (U×Ev):=λρ=>(g ρ).bind λx=>(p x.1).bind λz=>.ok (z,x.2)
def OB (K:Ye)(r:V->Hp->VK->Prop)(m:Md)(p:U->R U):Prop:=∀A H x u z Q,Pk K H A u x->(∀a,A a->Mu (H a))->p u=.ok z->(∀v H',bh H H'->Gp K m A H H' z v->Q v H')->r x H Q
theorem KW {r:V->Hp->VK->Prop}{p:U->R U}(hp:OB X.K r mr p){Q:VK}(h:tD X.K G b1 mr (Qe p g1) σ H Q):Vk r (tD X.K G b1 m1 g1) σ H Q:=by
 obtain⟨Z,A,ρ,q,f⟩:=h;obtain⟨⟨u,ρ1⟩,e1,f⟩:=f.bind;obtain⟨z,e2,f⟩:=f.bind;refine⟨Z,A,ρ,q,?_⟩;rw[e1];intro v1 H1 q1 x1 s1 t7;exact hp A H1 v1 u z Q t7.pk q1.mu e2 λv H' sm vm=>f v H' (q1.same sm) (x1.trans (fY.same sm)) (oE s1 sm) (vm.e q1 sm)
def Hd {op:UnaryOp}{r:V->Hp->VK->Prop}{p:U->R U}(ho:S0 X (unaryOp op) r)(hp:OB X.K r mr p)(ha:DE X G a b1 m1 g1):DE X G (.UnaryOp op a pos) b1 mr (Qe p g1):=⟨(QM ho ha.un).to λ_ _ _=>KW hp⟩
noncomputable def ak:Ev->R (List U×Ev):=λρ=>.ok ([],ρ)
noncomputable def ae (g:Ev->R (U×Ev))(ga:Ev->R (List U×Ev)):Ev->R (List U×Ev):=λρ=>(g ρ).bind λx=>(ga x.2).bind λy=>.ok (x.1::y.1,y.2)
variable {ga:Ev->R (List U×Ev)}{p:Bool}
theorem af:DA X G [] false p ak:=⟨qC.to λσ H Q ⟨Z,A,ρ,q,f⟩=>f [] H q fY.refl (λ_=>⟨rfl,bh.refl _⟩) (by unfold KR;split;exact rfl;exact bf.nil)⟩
theorem aa (ha:DE X G e b1 m1 g1)(hr:DA X G es b2 p ga)(hm:m1=.P->(p=true/\b2=false):=by first|exact λ_=>⟨rfl,rfl⟩|exact λh=>nomatch h)
  (hs:YC (e::es) X.env=(false,abN e X.env)::YC es X.env:=by rfl):DA X G (e::es) (b1||b2) p (ae g1 ga):=⟨(kv ha.un hr.un hs).to λσ H Q h=>by
 obtain⟨Z,A,ρ,q,f⟩:=h;obtain⟨⟨u,ρ1⟩,e1,f⟩:=f.bind;obtain⟨⟨us,ρ2⟩,e2,f⟩:=f.bind;refine⟨Z,A,ρ,q,?_⟩;rw[e1];intro v1 H1 q1 x1 s1 t7;refine⟨Z,A,ρ1,q1,?_⟩;dsimp only at e2;rw[e2];intro vs H2 q2 x2 s2 vR;refine f (v1::vs) H2 q2 (x1.trans x2) (two s1 s2) ?_;unfold KR at vR ⊢;cases p with
 |true=>
  rw[hV rfl] at vR ⊢;exact⟨v1,vs,rfl,t7.later q1 x2 s2 (λz=>(hm z).2),vR⟩
 |false=>
  rw[hU Yd] at vR ⊢;exact bf.cons (t7.laterS q1 x2 λz=>Yd (hm z).1) vR⟩
theorem KR.pks (h:KR K p A H us vs):B6 K H A us vs:=by
 unfold KR at h;cases p with
 |true=>rw[hV rfl] at h;exact h
 |false=>rw[hU Yd] at h;exact h.pks
def KR.rps (h:KR K false A H us vs):bf K H A us vs:=by
 unfold KR at h;rw[hU Yd] at h;exact h
noncomputable def az (ga:Ev->R (List U×Ev)):Ev->R (U×Ev):=λρ=>(ga ρ).bind λx=>if x.1.length<=Yf then .ok (.tup x.1,x.2) else .stk
noncomputable def dh (ga:Ev->R (List U×Ev)):Ev->R (U×Ev):=λρ=>(ga ρ).bind λx=>if x.1.length<=Yf then .ok (.lst x.1,x.2) else .stk
def dF {p:YG}(h:H p=none)(o:HO):bh H (eY H p o):=λb u q=>by rw[bY (c9 q h)];exact q
def qJ {a:YG}(h:bf K H A us vs)(n:H a=none)(l:us.length<=Yf):Rp K (eY H a (.tup vs)) A (.tup us) (.ref a):=by
 unfold Rp;exact⟨a,vs,rfl,dg,l,h.same (dF n _)⟩
theorem cM {a:YG}(m:∀b,A b->Mu (H b))(h:bf K H A us vs)(n:H a=none)(l:us.length<=Yf):nU K (eY H a (.lst vs)) (λb=>A b\/b=a) (.lst us) a:=
 ⟨vs,dg,l,h.re m (fY.same (dF n _)) λb z=>by
  rcases z with z|z
  ·exact .inl z
  ·subst z;exact .inr n⟩
theorem av {x1}(h:DA X G es b1 false ga):DE X G (.Tuple es x1 pos) b1 .S (az ga):=⟨(Oh h.un).to λσ H Q h=>by
 obtain⟨Z,A,ρ,q,f⟩:=h;obtain⟨⟨us,ρ1⟩,e1,f⟩:=f.bind;refine⟨Z,A,ρ,q,?_⟩;rw[e1];intro vs H1 q1 x1 s1 t7;dsimp only at f;split at f
 ·rename_i l;refine⟨by rw[←t7.rps.length];exact l,λa n=>?_⟩;exact f _ _ (q1.same (dF n _)) (x1.trans (fY.same (dF n _))) (oE s1 (dF n _)) (wZ.ofS (qJ t7.rps n l))
 ·exact f.elim⟩
theorem cA (h:DA X G es b1 false ga):DE X G (.List es pos) b1 .O (dh ga):=⟨(Oi h.un).to λσ H Q h=>by
 obtain⟨Z,A,ρ,q,f⟩:=h;obtain⟨⟨us,ρ1⟩,e1,f⟩:=f.bind;refine⟨Z,A,ρ,q,?_⟩;rw[e1];intro vs H1 q1 x1 s1 t7;dsimp only at f;split at f
 ·rename_i l;refine⟨by rw[←t7.rps.length];exact l,λa n=>?_⟩;exact f _ _ (q1.same (dF n _)) (x1.trans (fY.same (dF n _))) (oE s1 (dF n _)) (Gp.e q1 (dF n _) ⟨a,rfl,n,cM q1.mu t7.rps n l⟩)
 ·exact f.elim⟩
noncomputable def dZ (p:List U->R U)(ga:Ev->R (List U×Ev)):Ev->R (U×Ev):=λρ=>(ga ρ).bind λx=>(p x.1).bind λz=>.ok (z,x.2)
def nV (K:Ye)(r:List V->Hp->VK->Prop)(m:Md)(p:List U->R U):Prop:=∀A H vs us z Q,B6 K H A us vs->(∀a,A a->Mu (H a))->p us=.ok z->(∀v H',bh H H'->Gp K m A H H' z v->Q v H')->r vs H Q
theorem tM {r:List V->Hp->VK->Prop}{f:List U->R U}(hp:nV X.K r mr f){Q:VK}(h:tD X.K G b1 mr (dZ f ga) σ H Q):T4 r (T9 X.K G b1 p ga) σ H Q:=by
 obtain⟨Z,A,ρ,q,f⟩:=h;obtain⟨⟨us,ρ1⟩,e1,f⟩:=f.bind;obtain⟨z,e2,f⟩:=f.bind;refine⟨Z,A,ρ,q,?_⟩;rw[e1];intro vs H1 q1 x1 s1 t7;exact hp A H1 vs us z Q t7.pks q1.mu e2 λv H' sm vm=>f v H' (q1.same sm) (x1.trans (fY.same sm)) (oE s1 sm) (vm.e q1 sm)
def aE {id:String}{p1:Pos}{r:List V->Hp->VK->Prop}{f:List U->R U}(hc:eZ X (.builtin id) r)(hp:nV X.K r mr f)(hg:Gl X x)(hm:X.mg x=none)(hv:Zg x=some (.builtin id))(ha:DA X G (e::es) b1 true ga)(hn:x≠"__name__":=by decide)(C8:(x==("__debug__":Str))=false:=by decide)
  (he:YC (e::es) X.env=(false,abN e X.env)::YC es X.env:=by rfl) (pj:(abe pos (YC es X.env)).any (·.1)=false:=by rfl):DE X G (.Call (.Name x p1) (e::es) [] pos) b1 mr (dZ f ga):=⟨(pB hc hg hm hv ha.un hn C8 he pj).to λ_ _ _=>tM hp⟩
def cX {T:String}{p1:Pos}{r:List V->Hp->VK->Prop}{f:List U->R U}(hc:eZ X (.type T) r)(hp:nV X.K r mr f)(hg:Gl X x)(hm:X.mg x=none)(hv:Zg x=some (.type T))(ha:DA X G (e::es) b1 true ga)(hn:x≠"__name__":=by decide)(C8:(x==("__debug__":Str))=false:=by decide)
  (he:YC (e::es) X.env=(false,abN e X.env)::YC es X.env:=by rfl) (pj:(abe pos (YC es X.env)).any (·.1)=false:=by rfl):DE X G (.Call (.Name x p1) (e::es) [] pos) b1 mr (dZ f ga):=⟨(iD hc hg hm hv ha.un hn C8 he pj).to λ_ _ _=>tM hp⟩
end
end L2
namespace L2
section
variable {G:Gm}{A':YG->Prop}{ρ':Ev}{b p:Bool}{m:Md}{α:Type}
theorem nU.mono (n:∀b,A' b->A b)(h:nU K H A u a):nU K H A' u a:=by
 cases u<;>(unfold nU at h ⊢)
 case lst us=>obtain⟨xs,q,l,z⟩:=h;exact⟨xs,q,l,z.mono n⟩
 case dct ks us=>obtain⟨xs,q,l,z⟩:=h;exact⟨xs,q,l,z.mono n⟩
 all_goals exact h.elim
theorem fv {α:Type}{l:List (Option α)}{x:Option α}{y:α}(h:(l.set i x)[j]? = some (some y)):(i=j/\x=some y)\/(i≠j/\l[j]? = some (some y)):=by
 by_cases e:i=j
 ·subst e;rw[List.getElem?_set_self'] at h;refine .inl ⟨rfl,?_⟩;cases q:l[i]? with
  |none=>rw[q] at h;cases h
  |some w=>rw[q] at h;exact YF h
 ·rw[Y5 e] at h;exact .inr ⟨e,h⟩
theorem tN {α:Type}{l l':List (Option α)}{x:α}{β:Type}{k:List (Option β)}{y:Option β}{z:β}(hl:k.length=l.length)(h:(k.set i y)[i]? = some (some z)):(l.set i (some x))[i]? = some (some x):=by
 have:i<l.length:=by
  have:=(Yr.mp h).1;rw[aab] at this;lia
 rw[ab1 this]
theorem ef.set (r:ef K G Z A ρ σ H)(c:G.is i=false)(h:Rp K H A u v):ef K G Z A (ρ.set i (some u)) (σ.set i (some v)) H where
 slot:=λj w hj=>by
  rcases fv hj with⟨rfl,e⟩|⟨ne,e⟩
  ·cases e;refine⟨v,tN (l':=σ) r.len hj,?_⟩;rw[hU (by rw[c];exact Yd)];exact h
  ·rw[Y5 ne];exact r.slot j w e
 dis:=λj k w w' a cj ck ne hj hk sj sk=>by
  rcases fv hj with⟨rfl,_⟩|⟨n1,e1⟩
  ·rw[c] at cj;cases cj
  ·rcases fv hk with⟨rfl,_⟩|⟨n2,e2⟩
   ·rw[c] at ck;cases ck
   ·rw[Y5 n1] at sj;rw[Y5 n2] at sk;exact r.dis j k w w' a cj ck ne e1 e2 sj sk
 mu:=r.mu
 sup:=r.sup
 out:=r.out
 bas:=r.bas
 io0:=λh0=>by
  obtain⟨a,b⟩:=r.io0 h0;refine⟨?_,b⟩;have:i≠0:=λz=>by subst z;rw[b] at c;cases c
  rw[Y5 this];exact a
 len:=by rw[aab,aab];exact r.len
theorem ef.drop (r:ef K G Z A ρ σ H)(i:Nat):ef K G Z A (ρ.set i none) σ H where
 slot:=λj w hj=>by
  rcases fv hj with⟨rfl,e⟩|⟨ne,e⟩
  ·cases e
  ·exact r.slot j w e
 dis:=λj k w w' a cj ck ne hj hk sj sk=>by
  rcases fv hj with⟨rfl,e⟩|⟨n1,e1⟩
  ·cases e
  ·rcases fv hk with⟨rfl,e⟩|⟨n2,e2⟩
   ·cases e
   ·exact r.dis j k w w' a cj ck ne e1 e2 sj sk
 mu:=r.mu
 sup:=r.sup
 out:=r.out
 bas:=r.bas
 io0:=r.io0
 len:=by rw[aab];exact r.len
theorem ef.setO (r:ef K G Z A ρ σ H)(c:G.is i=true)(hi:G.io=true->i≠0)(na:¬A a)(nb:Z.B a=none)(r':ef K G Z (λb=>A b\/b=a) ρ σ H)(h:nU K H (λb=>A b\/b=a) u a) :
  ef K G Z (λb=>A b\/b=a) (ρ.set i (some u)) (σ.set i (some (.ref a))) H where
 slot:=λj w hj=>by
  rcases fv hj with⟨rfl,e⟩|⟨ne,e⟩
  ·cases e;refine⟨.ref a,tN (l':=σ) r.len hj,?_⟩;rw[hV c];exact⟨a,rfl,.inr rfl,nb,.inl λz=>na (r.sup a z),h⟩
  ·rw[Y5 ne];exact r'.slot j w e
 dis:=λj k w w' b cj ck ne hj hk sj sk=>by
  have key:∀k w',G.is k=true->i≠k->ρ[k]? = some (some w')->σ[k]? ≠ some (some (.ref a)):=λk w' ck _ e q=>by
   obtain⟨b,h1,h2,_⟩:=r.own ck e;rw[h1] at q;cases q;exact na h2
  rcases fv hj with⟨rfl,e1⟩|⟨n1,e1⟩
  ·rcases fv hk with⟨rfl,_⟩|⟨n2,e2⟩
   ·exact ne rfl
   ·rw[tN (l':=σ) r.len hj] at sj;cases sj;rw[Y5 n2] at sk;exact key k w' ck n2 e2 sk
  ·rcases fv hk with⟨rfl,e2⟩|⟨n2,e2⟩
   ·rw[tN (l':=σ) r.len hk] at sk;cases sk;rw[Y5 n1] at sj;exact key j w cj n1 e1 sj
   ·rw[Y5 n1] at sj;rw[Y5 n2] at sk;exact r.dis j k w w' b cj ck ne e1 e2 sj sk
 mu:=r'.mu
 sup:=r'.sup
 out:=r'.out
 bas:=r'.bas
 io0:=λh0=>by
  obtain⟨a,b⟩:=r.io0 h0;exact⟨by rw[Y5 (hi h0)];exact a,b⟩
 len:=by rw[aab,aab];exact r.len
theorem ef.free (r:ef K G Z A ρ σ H)(c:G.is i=true)(hi:G.io=true->i≠0)(h:ρ[i]? = some (some u)):∃a A',σ[i]? = some (some (.ref a))/\ef K G Z A' (ρ.set i none) σ H/\Rp K H A' u (.ref a):=by
 obtain⟨a,h1,h2,h3,h4,h5⟩:=r.own c h;have na:¬Z.A0 a:=by
  rcases h4 with h4|⟨h4,h6⟩
  ·exact h4
  ·exact absurd h6 (hi h4)
 have sub:∀b,(A b/\b≠a)->A b:=λb z=>z.1;refine⟨a,λb=>A b/\b≠a,h1,?_,h5.rp sub λz=>z.2 rfl⟩;exact {
  slot:=λj w hj=>by
   rcases fv hj with⟨rfl,e⟩|⟨ne,e⟩
   ·cases e
   ·obtain⟨v,s1,s2⟩:=r.slot j w e;refine⟨v,s1,?_⟩;by_cases cj:G.is j=true
    ·rw[hV cj] at s2 ⊢;obtain⟨b,e1,e2,e3,e4,e5⟩:=s2;refine⟨b,e1,⟨e2,λz=>?_⟩,e3,e4,e5.mono sub⟩;subst z e1;exact r.dis i j u w b c cj ne h e h1 s1
    ·rw[hU cj] at s2 ⊢;exact s2.mono sub
  dis:=(r.drop i).dis
  mu:=λb z=>r.mu b z.1
  sup:=λb z=>⟨r.sup b z,λe=>na (e▸z)⟩
  out:=λb z=>r.out b z.1
  bas:=r.bas
  io0:=r.io0
  len:=by rw[aab];exact r.len}
theorem ef.put (r:ef K G Z A ρ σ H){w:U}(c:G.is i=true)(h:ρ[i]? = some (some u))(ha:σ[i]? = some (some (.ref a)))(e:∀b o,b≠a->H b=some o->H' b=some o)(t:nU K H' A w a) :
  ef K G Z A (ρ.set i (some w)) σ H':=by
 obtain⟨a',h1,h2,h3,h4,h5⟩:=r.own c h;rw[ha] at h1;cases h1;have x:fY A H H':=λb o nb z=>e b o (λq=>nb (q▸h2)) z;exact {
  slot:=λj y hj=>by
   rcases fv hj with⟨rfl,q⟩|⟨ne,q⟩
   ·cases q;refine⟨.ref a,ha,?_⟩;rw[hV c];exact⟨a,rfl,h2,h3,h4,t⟩
   ·obtain⟨v,s1,s2⟩:=r.slot j y q;refine⟨v,s1,?_⟩;by_cases cj:G.is j=true
    ·rw[hV cj] at s2 ⊢;obtain⟨b,e1,e2,e3,e4,e5⟩:=s2;refine⟨b,e1,e2,e3,e4,e5.re r.mu x (λb z=>.inl z) λo z=>e b o (λq'=>?_) z⟩;subst q' e1;exact r.dis i j u y b c cj ne h q ha s1
    ·rw[hU cj] at s2 ⊢;exact s2.re r.mu x λb z=>.inl z
  dis:=λj k y y' b cj ck ne hj hk sj sk=>by
   have f:∀j y,(ρ.set i (some w))[j]? = some (some y)->∃y',ρ[j]? = some (some y'):=λj y hj=>by
    rcases fv hj with⟨rfl,q⟩|⟨ne,q⟩
    ·exact⟨u,h⟩
    ·exact⟨y,q⟩
   obtain⟨y1,hj⟩:=f j y hj;obtain⟨y2,hk⟩:=f k y' hk;exact r.dis j k y1 y2 b cj ck ne hj hk sj sk
  mu:=λb z=>by
   by_cases q:b=a
   ·subst q;exact t.mu
   ·have m:=r.mu b z;obtain⟨o,z⟩:=m.ex;rw[e b o q z,←z];exact m
  sup:=r.sup
  out:=r.out
  bas:=λb o z=>e b o (λq=>by subst q;rw[h3] at z;cases z) (r.bas b o z)
  io0:=r.io0
  len:=by rw[aab];exact r.len}
end
def Rh (K:Ye)(m:Md)(A:YG->Prop)(H:Hp):R U->VK->Prop
 | .ok u,Q=>∀v H',bh H H'->Gp K m A H H' u v->Q v H'
 |_,_=>False
noncomputable def B8 {α:Type}(n:Nat)(g:List U->R α)(us:List U):R α:=if us.length=n then g us else .stk
def jf (K:Ye)(n:Nat)(f:List U->R U)(m:Md):Sp:=λvs H Q _=>∃us A,bf K H A us vs/\(∀a,A a->Mu (H a))/\Rh K m A H (B8 n f us) Q
def pH (K:Ye)(n:Nat)(f:List U->R (U×U)):Sp:=λvs H Q _=>∃u0 us a0 vs' A,vs=.ref a0::vs'/\A a0/\nU K H A u0 a0/\bf K H A us vs'/\(∀a,A a->Mu (H a))/\match B8 n f (u0::us) with
 | .ok (u,w)=>∀v H',(∀b o,b≠a0->H b=some o->H' b=some o)->nU K H' A w a0->Rp K H' A u v->Q v H'
 |_=>False
section
variable {G:Gm}{e a b:aaE}{es rest:List aaE}{p1:Pos}{b1 b2 b3:Bool}{m1 m2 m3 mr:Md}{g1 g2 g3:Ev->R (U×Ev)}{h1 h2:Ev->R (Bool×Ev)}{ga:Ev->R (List U×Ev)}
noncomputable def iE (n:Nat)(f:List U->R U)(ga:Ev->R (List U×Ev)):Ev->R (U×Ev):=λρ=>(ga ρ).bind λx=>(B8 n f x.1).bind λz=>.ok (z,x.2)
theorem aY {f:List U->R U}(F:Fn X.prog X.w X.K X.mg X.base x k ps (jf X.K n f mr))(hr:gF k X.A)(ha:DA X G (e::es) b1 false ga)(hg:Gl X x:=by rfl)(C8:(x==("__debug__":Str))=false:=by decide)(he:YC (e::es) X.env=(false,abN e X.env)::YC es X.env:=by rfl)(pj:(abe pos (YC es X.env)).any (·.1)=false:=by rfl):DE X G (.Call (.Name x p1) (e::es) [] pos) b1 mr (iE n f ga):=⟨(zD F hr ha.un hg C8 he pj).to λσ H Q h=>by
 obtain⟨Z,A,ρ,q,f⟩:=h;obtain⟨⟨us,ρ1⟩,e1,f⟩:=f.bind;obtain⟨z,e2,f⟩:=f.bind;refine⟨Z,A,ρ,q,?_⟩;rw[e1];intro vs H1 q1 x1 s1 t7;show jf _ _ _ _ _ _ _ _;rw[YV];refine⟨us,A,t7.rps,q1.mu,?_⟩;dsimp only at e2;rw[e2];exact λv H' sm vm=>f v H' (q1.same sm) (x1.trans (fY.same sm)) (oE s1 sm) (vm.e q1 sm)⟩
noncomputable def live (ρ:Ev)(i:Nat):Bool:=match ρ[i]? with
 |some (some _)=>true
 |_=>false
theorem xX (h:live ρ i=true):∃u,ρ[i]? = some (some u):=by
 unfold live at h;split at h
 ·rename_i u hu;exact⟨u,hu⟩
 ·cases h
noncomputable def iY (n i:Nat)(f:List U->R (U×U))(ga:Ev->R (List U×Ev)):Ev->R (U×Ev):=λρ=>if live ρ i=true then (ga ρ).bind λx=>match x.2[i]? with
 |some (some u0)=>(B8 n f (u0::x.1)).bind λz=>.ok (z.1,x.2.set i (some z.2))
 |_=>.stk
 else .stk
theorem aN {y:Str}{f:List U->R (U×U)}(F:Fn X.prog X.w X.K X.mg X.base x k ps (pH X.K n f))(hr:gF k X.A)(ha:DA X G es b1 false ga)(hN:X.N[i]? = some y:=by rfl)(hv:GA X.env.scope y:=by first|exact Or.inl rfl|exact Or.inr (Or.inl rfl)|exact Or.inr (Or.inr rfl))(c:G.is i=true:=by rfl)(hd:(y==("__debug__":Str))=false:=by decide)(tw:(y==("__classdict__":Str))=false:=by decide)(hs:YC (.Name y p2::es) X.env=(false,abN (.Name y p2) X.env)::YC es X.env:=by rfl)(hg:Gl X x:=by rfl)(C8:(x==("__debug__":Str))=false:=by decide)(pj:(abe pos (YC es X.env)).any (·.1)=false:=by rfl):DE X G (.Call (.Name x p1) (.Name y p2::es) [] pos) true .S (iY n i f ga):=⟨(zD F hr (kv (mH hN hv hd tw) ha.un hs) hg C8 hs pj).to λσ H Q h=>by
 obtain⟨Z,A,ρ,q,f⟩:=h;unfold iY at f;split at f
 ·rename_i hl;obtain⟨u00,hu0⟩:=xX hl;obtain⟨a0,h0,_⟩:=q.own c hu0;obtain⟨⟨us,ρ1⟩,e1,f⟩:=f.bind;dsimp only at f;split at f
  ·rename_i u0 hu;obtain⟨⟨z,w⟩,e2,f⟩:=f.bind;refine⟨.ref a0,h0,Z,A,ρ,q,?_⟩;rw[e1];intro vs H1 q1 x1 s1 t7;obtain⟨a0',k1,k2,_,_,k3⟩:=q1.own c hu;rw[h0] at k1;cases k1;show pH _ _ _ _ _ _ _;rw[YV];refine⟨u0,us,a0,vs,A,rfl,k2,k3,t7.rps,q1.mu,?_⟩;rw[e2];intro v H' em tp rp;exact f v H' (q1.put c hu h0 em tp) (x1.trans λb o nb z=>em b o (λy=>nb (y▸k2)) z) (λz=>nomatch z) rp
  ·exact f.elim
 ·exact f.elim⟩
def He (K:Ye)(T:String)(r:V->List V->Hp->VK->Prop)(p:U->List U->R (U×U)):Prop:=∀A H a u vs us z w Q,nU K H A u a->A a->bf K H A us vs->(∀a,A a->Mu (H a))->p u us=.ok (z,w)->
 (∀v H',(∀b o,b≠a->H b=some o->H' b=some o)->nU K H' A w a->Rp K H' A z v->Q v H')->r (.ref a) vs H Q
noncomputable def Fs:U->String->Bool
 | .lst _,T=>T=="list"
 |_,_=>false
theorem OC {a:YG}{T:String}(h:nU K H A u a)(t:Fs u T=true):T5 K T (.ref a) H:=by
 cases u<;>(unfold Fs at t;unfold nU at h)
 case lst us=>
  obtain⟨xs,q,_⟩:=h;exact .inl ⟨by simpa using t,xs,.inl (.inl q)⟩
 all_goals cases t
noncomputable def gM (T:String)(i:Nat)(p:U->List U->R (U×U))(ga:Ev->R (List U×Ev)):Ev->R (U×Ev):=λρ=>match ρ[i]? with
 |some (some u1)=>if Fs u1 T=true then (ga ρ).bind λx=>match x.2[i]? with
  |some (some u0)=>(p u0 x.1).bind λz=>.ok (z.1,x.2.set i (some z.2))
  |_=>.stk
  else .stk
 |_=>.stk
theorem Hg {T:String}{r:V->List V->Hp->VK->Prop}{p:U->List U->R (U×U)}(hp:He X.K T r p)(c:G.is i=true){Q:VK}(h:tD X.K G true .S (gM T i p ga) σ H Q) :
  Vo X.K T r (NU i) (T9 X.K G b1 false ga) σ H Q:=by
 obtain⟨Z,A,ρ,q,f⟩:=h;unfold gM at f;split at f
 ·rename_i u1 Gi;split at f
  ·rename_i ht;obtain⟨a0,h0,_,_,_,t0⟩:=q.own c Gi;obtain⟨⟨us,ρ1⟩,e1,f⟩:=f.bind;dsimp only at f;split at f
   ·rename_i u0 hu;obtain⟨⟨z,w⟩,e2,f⟩:=f.bind;refine⟨.ref a0,h0,OC t0 ht,Z,A,ρ,q,?_⟩;rw[e1];intro vs H1 q1 x1 s1 t7;obtain⟨a0',k1,k2,_,_,k3⟩:=q1.own c hu;rw[h0] at k1;cases k1;exact hp A H1 a0 u0 vs us z w Q k3 k2 t7.rps q1.mu e2 λv H' em tp rp=>f v H' (q1.put c hu h0 em tp) (x1.trans λb o nb z=>em b o (λy=>nb (y▸k2)) z) (λz=>nomatch z) rp
   ·exact f.elim
  ·exact f.elim
 ·exact f.elim
def oF {T id:String}{y name:Str}{Bz:Pos}{r:V->List V->Hp->VK->Prop}{p:U->List U->R (U×U)}(pa:PlainAttrs T)(slot:Slot T name id)(UM:typeOf (.builtin id)=pure (.type "method_descriptor"))(hm:Me X id r)(hp:He X.K T r p)(ha:DA X G (e::es) b1 false ga)(hN:X.N[i]? = some y:=by rfl)(hv:GA X.env.scope y:=by first|exact Or.inl rfl|exact Or.inr (Or.inl rfl)|exact Or.inr (Or.inr rfl))(c:G.is i=true:=by rfl)(hd:(y==("__debug__":Str))=false:=by decide)(tw:(y==("__classdict__":Str))=false:=by decide)(JR:attributeBase (.Name y p2) name X.env (abN (.Name y p2) X.env)=abN (.Name y p2) X.env:=by rfl)(PR:((abe pos (YC (e::es) X.env)).all (λx=> !x.1)&&(backToKw pos (keywordEach [] X.env)).all (λx=>x.1.isSome)
   && decide ((e::es).length+([]:List Keyword).length+(if ([]:List Keyword).isEmpty then 0 else 1)<30))=true:=by rfl)(JS:(Bz.endLine==pos.line)=true:=by rfl)(hs:YC (e::es) X.env=(false,abN e X.env)::YC es X.env:=by rfl)(C9:(abe pos (YC es X.env)).any (·.1)=false:=by rfl) :
  DE X G (.Call (.Attribute (.Name y p2) name Bz) (e::es) [] pos) true .S (gM T i p ga):=⟨(Q2 pa slot UM hm (mH hN hv hd tw) ha.un JR PR JS hs C9).to λ_ _ _=>Hg hp c⟩
def Hh (K:Ye)(r:V->Option Int->Option Int->Hp->VK->Prop)(m:Md)(p:U->Option Int->Option Int->R U):Prop:=∀A H x u lo hi z Q,Pk K H A u x->(∀a,A a->Mu (H a))->p u lo hi=.ok z->(∀v H',bh H H'->Gp K m A H H' z v->Q v H')->r x lo hi H Q
def Ub (K:Ye)(G:Gm)(Z:Pkg)(A:YG->Prop)(b:Bool)(ρ:Ev)(σ:St)(H:Hp):R (Option Int×Ev)->(Option Int->Hp->Prop)->Prop
 | .ok (c,ρ'),Q=>∀H',ef K G Z A ρ' σ H'->fY A H H'->(b=false->ρ'=ρ/\bh H H')->Q c H'
 |_,_=>False
def Wm (K:Ye)(G:Gm)(b:Bool)(g:Ev->R (Option Int×Ev)):TO:=λσ H Q=>∃Z A ρ,ef K G Z A ρ σ H/\Ub K G Z A b ρ σ H (g ρ) Q
structure DO (X:Cx)(G:Gm)(e:Option aaE)(b:Bool)(g:Ev->R (Option Int×Ev)):Prop where
 un:PO X e (Wm X.K G b g)
noncomputable def cV:Ev->R (Option Int×Ev):=λρ=>.ok (none,ρ)
noncomputable def cE (g:Ev->R (U×Ev)):Ev->R (Option Int×Ev):=λρ=>(g ρ).bind λx=>match x.1 with
 | .int i=>.ok (some i,x.2)
 |_=>.stk
def PO.to {e:Option aaE}{t t':TO}(h:PO X e t)(i:∀σ H Q,t' σ H Q->t σ H Q):PO X e t':=λpins s σ H Q I q=>h pins s σ H Q I (i _ _ _ q)
def cY:DO X G none false cV:=⟨Kz.to λσ H Q ⟨Z,A,ρ,q,f⟩=>f H q fY.refl λ_=>⟨rfl,bh.refl _⟩⟩
theorem cH (h:DE X G e b1 m1 g1):DO X G (some e) b1 (cE g1):=⟨(KA h.un).to λσ H Q h00=>by
 obtain⟨Z,A,ρ,q,f⟩:=h00;refine⟨Z,A,ρ,q,?_⟩;unfold cE at f;cases e1:g1 ρ with
 |stk=>rw[e1] at f;exact f.elim
 |exc=>rw[e1] at f;exact f.elim
 |ok x=>
  obtain⟨u,ρ1⟩:=x;rw[e1] at f;intro v H1 q1 x1 s1 vm;cases u with
  |int c=>exact⟨c,vm.pk.int,f H1 q1 x1 s1⟩
  |_=>exact f.elim⟩
noncomputable def mG (p:U->Option Int->Option Int->R U)(g:Ev->R (U×Ev))(lo hi:Ev->R (Option Int×Ev)):Ev->R (U×Ev):=λρ=>(g ρ).bind λx=>(lo x.2).bind λl=>(hi l.2).bind λh=>(p x.1 l.1 h.1).bind λz=>.ok (z,h.2)
theorem cm {r:V->Option Int->Option Int->Hp->VK->Prop}{p:U->Option Int->Option Int->R U}{lo hi:Option aaE}{gl gh:Ev->R (Option Int×Ev)}(hr:GQ X r)(hp:Hh X.K r mr p)(he:DE X G e b1 m1 g1)(hl:DO X G lo b2 gl)(hu:DO X G hi b3 gh)(hm:m1=.P->(b2||b3)=false:=by first|exact λ_=>rfl|exact λh=>nomatch h):DE X G (.Subscript e (.Slice lo hi none p2) pos) (b1||(b2||b3)) mr (mG p g1 gl gh):=⟨(GR hr he.un hl.un hu.un).to λσ H Q h=>by
 obtain⟨Z,A,ρ,q,f⟩:=h;obtain⟨⟨u,ρ1⟩,e1,f⟩:=f.bind;obtain⟨⟨l,ρ2⟩,e2,f⟩:=f.bind;obtain⟨⟨h,ρ3⟩,e3,f⟩:=f.bind;obtain⟨z,e4,f⟩:=f.bind;dsimp only at e2 e3 e4 f;refine⟨Z,A,ρ,q,?_⟩;rw[e1];intro v1 H1 q1 x1 s1 t7;refine⟨Z,A,ρ1,q1,?_⟩;rw[e2];intro H2 q2 x2 s2;refine⟨Z,A,ρ2,q2,?_⟩;rw[e3];intro H3 q3 x3 s3;exact hp A H3 v1 u l h z Q (t7.later q1 (x2.trans x3) (two s2 s3) hm) q3.mu e4 λv H' sm vm=>f v H' (q3.same sm) ((x1.trans (x2.trans x3)).trans (fY.same sm)) (oE (two s1 (two s2 s3)) sm) (vm.e q3 sm)⟩
end
end L2
namespace L2
def Uc (K:Ye)(G:Gm)(sg:U->Ev->R Ev):TG:=λv σ H Q=>∃Z A ρ u,ef K G Z A ρ σ H/\Rp K H A u v/\match sg u ρ with
 | .ok ρ'=>∀σ',ef K G Z A ρ' σ' H->(∀i,G.is i=true->σ'[i]? = σ[i]?)->Q σ' H
 |_=>False
structure DG (X:Cx)(G:Gm)(tg:aaE)(sg:U->Ev->R Ev):Prop where
 un:PG X tg (Uc X.K G sg)
def Ud (K:Ye)(G:Gm)(sg:List U->Ev->R Ev):Kn:=λvs σ H Q=>∃Z A ρ us,ef K G Z A ρ σ H/\bf K H A us vs/\match sg us ρ with
 | .ok ρ'=>∀σ',ef K G Z A ρ' σ' H->(∀i,G.is i=true->σ'[i]? = σ[i]?)->Q σ' H
 |_=>False
structure S4 (X:Cx)(G:Gm)(tgs:List aaE)(sg:List U->Ev->R Ev):Prop where
 un:L_ X tgs (Ud X.K G sg)
noncomputable def df (i:Nat):U->Ev->R Ev:=λu ρ=>.ok (ρ.set i (some u))
noncomputable def zF:List U->Ev->R Ev:=λus ρ=>match us with
 | []=>.ok ρ
 |_=>.stk
noncomputable def mL (s:U->Ev->R Ev)(t:List U->Ev->R Ev):List U->Ev->R Ev:=λus ρ=>match us with
 |u::r=>(s u ρ).bind λρ1=>t r ρ1
 |_=>.stk
noncomputable def zG (n:Nat)(t:List U->Ev->R Ev):U->Ev->R Ev:=λu ρ=>match u with
 | .tup us=>if us.length=n then t us ρ else .stk
 |_=>.stk
section
variable {G:Gm}
def L_.to {es:List aaE}{t t':Kn}(h:L_ X es t)(i:∀v σ H Q,t' v σ H Q->t v σ H Q):L_ X es t':=λpins s σ H v u Q I r q=>h pins s σ H v u Q I r (i _ _ _ _ q)
theorem aW (hN:X.N.Nodup)(hi:X.N[i]? = some x:=by rfl)(hx:Gk X.env.scope x:=by first|exact Or.inl rfl|exact Or.inr rfl)(c:G.is i=false:=by rfl)(hf:X.fn x=true\/X.env.scope.names.lookup x=some .local:=by first|exact .inl rfl|exact .inr rfl|assumption):DG X G (.Name x pos) (df i):=⟨(Ko hN hi hx hf).to λv σ H Q ⟨Z,A,ρ,u,q,r,f⟩=>f _ (q.set c r) λj cj=>by
  have:i≠j:=λz=>by subst z;rw[c] at cj;cases cj
  rw[Y5 this]⟩
theorem KY:S4 X G [] zF:=⟨Kp.to λvs σ H Q h00=>by
 obtain⟨Z,A,ρ,us,q,r,f⟩:=h00;unfold zF at f;cases us with
 |nil=>unfold bf at r;exact⟨r,f σ q λ_ _=>rfl⟩
 |cons=>exact f.elim⟩
theorem zH {e:aaE}{es:List aaE}{s:U->Ev->R Ev}{t:List U->Ev->R Ev}(h1:DG X G e s)(h2:S4 X G es t)
  (hs:(aa6 (e::es) X.env).map (·.2)=assign e X.env::(aa6 es X.env).map (·.2):=by rfl):S4 X G (e::es) (mL s t):=⟨(GD h1.un h2.un hs).to λvs σ H Q h00=>by
 obtain⟨Z,A,ρ,us,q,r,f⟩:=h00;unfold mL at f;cases us with
 |nil=>exact f.elim
 |cons u us=>
  unfold bf at r;obtain⟨v,vr,rfl,r1,r2⟩:=r;dsimp only at f;refine⟨v,vr,rfl,Z,A,ρ,u,q,r1,?_⟩;cases e1:s u ρ with
  |ok ρ1=>
   rw[e1] at f;simp only[R.bind] at f;intro σ1 q1 o1;refine⟨Z,A,ρ1,us,q1,r2,?_⟩;cases e2:t us ρ1 with
   |ok ρ2=>rw[e2] at f;exact λσ2 q2 o2=>f σ2 q2 λi c=>(o2 i c).trans (o1 i c)
   |exc=>rw[e2] at f;exact f.elim
   |stk=>rw[e2] at f;exact f.elim
  |exc=>rw[e1] at f;exact f.elim
  |stk=>rw[e1] at f;exact f.elim⟩
theorem OD {es:List aaE}{t:List U->Ev->R Ev}(hc:X.calm=true)(h:S4 X G es t)(hn:(aa6 es X.env).length=n:=by rfl)(kK:(aa6 es X.env).findIdx? (·.1)=none:=by rfl):DG X G (.Tuple es k pos) (zG n t):=⟨(N7 hc h.un hn kK).to λv σ H Q h00=>by
 obtain⟨Z,A,ρ,u,q,r,f⟩:=h00;unfold zG at f;cases u with
 |tup us=>
  unfold Rp at r;obtain⟨a,xs,rfl,sq,l,rs⟩:=r;dsimp only at f;by_cases hl:us.length=n
  ·rw[hV hl] at f;exact⟨a,xs,rfl,gE.of sq,by rw[←rs.length];exact hl,Z,A,ρ,us,q,rs,f⟩
  ·rw[hU hl] at f;exact f.elim
 |_=>exact f.elim⟩
end
def Wn (K:Ye)(Z:Pkg)(m:Md)(H:Hp)(u:U)(v:V):Prop:=match m with
 | .S=>Rp K H Z.A0 u v
 | .O=>∃a,v=.ref a/\Z.B a=none/\¬Z.A0 a/\nU K H (λb=>Z.A0 b\/b=a) u a
 | .P=>False
def uw (K:Ye)(G:Gm)(Z:Pkg)(m:Md):SR->t_->Prop
 | .nx ρ',D=>∀A' σ' H',ef K G Z A' ρ' σ' H'->D.nx σ' H'
 | .bk ρ',D=>∀A' σ' H',ef K G Z A' ρ' σ' H'->D.bk σ' H'
 | .ct ρ',D=>∀A' σ' H',ef K G Z A' ρ' σ' H'->D.ct σ' H'
 | .rt u ρ',D=>∀A' σ' H' v,ef K G Z A' ρ' σ' H'->Wn K Z m H' u v->D.rt v H'
 | .exc _ _,_=>∀H',(∀a o,Z.B a=some o->H' a=some o)->G.W H'
 | .stk,_=>False
def S5 (K:Ye)(G:Gm)(m:Md)(g:Ev->SR):TS:=λD σ H=>∃Z A ρ,ef K G Z A ρ σ H/\uw K G Z m (g ρ) D
structure DS (X:Cx)(G:Gm)(m:Md)(st:ab4)(g:Ev->SR):Prop where
 un:PS X st (S5 X.K G m g)
structure Ft (X:Cx)(G:Gm)(m:Md)(st:List ab4)(g:Ev->SR):Prop where
 un:wN X st (S5 X.K G m g)
noncomputable def bx:Ev->SR:=.nx
noncomputable def aO (g1 g2:Ev->SR):Ev->SR:=λρ=>match g1 ρ with
 | .nx ρ'=>g2 ρ'
 |r=>r
noncomputable def SR.of {α:Type}:R α->(α->SR)->SR
 | .ok a,f=>f a
 |_,_=>.stk
section
variable {G:Gm}{m:Md}{α:Type}
theorem uw.of {x:R α}{k:α->SR}{D:t_}(f:uw K G Z m (SR.of x k) D):∃a,x=.ok a/\uw K G Z m (k a) D:=by
 cases x with
 |ok a=>exact⟨a,rfl,f⟩
 |exc=>exact f.elim
 |stk=>exact f.elim
end
section
variable {G:Gm}{e a b:aaE}{VU rest:List ab4}{es:List aaE}{p1:Pos}{b1 b2 b3:Bool}{m m1 m2 m3 mr:Md}{g1 g2 g3:Ev->R (U×Ev)}{h1 h2:Ev->R (Bool×Ev)}{ga:Ev->R (List U×Ev)}{s1 s2:Ev->SR}
def aM:Ft X G m [] bx:=⟨Kk.to λD σ H ⟨Z,A,ρ,q,f⟩=>f A σ H q⟩
def aw (h:DS X G m st s1):Ft X G m [st] s1:=⟨Kl h.un⟩
theorem aq (ha:DS X G m st s1)(hb:Ft X G m rest s2):Ft X G m (st::rest) (aO s1 s2):=⟨(GC ha.un hb.un).to λD σ H h00=>by
 obtain⟨Z,A,ρ,q,f⟩:=h00;refine⟨Z,A,ρ,q,?_⟩;unfold aO at f;cases e:s1 ρ with
 |nx ρ1=>rw[e] at f;exact λA1 σ1 H1 q1=>⟨Z,A1,ρ1,q1,f⟩
 |rt=>rw[e] at f;exact f
 |bk=>rw[e] at f;exact f
 |ct=>rw[e] at f;exact f
 |exc=>rw[e] at f;exact f
 |stk=>rw[e] at f;exact f⟩
noncomputable def OE:Ev->SR:=.bk
noncomputable def Ri:Ev->SR:=.ct
noncomputable def lq (g:Ev->R (U×Ev)):Ev->SR:=λρ=>SR.of (g ρ) λx=>.nx x.2
theorem nk (h:DE X G e b1 m1 g1)(hs:acB e none pos.line X.env=pure false:=by rfl):DS X G m (.Expr e pos) (lq g1):=⟨(Km h.un hs).to λD σ H h00=>by
 obtain⟨Z,A,ρ,q,f⟩:=h00;obtain⟨⟨u,ρ1⟩,e1,f⟩:=f.of;refine⟨Z,A,ρ,q,?_⟩;rw[e1];exact λv H1 q1 _ _ _=>f A σ H1 q1⟩
noncomputable def bA (g:Ev->R (U×Ev)):Ev->SR:=λρ=>SR.of (g ρ) λx=>.rt x.1 x.2
theorem aH (h:DE X G e b1 m1 g1)(hn:m1≠.P:=by decide):DS X G .S (.Return (some e) pos) (bA g1):=⟨(BK h.un).to λD σ H h00=>by
 obtain⟨Z,A,ρ,q,f⟩:=h00;obtain⟨⟨u,ρ1⟩,e1,f⟩:=f.of;refine⟨Z,A,ρ,q,?_⟩;rw[e1];exact λv H1 q1 _ _ vm=>f A σ H1 v q1 ((vm.rp hn).mono q1.sup)⟩
theorem Dt (h:DE X G e b1 .O g1):DS X G .O (.Return (some e) pos) (bA g1):=⟨(BK h.un).to λD σ H h00=>by
 obtain⟨Z,A,ρ,q,f⟩:=h00;obtain⟨⟨u,ρ1⟩,e1,f⟩:=f.of;refine⟨Z,A,ρ,q,?_⟩;rw[e1];intro v H1 q1 _ _ vm;obtain⟨a,rfl,na,nb,_,t⟩:=vm;exact f A σ H1 _ q1 ⟨a,rfl,nb,λz=>na (q1.sup a z),t.mono λb z=>z.imp (q1.sup b) id⟩⟩
theorem Du (hm:m≠.P:=by decide)(hi:G.io=true->i≠0)(hN:X.N[i]? = some x:=by rfl)(hv:GA X.env.scope x:=by first|exact Or.inl rfl|exact Or.inr (Or.inl rfl)|exact Or.inr (Or.inr rfl))(hd:(x==("__debug__":Str))=false:=by decide)(tw:(x==("__classdict__":Str))=false:=by decide)(c:G.is i=true:=by rfl):DS X G m (.Return (some (.Name x p1)) pos) (bA (ai i)):=⟨(BK (mH hN hv hd tw)).to λD σ H h00=>by
 obtain⟨Z,A,ρ,q,f⟩:=h00;obtain⟨⟨u,ρ1⟩,e1,f⟩:=f.of;unfold ai at e1;split at e1
 ·rename_i u' hu;cases e1;obtain⟨a,h1,h2,h3,h4,h5⟩:=q.own c hu;have na:¬Z.A0 a:=by
   rcases h4 with h4|⟨h4,h6⟩
   ·exact h4
   ·exact absurd h6 (hi h4)
  refine⟨.ref a,h1,f A σ H _ q ?_⟩;cases m with
  |S=>exact h5.rp q.sup na
  |O=>exact⟨a,rfl,h3,na,h5.mono λb z=>by
    rcases z with z|z
    ·exact q.sup b z
    ·subst z;exact h2⟩
  |P=>exact absurd rfl hm
 ·cases e1⟩
noncomputable def bK (i:Nat)(g:Ev->R (U×Ev)):Ev->SR:=λρ=>SR.of (g ρ) λx=>.nx (x.2.set i (some x.1))
theorem zI (c:G.is i=false)(hn:m1≠.P)(hi:∀σ H Q,tD X.K G b1 m1 g1 σ H Q->te σ H Q){D:t_}(h:S5 X.K G m (bK i g1) D σ H):GF te (zm i) D σ H:=by
 obtain⟨Z,A,ρ,q,f⟩:=h;obtain⟨⟨u,ρ1⟩,e1,f⟩:=f.of;refine hi _ _ _ ⟨Z,A,ρ,q,?_⟩;rw[e1];exact λv H1 q1 _ _ vm=>f A _ H1 (q1.set c (vm.rp hn))
theorem Fu (c:G.is i=true)(h0:G.io=true->i≠0)(hi:∀σ H Q,tD X.K G b1 .O g1 σ H Q->te σ H Q){D:t_}(h:S5 X.K G m (bK i g1) D σ H):GF te (zm i) D σ H:=by
 obtain⟨Z,A,ρ,q,f⟩:=h;obtain⟨⟨u,ρ1⟩,e1,f⟩:=f.of;refine hi _ _ _ ⟨Z,A,ρ,q,?_⟩;rw[e1];intro v H1 q1 _ _ vm;obtain⟨a,rfl,na,nb,r,t⟩:=vm;exact f _ _ H1 (q1.setO c h0 na nb r t)
def aU (hN:X.N.Nodup)(h:DE X G e b1 m1 g1)(hi:X.N[i]? = some x:=by rfl)(hx:Gk X.env.scope x:=by first|exact Or.inl rfl|exact Or.inr rfl)(c:G.is i=false:=by rfl)(hn:m1≠.P:=by decide)(hs:acB e (some (.Name x p1)) pos.line X.env=pure false:=by rfl)(hf:X.fn x=true\/X.env.scope.names.lookup x=some .local:=by first|exact .inl rfl|exact .inr rfl|assumption):DS X G m (.Assign [.Name x p1] e pos) (bK i g1):=⟨(BL hN hi hx h.un hs hf).to λ_ _ _=>zI c hn λ_ _ _ h=>h⟩
def kz (hN:X.N.Nodup)(h:DE X G e b1 .O g1)(h0:G.io=true->i≠0:=by decide)(hi:X.N[i]? = some x:=by rfl)(hx:Gk X.env.scope x:=by first|exact Or.inl rfl|exact Or.inr rfl)(c:G.is i=true:=by rfl)(hs:acB e (some (.Name x p1)) pos.line X.env=pure false:=by rfl)(hf:X.fn x=true\/X.env.scope.names.lookup x=some .local:=by first|exact .inl rfl|exact .inr rfl|assumption):DS X G m (.Assign [.Name x p1] e pos) (bK i g1):=⟨(BL hN hi hx h.un hs hf).to λ_ _ _=>Fu c h0 λ_ _ _ h=>h⟩
noncomputable def zJ (i j:Nat):Ev->SR:=λρ=>match ρ[j]? with
 |some (some u)=>.nx ((ρ.set j none).set i (some u))
 |_=>.stk
theorem KZ {y:Str}(hN:X.N.Nodup)(h0:G.io=true->j≠0:=by decide)(hj:X.N[j]? = some y:=by rfl)(hv:GA X.env.scope y:=by first|exact Or.inl rfl|exact Or.inr (Or.inl rfl)|exact Or.inr (Or.inr rfl))(hd:(y==("__debug__":Str))=false:=by decide)(tw:(y==("__classdict__":Str))=false:=by decide)(cj:G.is j=true:=by rfl)(hi:X.N[i]? = some x:=by rfl)(hx:Gk X.env.scope x:=by first|exact Or.inl rfl|exact Or.inr rfl)(c:G.is i=false:=by rfl)(hs:acB (.Name y p2) (some (.Name x p1)) pos.line X.env=pure false:=by rfl)(hf:X.fn x=true\/X.env.scope.names.lookup x=some .local:=by first|exact .inl rfl|exact .inr rfl|assumption):DS X G m (.Assign [.Name x p1] (.Name y p2) pos) (zJ i j):=⟨(BL hN hi hx (mH hj hv hd tw) hs hf).to λD σ H h00=>by
 obtain⟨Z,A,ρ,q,f⟩:=h00;unfold zJ at f;split at f
 ·rename_i u hu;obtain⟨a,A',h1,r,p⟩:=q.free cj h0 hu;exact⟨.ref a,h1,f A' _ H (r.set c p)⟩
 ·exact f.elim⟩
noncomputable def Ue (sg:U->Ev->R Ev)(g:Ev->R (U×Ev)):Ev->SR:=λρ=>SR.of (g ρ) λx=>SR.of (sg x.1 x.2) .nx
noncomputable def Ug (i j:Nat)(ga:Ev->R (List U×Ev)):Ev->SR:=λρ=>SR.of (ga ρ) λx=>match x.1 with
 | [u,w]=>.nx ((x.2.set i (some u)).set j (some w))
 |_=>.stk
noncomputable def iB (h:Ev->R (Bool×Ev))(s1 s2:Ev->SR):Ev->SR:=λρ=>SR.of (h ρ) λx=>if x.1=true then s1 x.2 else s2 x.2
theorem bz {a b:List ab4}(hc:DT X G c b1 h1)(ha:Ft X G m a s1)(hb:Ft X G m b s2):DS X G m (.If c a b pos) (iB h1 s1 s2):=⟨(QE hc.un ha.un hb.un).to λD σ H h00=>by
 obtain⟨Z,A,ρ,q,f⟩:=h00;obtain⟨⟨k,ρ1⟩,e1,f⟩:=f.of;refine⟨Z,A,ρ,q,?_⟩;rw[e1];intro H1 q1 _ _;cases k with
 |true=>rw[hV rfl] at f ⊢;exact⟨Z,A,ρ1,q1,f⟩
 |false=>rw[hU Yd] at f ⊢;exact⟨Z,A,ρ1,q1,f⟩⟩
noncomputable def iF (h:Ev->R (Bool×Ev))(s:Ev->SR):Nat->Ev->SR
 |0,_=>.stk
 |n+1,ρ=>SR.of (h ρ) λx=>if x.1=true then match s x.2 with
   | .nx ρ2=>iF h s n ρ2
   | .ct ρ2=>iF h s n ρ2
   | .bk ρ2=>.nx ρ2
   |r=>r
  else .nx x.2
theorem zK (hp:ado (YQ X.prog X.w) X.A X.env X.xe)(hc:DT X G c b1 h1)(hb:Ft X G m body s1):DS X G m (.While c body [] pos) (iF h1 s1 n):=⟨(GH hp hc.un hb.un).to λD σ H h00=>by
 obtain⟨Z,A,ρ,q,f⟩:=h00;refine⟨λk σ H=>∃A ρ,ef X.K G Z A ρ σ H/\uw X.K G Z m (iF h1 s1 k ρ) D,⟨n,A,ρ,q,f⟩,?_⟩;rintro k σ H ⟨A,ρ,q,f⟩;cases k with
 |zero=>exact f.elim
 |succ k=>
  unfold iF at f;obtain⟨⟨t,ρ1⟩,e1,f⟩:=f.of;refine⟨Z,A,ρ,q,?_⟩;rw[e1];intro H1 q1 _ _;cases t with
  |false=>rw[hU Yd] at f ⊢;exact f A σ H1 q1
  |true=>
   rw[hV rfl] at f ⊢;refine⟨λσ H=>∃A ρ,ef X.K G Z A ρ σ H/\uw X.K G Z m (iF h1 s1 k ρ) D,λσ' H' z=>⟨k,acp k,z⟩,Z,A,ρ1,q1,?_⟩;dsimp only at f;cases e2:s1 ρ1 with
   |nx ρ2=>rw[e2] at f;exact λA2 σ2 H2 q2=>⟨A2,ρ2,q2,f⟩
   |ct ρ2=>rw[e2] at f;exact λA2 σ2 H2 q2=>⟨A2,ρ2,q2,f⟩
   |bk ρ2=>rw[e2] at f;exact f
   |rt=>rw[e2] at f;exact f
   |exc=>rw[e2] at f;exact f
   |stk=>rw[e2] at f;exact f⟩
end
end L2
namespace L2
def Wk (K:Ye)(p:Bool)(A:YG->Prop)(us:List U)(J:It)(H1:Hp):Prop:=us.length<=Yf/\
 ∀H A',(if p=true then bh H1 H else fY A H1 H)->(∀b,A' b->A b\/H1 b=none)->(∀(i:Nat) (u:U),us[i]? = some u->J.go i H/\∀x H',J.yld i H x H'->bh H H'/\Rp K H' A' u x)/\J.stop us.length H
def Uh (K:Ye)(G:Gm)(b p:Bool)(gi:Ev->R (List U×Ev)):TI:=λσ H R=>∃Z A ρ,ef K G Z A ρ σ H/\match gi ρ with
 | .ok (us,ρ')=>∀J H1,ef K G Z A ρ' σ H1->fY A H H1->(b=false->ρ'=ρ/\bh H H1)->Wk K p A us J H1->R J H1
 |_=>False
structure DI (X:Cx)(G:Gm)(tg iter:aaE)(b p:Bool)(gi:Ev->R (List U×Ev)):Prop where
 un:PI X tg iter (Uh X.K G b p gi)
section
variable {G:Gm}{e a b:aaE}{es:List aaE}{p1:Pos}{b1 b2 b3:Bool}{m m1 m2 m3 mr:Md}{g1 g2 g3:Ev->R (U×Ev)}{h1 h2:Ev->R (Bool×Ev)}{ga:Ev->R (List U×Ev)}{s1 s2:Ev->SR}
def PI.to {t t':TI}(h:PI X tg e t)(i:∀σ H Q,t' σ H Q->t σ H Q):PI X tg e t':=λpins s σ H Q I q=>h pins s σ H Q I (i _ _ _ q)
theorem PI.or {t t':TI}(h:PI X tg e t)(h':PI X tg e t'):PI X tg e (λσ H R=>t σ H R\/t' σ H R):=λpins s σ H Q I q=>by
 rcases q with q|q
 ·exact h pins s σ H Q I q
 ·exact h' pins s σ H Q I q
noncomputable def Rj:Md->Bool
 | .P=>true
 |_=>false
noncomputable def eW (g:Ev->R (U×Ev)):Ev->R (List U×Ev):=λρ=>(g ρ).bind λx=>match x.1 with
 | .lst us=>.ok (us,x.2)
 | .tup us=>.ok (us,x.2)
 | .scr us=>.ok (us,x.2)
 |_=>.stk
theorem K0 (q:ef K G Z A ρ σ H1)(h:wZ K G Z m1 A ρ σ H1 (.lst us) v):∃a,v=.ref a/\(∃xs,fX K H1 a xs)/\Wk K (Rj m1) A us (SY K a) H1:=by
 have hp:=h.pk;unfold Pk at hp;obtain⟨a,xs,rfl,rd,l,rs⟩:=hp;refine⟨a,rfl,⟨xs,fX.of rd⟩,l,λH A' hs ha=>?_⟩;have st:H a=some (.lst xs)/\∀(i:Nat) (u:U),us[i]? = some u->∃x,xs[i]? = some x/\Rp K H A' u x:=by
  cases hm:Rj m1 with
  |true=>
   rw[hm,hV rfl] at hs;refine⟨hs a _ rd,λi u hu=>?_⟩;obtain⟨x,h1,h2⟩:=rs.get hu;exact⟨x,h1,h2.re q.mu (fY.same hs) ha⟩
  |false=>
   rw[hm,hU Yd] at hs;have hn:m1≠.P:=λz=>by subst z;cases hm
   have hr:=h.rp hn;unfold Rp at hr;obtain⟨a',xs',e,na,rd',_,rs'⟩:=hr;cases e;refine⟨hs a _ na rd,λi u hu=>?_⟩;obtain⟨x,h1,h2⟩:=rs.get hu;exact⟨x,h1,h2.re q.mu hs ha⟩
 obtain⟨rd2,get⟩:=st;refine⟨λi u hu=>?_,⟨xs,fX.of rd2,by rw[←rs.length];exact Yl _⟩⟩;obtain⟨x,h1,h2⟩:=get i u hu;refine⟨⟨xs,x,fX.of rd2,h1⟩,λy H' yl=>?_⟩;obtain⟨e,yl⟩:=yl;have e2:=yl xs (fX.of rd2);rw[h1] at e2;cases e2;subst e;exact⟨bh.refl _,h2⟩
theorem OF {p:Bool}(q:ef K G Z A ρ σ H1)(h:Pk K H1 A (.tup us) v):∃a,v=.ref a/\(∃xs,gE K H1 a xs)/\Wk K p A us (TM K a) H1:=by
 unfold Pk at h;obtain⟨a,xs,rfl,sq,l,rs⟩:=h;refine⟨a,rfl,⟨xs,gE.of sq⟩,l,λH A' hs ha=>?_⟩;have ex:fY A H1 H:=by
  cases p with
  |true=>rw[hV rfl] at hs;exact fY.same hs
  |false=>rw[hU Yd] at hs;exact hs
 have P4:gE K H a xs:=gE.of (ex a _ (λz=>by have:=q.mu a z;rw[sq] at this;exact this) sq);refine⟨λi u hu=>?_,⟨xs,P4,by rw[←rs.length];exact Yl _⟩⟩;obtain⟨x,h1,h2⟩:=rs.get hu;refine⟨⟨xs,x,P4,h1⟩,λy H' yl=>?_⟩;obtain⟨e,yl⟩:=yl;have e2:=yl xs P4;rw[h1] at e2;cases e2;subst e;exact⟨bh.refl _,h2.re q.mu ex ha⟩
theorem OG {p:Bool}(q:ef K G Z A ρ σ H1)(h:Pk K H1 A (.scr us) v):∃a,v=.ref a/\(∃xs,fX K H1 a xs)/\Wk K p A us (SY K a) H1:=by
 unfold Pk at h;obtain⟨a,xs,rfl,sq,l,rs⟩:=h;refine⟨a,rfl,⟨xs,sq.sq⟩,l,λH A' hs ha=>?_⟩;have ex:fY A H1 H:=by
  cases p with
  |true=>rw[hV rfl] at hs;exact fY.same hs
  |false=>rw[hU Yd] at hs;exact hs
 have P4:fX K H a xs:=(sq.to λo y w=>ex a _ (λz=>by have:=q.mu a z;rw[w] at this;exact this) w).sq;refine⟨λi u hu=>?_,⟨xs,P4,by rw[←rs.length];exact Yl _⟩⟩;obtain⟨x,h1,h2⟩:=rs.get hu;refine⟨⟨xs,x,P4,h1⟩,λy H' yl=>?_⟩;obtain⟨e,yl⟩:=yl;have e2:=yl xs P4;rw[h1] at e2;cases e2;subst e;exact⟨bh.refl _,h2.re q.mu ex ha⟩
theorem cx (h:DE X G e b1 m1 g1):DI X G tg e b1 (Rj m1) (eW g1):=⟨((Kq h.un).or (Ob h.un)).to λσ H RR h00=>by
 obtain⟨Z,A,ρ,q,f⟩:=h00;unfold eW at f;cases e1:g1 ρ with
 |stk=>rw[e1] at f;exact f.elim
 |exc=>rw[e1] at f;exact f.elim
 |ok y=>
  obtain⟨u,ρ1⟩:=y;rw[e1] at f;cases u with
  |lst us=>
   refine .inl ⟨Z,A,ρ,q,?_⟩;rw[e1];intro v H1 q1 x1 s1 vm;obtain⟨a,e,l,wk⟩:=K0 q1 vm;exact⟨a,e,l,f _ H1 q1 x1 s1 wk⟩
  |tup us=>
   refine .inr ⟨Z,A,ρ,q,?_⟩;rw[e1];intro v H1 q1 x1 s1 vm;obtain⟨a,e,l,wk⟩:=OF (p:=Rj m1) q1 vm.pk;exact⟨a,e,l,f _ H1 q1 x1 s1 wk⟩
  |scr us=>
   refine .inl ⟨Z,A,ρ,q,?_⟩;rw[e1];intro v H1 q1 x1 s1 vm;obtain⟨a,e,l,wk⟩:=OG (p:=Rj m1) q1 vm.pk;exact⟨a,e,l,f _ H1 q1 x1 s1 wk⟩
  |_=>exact f.elim⟩
noncomputable def aX (lo:Int)(n:Nat):List U:=(YS n).map λi=>.int (lo+(i:Nat))
theorem zL {p:Bool}(h:n<=Yf):Wk K p A (aX lo n) (QH lo n) H1:=by
 have hl:(aX lo n).length=n:=by unfold aX;rw[X8,Zh]
 refine⟨by rw[hl];exact h,λH A' _ _=>⟨λi u hu=>?_,by rw[hl];exact Yl _⟩⟩;unfold aX at hu;rw[YL] at hu;cases e:(YS n)[i]? with
 |none=>rw[e] at hu;cases hu
 |some j=>
  rw[e] at hu;obtain⟨l1,l2⟩:=Yr.mp e;rw[Zh] at l1;rw[List.getElem_range] at l2;subst l2;cases hu;refine⟨l1,λx H' y=>?_⟩;obtain⟨rfl,rfl⟩:=y;exact⟨bh.refl _,eC⟩
noncomputable def iZ (ga:Ev->R (List U×Ev)):Ev->R (List U×Ev):=λρ=>(ga ρ).bind λx=>match x.1 with
 | [.int j]=>if -1000000<=j/\j<=1000000 then .ok (aX 0 j.toNat,x.2) else .stk
 |_=>.stk
noncomputable def Hi (ga:Ev->R (List U×Ev)):Ev->R (List U×Ev):=λρ=>(ga ρ).bind λx=>match x.1 with
 | [.int i,.int j]=>if (-1000000<=i/\i<=1000000)/\(-1000000<=j/\j<=1000000) then .ok (aX i (j-i).toNat,x.2) else .stk
 |_=>.stk
theorem d5 {a:aaE}(ha:DA X G [a] b1 false ga)(hm:X.mg "range"=none)(hg:Gl X "range":=by rfl)(hs:YC [a] X.env=[(false,abN a X.env)]:=by rfl):DI X G tg (.Call (.Name "range" p1) [a] [] pos) b1 false (iZ ga):=⟨(Fc hg hm ha.un hs).to λσ H RR h00=>by
 obtain⟨Z,A,ρ,q,f⟩:=h00;unfold iZ at f;cases e1:ga ρ with
 |stk=>rw[e1] at f;exact f.elim
 |exc=>rw[e1] at f;exact f.elim
 |ok y=>
  obtain⟨us,ρ1⟩:=y;rw[e1] at f;dsimp only[L2.R.bind] at f;refine⟨Z,A,ρ,q,?_⟩;rw[e1];intro vs H1 q1 x1 s1 vm;split at f
  ·rename_i VS ρ' e2;split at e2
   ·rename_i j;split at e2
    ·rename_i hl;cases e2;have r:=vm.rps;unfold bf at r;obtain⟨v,vr,rfl,r1,r2⟩:=r;unfold bf at r2;subst r2;unfold Rp at r1;subst r1;exact⟨j,rfl,by lia,by lia,f _ H1 q1 x1 s1 (zL (by have:Yf=16777216:=rfl;lia))⟩
    ·cases e2
   ·cases e2
  ·exact f.elim⟩
theorem Fv {a b:aaE}(ha:DA X G [a,b] b1 false ga)(hm:X.mg "range"=none)(hg:Gl X "range":=by rfl)(hs:YC [a,b] X.env=[(false,abN a X.env),(false,abN b X.env)]:=by rfl)(dG:YC [b] X.env=[(false,abN b X.env)]:=by rfl):DI X G tg (.Call (.Name "range" p1) [a,b] [] pos) b1 false (Hi ga):=⟨(Fd hg hm ha.un hs dG).to λσ H RR h00=>by
 obtain⟨Z,A,ρ,q,f⟩:=h00;unfold Hi at f;cases e1:ga ρ with
 |stk=>rw[e1] at f;exact f.elim
 |exc=>rw[e1] at f;exact f.elim
 |ok y=>
  obtain⟨us,ρ1⟩:=y;rw[e1] at f;dsimp only[L2.R.bind] at f;refine⟨Z,A,ρ,q,?_⟩;rw[e1];intro vs H1 q1 x1 s1 vm;split at f
  ·rename_i VS ρ' e2;split at e2
   ·rename_i i j;split at e2
    ·rename_i hl;cases e2;have r:=vm.rps;unfold bf at r;obtain⟨v,vr,rfl,r1,r2⟩:=r;unfold bf at r2;obtain⟨v',vr',rfl,r3,r4⟩:=r2;unfold bf at r4;subst r4;unfold Rp at r1 r3;subst r1 r3;exact⟨i,j,rfl,by lia,f _ H1 q1 x1 s1 (zL (by have:Yf=16777216:=rfl;lia))⟩
    ·cases e2
   ·cases e2
  ·exact f.elim⟩
noncomputable def kA (sg:U->Ev->R Ev)(s:Ev->SR):List U->Ev->SR
 | [],ρ=>.nx ρ
 |u::us,ρ=>SR.of (sg u ρ) λρ1=>match s ρ1 with
   | .nx ρ2=>kA sg s us ρ2
   | .ct ρ2=>kA sg s us ρ2
   | .bk ρ2=>.nx ρ2
   |r=>r
noncomputable def qK (gi:Ev->R (List U×Ev))(sg:U->Ev->R Ev)(s:Ev->SR):Ev->SR:=λρ=>SR.of (gi ρ) λx=>kA sg s x.1 x.2
open Classical in
noncomputable def Pkg.lp (Z:Pkg)(A:YG->Prop)(H:Hp):Pkg:={Z with B:=λb=>if A b/\Z.B b=none then none else H b}
def xY {b:YG}(h1:A b)(h2:Z.B b=none):(Z.lp A H).B b=none:=by
 unfold Pkg.lp;dsimp only;exact hV ⟨h1,h2⟩
def pJ {b:YG}(h:¬(A b/\Z.B b=none)):(Z.lp A H).B b=H b:=by
 unfold Pkg.lp;dsimp only;exact hU h
def B9 {b:YG}(h:(Z.lp A H).B b=none):(A b/\Z.B b=none)\/H b=none:=by
 by_cases c:A b/\Z.B b=none
 ·exact .inl c
 ·rw[pJ c] at h;exact .inr h
theorem ef.lp (q:ef K G Z A ρ σ H):ef K G (Z.lp A H) A ρ σ H where
 slot:=λi u h=>by
  obtain⟨v,h1,h2⟩:=q.slot i u h;refine⟨v,h1,?_⟩;by_cases c:G.is i=true
  ·rw[hV c] at h2 ⊢;obtain⟨a,e1,e2,e3,e4,e5⟩:=h2;exact⟨a,e1,e2,xY e2 e3,e4,e5⟩
  ·rw[hU c] at h2 ⊢;exact h2
 dis:=q.dis
 mu:=q.mu
 sup:=q.sup
 out:=λa h=>(q.out a h).imp id λz=>xY h z
 bas:=λa o h=>by
  by_cases c:A a/\Z.B a=none
  ·rw[xY c.1 c.2] at h;cases h
  ·rw[pJ c] at h;exact h
 io0:=q.io0
 len:=q.len
theorem ef.unlp {A':YG->Prop}{ρ':Ev}{σ':St}(q:ef K G Z A ρ σ H)(q':ef K G (Z.lp A H) A' ρ' σ' H'):ef K G Z A' ρ' σ' H':=by
 have sub:∀a,(Z.lp A H).B a=none->Z.B a=none:=λa h=>by
  rcases B9 h with z|h
  ·exact z.2
  ·cases e:Z.B a with
   |none=>rfl
   |some o=>rw[q.bas a o e] at h;cases h
 exact {
  slot:=λi u h=>by
   obtain⟨v,h1,h2⟩:=q'.slot i u h;refine⟨v,h1,?_⟩;by_cases c:G.is i=true
   ·rw[hV c] at h2 ⊢;obtain⟨a,e1,e2,e3,e4,e5⟩:=h2;exact⟨a,e1,e2,sub a e3,e4,e5⟩
   ·rw[hU c] at h2 ⊢;exact h2
  dis:=q'.dis
  mu:=q'.mu
  sup:=q'.sup
  out:=λa h=>(q'.out a h).imp id (sub a)
  bas:=λa o h=>q'.bas a o (by
   rw[pJ (λz=>by rw[h] at z;exact nomatch z.2)];exact q.bas a o h)
  io0:=q'.io0
  len:=q'.len}
theorem uw.lp {r:SR}{D:t_}(q:ef K G Z A ρ σ H)(f:uw K G Z m r D):uw K G (Z.lp A H) m r D:=by
 cases r with
 |nx=>exact λA' σ' H' q'=>f A' σ' H' (q.unlp q')
 |bk=>exact λA' σ' H' q'=>f A' σ' H' (q.unlp q')
 |ct=>exact λA' σ' H' q'=>f A' σ' H' (q.unlp q')
 |rt u ρ'=>
  intro A' σ' H' v q' vm;refine f A' σ' H' v (q.unlp q') ?_;cases m with
  |S=>exact vm
  |P=>exact vm
  |O=>
   obtain⟨a,e,nb,na,t⟩:=vm;refine⟨a,e,?_,na,t⟩;rcases B9 nb with z|h
   ·exact z.2
   ·cases e:Z.B a with
    |none=>rfl
    |some o=>rw[q.bas a o e] at h;cases h
 |exc=>exact λH' hb=>f H' λa o h=>hb a o (by
   rw[pJ (λz=>by rw[h] at z;exact nomatch z.2)];exact q.bas a o h)
 |stk=>exact f.elim
theorem kP {gi:Ev->R (List U×Ev)}(hp:ado (YQ X.prog X.w) X.A X.env X.xe)(hc:X.calm=true)(hi:DI X G tg iter b1 false gi)(hg:DG X G tg sg)(hb:Ft X G m body s1)(hs:∀x,aah iter X.env x=pure x:=by intro _;rfl):DS X G m (.For tg iter body [] pos) (qK gi sg s1):=⟨(KL hp hc hi.un hg.un hb.un hs).to λD σ H h00=>by
 obtain⟨Z,A,ρ,q,f⟩:=h00;obtain⟨⟨us,ρ1⟩,e1,f⟩:=f.of;refine⟨Z,A,ρ,q,?_⟩;rw[e1];intro J H1 q1 x1 De wk;dsimp only at f;obtain⟨hz,wk⟩:=wk;refine⟨λi k σ H=>i+k=us.length/\∃A' ρ',ef X.K G (Z.lp A H1) A' ρ' σ H/\uw X.K G (Z.lp A H1) m (kA sg s1 (us.drop i) ρ') D,⟨us.length,by lia,A,ρ1,q1.lp,by rw[acg];exact f.lp q1⟩,?_⟩;rintro i k σ H ⟨hk,A',ρ',q',f'⟩;have ex:fY A H1 H:=λb o nb z=>q'.bas b o (by
  rw[pJ (λy=>nb y.1)];exact z)
 have nw:∀b,A' b->A b\/H1 b=none:=λb z=>by
  rcases q'.out b z with y|y
  ·exact .inl (q1.sup b y)
  ·rcases B9 y with w|h
   ·exact .inl w.1
   ·exact .inr h
 obtain⟨w1,w2⟩:=wk H A' (by rw[hU Yd];exact ex) nw;by_cases Dd:i<us.length
 ·have eu:us[i]? = some us[i]:=X7 Dd;obtain⟨go,yl⟩:=w1 i _ eu;rw[Z1 Dd] at f';unfold kA at f';obtain⟨ρ2,e2,f2⟩:=f'.of;refine .inr ⟨go,λσ H=>∃A' ρ',ef X.K G (Z.lp A H1) A' ρ' σ H/\uw X.K G (Z.lp A H1) m (kA sg s1 (us.drop (i+1)) ρ') D,λσ' H' z=>⟨k-1,by lia,by lia,z⟩,λx H' y=>?_⟩;obtain⟨sm,rp⟩:=yl x H' y;refine⟨Z.lp A H1,A',ρ',us[i],q'.same sm,rp,?_⟩;rw[e2];intro σ2 q2 _;refine⟨Z.lp A H1,A',ρ2,q2,?_⟩;cases e3:s1 ρ2 with
  |nx ρ3=>rw[e3] at f2;exact λA3 σ3 H3 q3=>⟨A3,ρ3,q3,f2⟩
  |ct ρ3=>rw[e3] at f2;exact λA3 σ3 H3 q3=>⟨A3,ρ3,q3,f2⟩
  |bk ρ3=>rw[e3] at f2;exact f2
  |rt=>rw[e3] at f2;exact f2
  |exc=>rw[e3] at f2;exact f2
  |stk=>rw[e3] at f2;exact f2
 ·have e:i=us.length:=by lia
  subst e;rw[aby] at f';exact .inl ⟨w2,f' A' σ H q'⟩⟩
end
end L2
namespace L2
noncomputable def kq (js:List (Option Nat))(ρ:Ev):Ev:=js.map λo=>match o with
 |none=>none
 |some j=>match ρ[j]? with
  |some v=>v
  |none=>none
noncomputable def vO (G:Gm)(js:List (Option Nat)):Gm:=⟨js.map λo=>match o with
 |none=>false
 |some j=>G.is j,false,λ_=>False⟩
noncomputable def qL:List (Option Nat)->Bool
 | []=>true
 |none::r=>qL r
 |some j::r=> !(r.contains (some j))&&qL r
theorem ux:∀{js:List (Option Nat)} {i k j:Nat},qL js=true->js[i]? = some (some j)->js[k]? = some (some j)->i=k
 | [],_,_,_,_,h,_=>by simp at h
 |none::r,i,k,j,ok,h1,h2=>by
  unfold qL at ok;cases i with
  |zero=>simp at h1
  |succ i=>
   cases k with
   |zero=>simp at h2
   |succ k=>exact congrArg (·+1) (ux (j:=j) ok (by simpa using h1) (by simpa using h2))
 |some j'::r,i,k,j,ok,h1,h2=>by
  unfold qL at ok;rw[Ys] at ok;have nm:∀n:Nat,r[n]? ≠ some (some j'):=λn h=>by
   have:=Y6 h;simp at ok;exact ok.1 this
  cases i with
  |zero=>
   cases k with
   |zero=>rfl
   |succ k=>simp at h1 h2;subst h1;exact absurd h2 (nm k)
  |succ i=>
   cases k with
   |zero=>simp at h1 h2;subst h2;exact absurd h1 (nm i)
   |succ k=>exact congrArg (·+1) (ux (j:=j) ok.2 (by simpa using h1) (by simpa using h2))
theorem pK (h:(kq js ρ)[i]? = some (some u)):∃j,js[i]? = some (some j)/\ρ[j]? = some (some u):=by
 unfold kq at h;rw[YL] at h;cases e:js[i]? with
 |none=>rw[e] at h;cases h
 |some o=>
  rw[e] at h;cases o with
  |none=>cases h
  |some j=>
   refine⟨j,rfl,?_⟩;have h:=YF h;dsimp only at h;split at h
   ·rename_i v hv;rw[hv,h]
   ·cases h
def pL (h:js[i]? = some (some j))(hv:σ[j]? = some (some v)):(wY js σ)[i]? = some (some v):=by
 unfold wY;rw[YL,h];dsimp only[Option.map];rw[hv]
def uy {G:Gm}(h:js[i]? = some (some j)):(vO G js).is i=G.is j:=by
 unfold vO Gm.is;dsimp only;rw[abv,YL,h];rfl
def Dv (js:List (Option Nat))(ρ:Ev)(σ:St):(kq js ρ).length=(wY js σ).length:=by
 unfold kq wY;rw[X8,X8]
section
variable {G:Gm}{ρi:Ev}
theorem Dx (q:ef K G Z A ρ σ H)(ok:qL js=true):ef K (vO G js) ⟨λ_=>False,λ_=>none,0⟩ A (kq js ρ) (wY js σ) H where
 slot:=λi u h=>by
  obtain⟨j,h1,h2⟩:=pK h;obtain⟨v,h3,h4⟩:=q.slot j u h2;refine⟨v,pL h1 h3,?_⟩;rw[uy h1];by_cases c:G.is j=true
  ·rw[hV c] at h4 ⊢;obtain⟨a,e1,e2,_,_,e5⟩:=h4;exact⟨a,e1,e2,rfl,.inl id,e5⟩
  ·rw[hU c] at h4 ⊢;exact h4
 dis:=λi k u w a ci ck ne hi hk si sk=>by
  obtain⟨j,h1,h2⟩:=pK hi;obtain⟨j',h1',Qt⟩:=pK hk;rw[uy h1] at ci;rw[uy h1'] at ck;obtain⟨b,e1,_⟩:=q.own ci h2;obtain⟨b',Dh,_⟩:=q.own ck Qt;rw[pL h1 e1] at si;rw[pL h1' Dh] at sk;cases si;cases sk;exact q.dis j j' u w a ci ck (λz=>ne (by subst z;exact ux ok h1 h1')) h2 Qt e1 Dh
 mu:=q.mu
 sup:=λ_ h=>h.elim
 out:=λ_ _=>.inr rfl
 bas:=λ_ _ h=>by cases h
 io0:=λh=>by cases h
 len:=Dv js ρ σ
def K1 (G:Gm)(js:List (Option Nat))(ρ:Ev)(σ:St)(a:YG):Prop:=∃(i j:Nat) (u:U),js[i]? = some (some j)/\G.is j=true/\ρ[j]? = some (some u)/\σ[j]? = some (some (.ref a))
open Classical in
noncomputable def OH (G:Gm)(js:List (Option Nat))(A:YG->Prop)(ρ:Ev)(σ:St)(H:Hp):Pkg:=⟨λa=>A a/\¬K1 G js ρ σ a,λa=>if K1 G js ρ σ a then none else H a,0⟩
def uz (h:K1 G js ρ σ a):(OH G js A ρ σ H).B a=none:=by
 unfold OH;dsimp only;exact hV h
def pM (h:¬K1 G js ρ σ a):(OH G js A ρ σ H).B a=H a:=by
 unfold OH;dsimp only;exact hU h
theorem OI (q:ef K G Z A ρ σ H)(ok:qL js=true):ef K (vO G js) (OH G js A ρ σ H) A (kq js ρ) (wY js σ) H where
 slot:=λi u h=>by
  obtain⟨j,h1,h2⟩:=pK h;obtain⟨v,h3,h4⟩:=q.slot j u h2;refine⟨v,pL h1 h3,?_⟩;rw[uy h1];by_cases c:G.is j=true
  ·rw[hV c] at h4 ⊢;obtain⟨a,e1,e2,_,_,e5⟩:=h4;subst e1;have cp:K1 G js ρ σ a:=⟨i,j,u,h1,c,h2,h3⟩;exact⟨a,rfl,e2,uz cp,.inl λz=>z.2 cp,e5⟩
  ·rw[hU c] at h4 ⊢;exact h4
 dis:=(Dx q ok).dis
 mu:=q.mu
 sup:=λ_ h=>h.1
 out:=λa h=>by
  by_cases c:K1 G js ρ σ a
  ·exact .inr (uz c)
  ·exact .inl ⟨h,c⟩
 bas:=λa o h=>by
  by_cases c:K1 G js ρ σ a
  ·rw[uz c] at h;cases h
  ·rw[pM c] at h;exact h
 io0:=λh=>by cases h
 len:=Dv js ρ σ
noncomputable def mM:List (Option Nat)->Nat->Option Nat
 | [],_=>none
 |o::r,j=>if o=some j then some 0 else (mM r j).map (·+1)
theorem w6:∀{js:List (Option Nat)} {i j:Nat},mM js j=some i->js[i]? = some (some j)
 | [],_,_,h=>by cases h
 |o::r,i,j,h=>by
  unfold mM at h;split at h
  ·rename_i e;cases h;rw[e];rfl
  ·cases e:mM r j with
   |none=>rw[e] at h;cases h
   |some k=>
    rw[e] at h;cases h;rw[ZE];exact w6 e
theorem uA:∀{js:List (Option Nat)} {i j:Nat},mM js j=none->js[i]? ≠ some (some j)
 | [],_,_,_=>by simp
 |o::r,i,j,h=>by
  unfold mM at h;split at h
  ·cases h
  ·rename_i ne;cases e:mM r j with
   |some k=>rw[e] at h;cases h
   |none=>
    cases i with
    |zero=>intro z;exact ne (YF z)
    |succ i=>rw[ZE];exact uA e
noncomputable def wb (G:Gm)(js:List (Option Nat))(ρi ρ:Ev):Ev:=ρ.mapIdx λj x=>if (G.is j&&x.isSome)=true then (match mM js j with
 |some i=>(ρi[i]?).getD none
 |none=>x) else x
theorem B_ (h:(wb G js ρi ρ)[j]? = some (some u)):∃u0,ρ[j]? = some (some u0)/\((G.is j=true/\∃i,mM js j=some i/\ρi[i]? = some (some u))\/(u0=u/\(G.is j=false\/mM js j=none))):=by
 unfold wb at h;rw[List.getElem?_mapIdx] at h;cases e:ρ[j]? with
 |none=>rw[e] at h;cases h
 |some x=>
  rw[e] at h;have h:=YF h;cases x with
  |none=>simp at h
  |some u0=>
   refine⟨u0,rfl,?_⟩;dsimp only at h;by_cases c:G.is j=true
   ·rw[hV (by rw[c];rfl)] at h;split at h
    ·rename_i i hi;refine .inl ⟨c,i,hi,?_⟩;cases e2:ρi[i]? with
     |none=>rw[e2] at h;cases h
     |some y=>rw[e2] at h;simp at h;rw[h]
    ·rename_i hi;exact .inr ⟨YF h,.inr hi⟩
   ·have c:G.is j=false:=ZT.mpr c;rw[hU (by rw[c];exact Yd)] at h;exact .inr ⟨YF h,.inl c⟩
theorem ef.wb {σ4:St}(q:ef K G Z A ρ σ H)(ok:qL js=true)(q':ef K (vO G js) (OH G js A ρ σ H) A ρi σ4 H')(ho:∀i,(vO G js).is i=true->σ4[i]? = (wY js σ)[i]?):ef K G Z A (L2.wb G js ρi ρ) σ H'/\fY A H H':=by
 have SD:∀a,K1 G js ρ σ a->A a/\Z.B a=none:=λa h00=>by
  obtain⟨i,j,u,h1,h2,h3,h4⟩:=h00;obtain⟨b,e1,e2,e3,_⟩:=q.own h2 h3;rw[h4] at e1;cases e1;exact⟨e2,e3⟩
 have ex:fY A H H':=λb o nb z=>q'.bas b o (by rw[pM λc=>nb (SD b c).1];exact z);refine⟨{
  slot:=λj u h=>?_
  dis:=λi k u w a ci ck ne hi hk si sk=>by
   obtain⟨u1,h1,_⟩:=B_ hi;obtain⟨u2,h2,_⟩:=B_ hk;exact q.dis i k u1 u2 a ci ck ne h1 h2 si sk
  mu:=q'.mu
  sup:=q.sup
  out:=q.out
  bas:=λa o h=>q'.bas a o (by
   rw[pM λc=>by rw[(SD a c).2] at h;cases h];exact q.bas a o h)
  io0:=q.io0
  len:=by unfold L2.wb;rw[List.length_mapIdx];exact q.len},ex⟩
 obtain⟨u0,h0,hh⟩:=B_ h;rcases hh with⟨c,i,hi,hu⟩|⟨rfl,hc⟩
 ·have hj:=w6 hi;obtain⟨a,e1,e2,e3,e4,_⟩:=q.own c h0;have ci:(vO G js).is i=true:=by rw[uy hj];exact c
  obtain⟨a',k1,k2,_,_,k5⟩:=q'.own ci hu;rw[ho i ci,pL hj e1] at k1;cases k1;refine⟨.ref a,e1,?_⟩;rw[hV c];exact⟨a,rfl,e2,e3,e4,k5⟩
 ·obtain⟨v,h1,h2⟩:=q.slot j u0 h0;refine⟨v,h1,?_⟩;by_cases c:G.is j=true
  ·rw[hV c] at h2 ⊢;obtain⟨a,rfl,e2,e3,e4,e5⟩:=h2;have hc:mM js j=none:=by
    rcases hc with hc|hc
    ·rw[c] at hc;cases hc
    ·exact hc
   have nc:¬K1 G js ρ σ a:=λh00=>by
    obtain⟨i,j',u,z1,z2,z3,z4⟩:=h00;have ne:j≠j':=λz=>by subst z;exact uA hc z1
    exact q.dis j j' u0 u a c z2 ne h0 z3 h1 z4
   exact⟨a,rfl,e2,e3,e4,e5.re q.mu ex (λb z=>.inl z) λo z=>q'.bas a o (by rw[pM nc];exact z)⟩
  ·rw[hU c] at h2 ⊢;exact h2.re q.mu ex λb z=>.inl z
end
noncomputable def lr (f:U->R (Option U)):List U->R (List U)
 | []=>.ok []
 |u::us=>(f u).bind λo=>(lr f us).bind λr=>.ok (match o with
  |some y=>y::r
  |none=>r)
noncomputable def nq (js:List (Option Nat))(sg:U->Ev->R Ev)(gt:Ev->R (Bool×Ev))(ge:Ev->R (U×Ev))(ρ:Ev)(u:U):R (Option U):=
 (sg u (kq js ρ)).bind λρi=>(gt ρi).bind λc=>if c.1=true then (ge ρi).bind λy=>.ok (some y.1) else .ok none
noncomputable def eX (gi:Ev->R (List U×Ev))(js:List (Option Nat))(sg:U->Ev->R Ev)(gt:Ev->R (Bool×Ev))(ge:Ev->R (U×Ev)):Ev->R (U×Ev):=λρ=>
 (gi ρ).bind λx=>(lr (nq js sg gt ge x.2) x.1).bind λys=>.ok (.lst ys,x.2)
noncomputable def qM (G:Gm)(js:List (Option Nat))(sg:U->Ev->R Ev)(gt:Ev->R (Bool×Ev))(ge:Ev->R (U×Ev)):List U->Ev->R (List U×Ev)
 | [],ρ=>.ok ([],ρ)
 |u::us,ρ=>(sg u (kq js ρ)).bind λρi=>(gt ρi).bind λc=>if c.1=true then (ge c.2).bind λy=>(qM G js sg gt ge us (wb G js y.2 ρ)).bind λr=>.ok (y.1::r.1,r.2) else qM G js sg gt ge us (wb G js c.2 ρ)
noncomputable def xZ (G:Gm)(gi:Ev->R (List U×Ev))(js:List (Option Nat))(sg:U->Ev->R Ev)(gt:Ev->R (Bool×Ev))(ge:Ev->R (U×Ev)):Ev->R (U×Ev):=λρ=>
 (gi ρ).bind λx=>(qM G js sg gt ge x.1 x.2).bind λy=>.ok (.lst y.1,y.2)
theorem R.bind_ok {α β:Type}{x:R α}{k:α->R β}{b:β}(h:x.bind k=.ok b):∃a,x=.ok a/\k a=.ok b:=by
 cases x with
 |ok a=>exact⟨a,rfl,h⟩
 |exc=>cases h
 |stk=>cases h
section
variable {G:Gm}{e:aaE}{b1 b2 b3 p:Bool}{m me:Md}{gi:Ev->R (List U×Ev)}{gt:Ev->R (Bool×Ev)}{ge:Ev->R (U×Ev)}
theorem zM (ok:qL js=true)(hn:me≠.P){Q:VK}(h:tD X.K G b1 .O (eX gi js sg gt ge) σ H Q) :
  S2 (Uh X.K G b1 p gi) js (λ_=>Uc X.K (vO G js) sg) (λ_=>Gq X.K (vO G js) false gt) (λ_=>tD X.K (vO G js) false me ge) σ H Q:=by
 obtain⟨Z,A,ρ,q,f⟩:=h;obtain⟨⟨us,ρ1⟩,e1,f⟩:=f.bind;obtain⟨all,e2,f⟩:=f.bind;refine⟨Z,A,ρ,q,?_⟩;rw[e1];intro J H1 q1 x1 s1 ⟨hz,wk⟩ Y;dsimp only at e2 f;refine⟨λi k ys H2=>i+k=us.length/\bh H1 H2/\∃done rest,lr (nq js sg gt ge ρ1) (us.drop i)=.ok rest/\done++rest=all/\bf X.K H2 A done ys/\done.length<=i,
  ⟨us.length,by lia,bh.refl _,[],all,by rw[acg];exact e2,rfl,bf.nil,Yl _⟩,?_⟩
 rintro i k ys H2 ⟨hk,sm,done,rest,e3,e4,rs,hd⟩;have q2:=q1.same sm;obtain⟨w1,w2⟩:=wk H2 A (by split;exact sm;exact fY.same sm) λb z=>.inl z;by_cases Dd:i<us.length
 ·have eu:us[i]? = some us[i]:=X7 Dd;obtain⟨go,yl⟩:=w1 i _ eu;rw[Z1 Dd] at e3;unfold lr at e3;obtain⟨o,e5,e3⟩:=R.bind_ok e3;obtain⟨r,e6,e3⟩:=R.bind_ok e3;unfold nq at e5;obtain⟨ρi,e7,e5⟩:=R.bind_ok e5;obtain⟨⟨c,ρc⟩,e8,e5⟩:=R.bind_ok e5;refine .inr ⟨go,by rw[←rs.length];lia,λNI H'=>bh H1 H'/\∃done,done++r=all/\bf X.K H' A done NI/\done.length<=i+1,λNI H' ⟨z1,dn,z2,z3,z4⟩=>⟨k-1,by lia,by lia,z1,dn,r,e6,z2,z3,z4⟩,λx H3 y=>?_⟩;obtain⟨sm3,rp⟩:=yl x H3 y;refine⟨_,A,kq js ρ1,us[i],(Dx (q2.same sm3) ok),rp,?_⟩;rw[e7];intro σ4 q4 _;refine⟨_,A,ρi,q4,?_⟩;rw[e8];intro H5 q5 x5 s5;obtain⟨rfl,NH⟩:=s5 rfl;cases c with
  |false=>
   rw[hU Yd] at e5 ⊢;cases e5;cases e3;exact⟨(sm.trans sm3).trans NH,done,e4,(rs.same sm3).same NH,by lia⟩
  |true=>
   rw[hV rfl] at e5 ⊢;obtain⟨⟨y1,ρy⟩,e9,e5⟩:=R.bind_ok e5;cases e5;cases e3;refine⟨_,A,ρc,q5,?_⟩;rw[e9];intro v H6 q6 x6 s6 vm;obtain⟨rfl,sm6⟩:=s6 rfl;have VT:=sm3.trans (NH.trans sm6);exact⟨sm.trans VT,done++[y1],by rw[YB];exact e4,(rs.same VT).append (bf.cons (vm.rp hn) bf.nil),by rw[Yc];simp;lia⟩
 ·have e:i=us.length:=by lia
  subst e;rw[aby] at e3;cases e3;rw[YV] at e4;subst e4;refine .inl ⟨w2,λa na=>?_⟩;have sn:=dF na (.lst ys);exact f _ _ (q2.same sn) ((x1.trans (fY.same sm)).trans (fY.same sn)) (oE (oE s1 sm) sn) (Gp.e q2 sn ⟨a,rfl,na,cM q2.mu rs na (by lia)⟩)
theorem Hj (ok:qL js=true)(hn:me≠.P){Q:VK}(h:tD X.K G true .O (xZ G gi js sg gt ge) σ H Q) :
  S2 (Uh X.K G b1 false gi) js (λ_=>Uc X.K (vO G js) sg) (λ_=>Gq X.K (vO G js) b2 gt) (λ_=>tD X.K (vO G js) b3 me ge) σ H Q:=by
 obtain⟨Z,A,ρ,q,f⟩:=h;obtain⟨⟨us,ρ1⟩,e1,f⟩:=f.bind;obtain⟨⟨all,ρe⟩,e2,f⟩:=f.bind;refine⟨Z,A,ρ,q,?_⟩;rw[e1];intro J H1 q1 x1 s1 ⟨hz,wk⟩ Y;dsimp only at e2 f;refine⟨λi k ys H2=>i+k=us.length/\fY A H1 H2/\∃ρ2 done rest,ef X.K G Z A ρ2 σ H2/\qM G js sg gt ge (us.drop i) ρ2=.ok (rest,ρe)/\done++rest=all/\bf X.K H2 A done ys/\done.length<=i,
  ⟨us.length,by lia,fY.refl,ρ1,[],all,q1,by rw[acg];exact e2,rfl,bf.nil,Yl _⟩,?_⟩
 rintro i k ys H2 ⟨hk,ex,ρ2,done,rest,q2,e3,e4,rs,hd⟩;obtain⟨w1,w2⟩:=wk H2 A (by rw[hU Yd];exact ex) λb z=>.inl z;by_cases Dd:i<us.length
 ·have eu:us[i]? = some us[i]:=X7 Dd;obtain⟨go,yl⟩:=w1 i _ eu;rw[Z1 Dd] at e3;unfold qM at e3;obtain⟨ρi,e7,e3⟩:=R.bind_ok e3;obtain⟨⟨c,ρc⟩,e8,e3⟩:=R.bind_ok e3;refine .inr ⟨go,by rw[←rs.length];lia,λNI H'=>fY A H1 H'/\∃ρ2 done rest,ef X.K G Z A ρ2 σ H'/\qM G js sg gt ge (us.drop (i+1)) ρ2=.ok (rest,ρe)/\done++rest=all/\bf X.K H' A done NI/\done.length<=i+1,λNI H' z=>⟨k-1,by lia,by lia,z⟩,λx H3 y=>?_⟩;obtain⟨sm3,rp⟩:=yl x H3 y;have q3:=q2.same sm3;refine⟨OH G js A ρ2 σ H3,A,kq js ρ2,us[i],OI q3 ok,rp,?_⟩;rw[e7];intro σ4 q4 o4;refine⟨_,A,ρi,q4,?_⟩;rw[e8];intro H5 q5 x5 s5;dsimp only at e3;cases c with
  |false=>
   rw[hU Yd] at e3 ⊢;obtain⟨q6,x6⟩:=q3.wb ok q5 o4;exact⟨ex.trans ((fY.same sm3).trans x6),_,done,rest,q6,e3,e4,(rs.same sm3).re q3.mu x6 (λb z=>.inl z),by lia⟩
  |true=>
   rw[hV rfl] at e3 ⊢;obtain⟨⟨y1,ρy⟩,e9,e3⟩:=R.bind_ok e3;obtain⟨⟨r,ρr⟩,e10,e3⟩:=R.bind_ok e3;cases e3;refine⟨_,A,ρc,q5,?_⟩;rw[e9];intro v H6 q6 x6 s6 vm;obtain⟨q7,x7⟩:=q3.wb ok q6 o4;exact⟨ex.trans ((fY.same sm3).trans x7),_,done++[y1],r,q7,e10,by rw[YB];exact e4,((rs.same sm3).re q3.mu x7 (λb z=>.inl z)).append (bf.cons (vm.rp hn) bf.nil),by rw[Yc];simp;lia⟩
 ·have e:i=us.length:=by lia
  subst e;rw[aby] at e3;cases e3;rw[YV] at e4;subst e4;refine .inl ⟨w2,λa na=>?_⟩;have sn:=dF na (.lst ys);exact f _ _ (q2.same sn) ((x1.trans ex).trans (fY.same sn)) (λz=>nomatch z) (Gp.e q2 sn ⟨a,rfl,na,cM q2.mu rs na (by lia)⟩)
structure Hk (X:Cx)(G:Gm)(vK:List aaE)(b:Bool)(h:Ev->R (Bool×Ev)):Prop where
 un:Fo X vK (Gq X.K G b h)
noncomputable def cb:Ev->R (Bool×Ev):=λρ=>.ok (true,ρ)
def ba:Hk X G [] false cb:=⟨λpins s σ H Q I ⟨Z,A,ρ,q,f⟩=>GZ pins s σ H Q I (f H q fY.refl λ_=>⟨rfl,bh.refl _⟩)⟩
def Hl {h:Ev->R (Bool×Ev)}(hc:DT X G e b1 h):Hk X G [e] b1 h:=⟨G0 hc.un⟩
def dw (nN:ada)(NX N:List Str)(js:List (Option Nat))(hc:X.calm=true)(hi:DI X G tg iter b1 p gi)(zc:∀Y:tK,DG (fD X scope N Y) (vO G js) tg sg/\Hk (fD X scope N Y) (vO G js) vK false gt/\DE (fD X scope N Y) (vO G js) elt false me ge)(hn:me≠.P:=by decide)(ok:qL js=true:=by rfl)(n8:X.env.scope=nN:=by rfl)(L7:X.N=NX:=by rfl)(hS:vV nN NX scope N js=true:=by decide+kernel)(hs:∀x,aah iter X.env x=pure x:=by intro _;rfl):DE X G (.ListComp elt [⟨tg,iter,vK,0⟩] scope pos) b1 .O (eX gi js sg gt ge):=⟨(Mf nN NX N js hc hi.un (λY=>⟨(zc Y).1.un,(zc Y).2.1.un,(zc Y).2.2.un⟩) n8 L7 hS hs).to λ_ _ _=>zM ok hn⟩
def qN (nN:ada)(NX N:List Str)(js:List (Option Nat))(hc:X.calm=true)(hi:DI X G tg iter b1 false gi)(zc:∀Y:tK,DG (fD X scope N Y) (vO G js) tg sg/\Hk (fD X scope N Y) (vO G js) vK b2 gt/\DE (fD X scope N Y) (vO G js) elt b3 me ge)(hn:me≠.P:=by decide)(ok:qL js=true:=by rfl)(n8:X.env.scope=nN:=by rfl)(L7:X.N=NX:=by rfl)(hS:vV nN NX scope N js=true:=by decide+kernel)(hs:∀x,aah iter X.env x=pure x:=by intro _;rfl):DE X G (.ListComp elt [⟨tg,iter,vK,0⟩] scope pos) true .O (xZ G gi js sg gt ge):=⟨(Mf nN NX N js hc hi.un (λY=>⟨(zc Y).1.un,(zc Y).2.1.un,(zc Y).2.2.un⟩) n8 L7 hS hs).to λ_ _ _=>Hj ok hn⟩
variable {qs n9:Pos}
def nu (nN:ada)(NX N:List Str)(js:List (Option Nat))(hN:X.N.Nodup)(hc:X.calm=true)(hi:DI X G tg iter b1 p gi)(zc:∀Y:tK,DG (fD X scope N Y) (vO G js) tg sg/\Hk (fD X scope N Y) (vO G js) vK false gt/\DE (fD X scope N Y) (vO G js) elt false me ge)(hx:X.N[i]? = some x:=by rfl)(hl:Gk X.env.scope x:=by first|exact Or.inl rfl|exact Or.inr rfl)(c:G.is i=false:=by rfl)(hn:me≠.P:=by decide)(ok:qL js=true:=by rfl)(n8:X.env.scope=nN:=by rfl)(L7:X.N=NX:=by rfl)(hS:vV nN NX scope N js=true:=by decide+kernel)(hw:acB (.ListComp elt [⟨tg,iter,vK,0⟩] scope n9) (some (.Name x qs)) pos.line X.env=pure true:=by rfl)(hf:X.fn x=true\/X.env.scope.names.lookup x=some .local:=by first|exact .inl rfl|exact .inr rfl|assumption)(hs:∀x,aah iter X.env x=pure x:=by intro _;rfl):DS X G m (.Assign [.Name x qs] (.ListComp elt [⟨tg,iter,vK,0⟩] scope n9) pos) (bK i (eX gi js sg gt ge)):=⟨(G1 nN NX N js hN hx hl hc hi.un (λY=>⟨(zc Y).1.un,(zc Y).2.1.un,(zc Y).2.2.un⟩) n8 L7 hS hw hf hs).to λ_ _ _=>zI (b1:=b1) c (by decide) λ_ _ _=>zM ok hn⟩
end
end L2
namespace L2
noncomputable def bg (n:Nat)(us:List U):Ev:=us.map some++YZ (n-us.length) none
noncomputable def fB (m:Md)(n:Nat)(s:Ev->SR):List U->R U:=λus=>match s (bg n us) with
 | .rt u _=>.ok u
 | .nx _=>if m=.S then .ok .non else .stk
 | .exc c u=>.exc c u
 |_=>.stk
noncomputable def kQ (n:Nat)(s:Ev->SR):List U->R (U×U):=λus=>match s (bg n us) with
 | .rt u ρ=>match ρ[0]? with
  |some (some w)=>.ok (u,w)
  |_=>.stk
 | .nx ρ=>match ρ[0]? with
  |some (some w)=>.ok (.non,w)
  |_=>.stk
 | .exc c u=>.exc c u
 |_=>.stk
theorem pN (h:(bg n us)[i]? = some (some u)):us[i]? = some u:=by
 unfold bg at h;by_cases c:i<(us.map some).length
 ·rw[ZJ c,YL] at h;cases e:us[i]? with
  |none=>rw[e] at h;cases h
  |some w=>rw[e] at h;simp at h;rw[h]
 ·rw[Zs (by lia),List.getElem?_replicate] at h;split at h
  ·cases h
  ·cases h
def nv {N:List Str}(h:vs[i]? = some v):(abO N vs)[i]? = some (some v):=by
 unfold abO;have c:i<(vs.map some).length:=by rw[X8];exact (Yr.mp h).1
 rw[ZJ c,YL,h];rfl
def Dy {N:List Str}(h:us.length=vs.length):(bg N.length us).length=(abO N vs).length:=by
 unfold bg abO;rw[Yc,Yc,X8,X8,ack,ack,h]
section
variable {base:aaX}
theorem x8 {N:List Str}(G:Gm)(m:Md)(s:Ev->SR)(Ka:G.io=false)(tE:∀i,i<ps.length->G.is i=false)(j2:∀(f:YG) (dH:Yj) (A:Zk) (outer:List Env) (s0:Yv) (H:Hp) (E:XK),gF k (A.deeper (acV x (ar st) s0.heap.objs.size f dH))->
   Ft (sT zw P w K mg base N x (ar st) f dH A outer s0 H E).nox G m (dE st) s) :
  (∀vs H Q E,jf K ps.length (fB m N.length s) m vs H Q E->vs.length=ps.length)/\∀(f:YG) (dH:Yj) (A:Zk) (outer:List Env) (s0:Yv) (H:Hp) (vs:List V) (Q:VK) (E:XK),gF k (A.deeper (acV x (ar st) s0.heap.objs.size f dH))->jf K ps.length (fB m N.length s) m vs H Q E->
   ∃t,wN (sT zw P w K mg base N x (ar st) f dH A outer s0 H E).nox (dE st) t/\t {nx:=λ_ H'=>Q .non H',rt:=Q} (abO N vs) H:=by
 have hl:∀(us:List U) (A:YG->Prop) (H:Hp) (Q:VK),Rh K m A H (B8 ps.length (fB m N.length s) us) Q->us.length=ps.length:=λus A H Q h=>by
  unfold B8 at h;split at h
  ·assumption
  ·exact h.elim
 refine⟨λvs H Q E ⟨us,A,r,_,h⟩=>by rw[←r.length];exact hl us A H Q h,λf dH A outer s0 H vs Q E hr ⟨us,A0,r,mu,h⟩=>⟨_,(j2 f dH A outer s0 H E hr).un,?_⟩⟩;have l:=hl us A0 H Q h;unfold B8 at h;rw[hV l] at h;refine⟨⟨A0,H,0⟩,A0,bg N.length us,?_,?_⟩
 ·exact {
   slot:=λi u hu=>by
    have hu:=pN hu;obtain⟨v,h1,h2⟩:=r.get hu;refine⟨v,nv h1,?_⟩;rw[hU (by rw[tE i (by rw[←l];exact (Yr.mp hu).1)];exact Yd)];exact h2
   dis:=λi j u w a ci cj ne hi hj si sj=>by
    rw[tE i (by rw[←l];exact (Yr.mp (pN hi)).1)] at ci;cases ci
   mu:=mu
   sup:=λa h=>h
   out:=λa h=>.inl h
   bas:=λa o h=>h
   io0:=λh=>by rw[Ka] at h;cases h
   len:=Dy r.length}
 ·unfold fB at h;cases e:s (bg N.length us) with
  |nx ρ'=>
   rw[e] at h;dsimp only at h;intro A' σ' H' q;split at h
   ·rename_i hm;subst hm;exact h _ H' q.bas (show Rp K H' A0 .non .non from ur)
   ·exact h.elim
  |rt u ρ'=>
   rw[e] at h;intro A' σ' H' v q vm;refine h v H' q.bas ?_;cases m with
   |S=>exact vm
   |P=>exact vm.elim
   |O=>
    obtain⟨a,e1,e2,e3,e4⟩:=vm;exact⟨a,e1,e2,e4⟩
  |bk=>rw[e] at h;exact h.elim
  |ct=>rw[e] at h;exact h.elim
  |exc=>rw[e] at h;exact h.elim
  |stk=>rw[e] at h;exact h.elim
def Df.fnD {N:List Str}(G:Gm)(m:Md)(s:Ev->SR)(d:Df K mg x st)(S:a9 N ps (ar st))(hb:∀(kV qv pm:Yj) (an:Option YG) (dH ct:Yj) (us:List Yj),us.length=ps.length->bindArgs (aaf x x (gG st) (dE st) (ar st) .none kV qv pm an dH ct) ⟨us,[]⟩=pure (ps.zip us))(Ka:G.io=false)(tE:∀i,i<ps.length->G.is i=false)(j2:∀(f:YG) (dH:Yj) (A:Zk) (outer:List Env) (s0:Yv) (H:Hp) (E:XK),gF k (A.deeper (acV x (ar st) s0.heap.objs.size f dH))->
   Ft (sT zw P w K mg base N x (ar st) f dH A outer s0 H E).nox G m (dE st) s):Fn P w K mg base x (k+1) ps (jf K ps.length (fB m N.length s) m):=
 d.fn S hb (x8 G m s Ka tE j2).1 (x8 G m s Ka tE j2).2
theorem J5.okD {N:List Str}(G:Gm)(m:Md)(s:Ev->SR)(F:J5 K x x st f fd)(S:a9 N ps (ar st))(Ka:G.io=false)(tE:∀i,i<ps.length->G.is i=false)(j2:∀(f:YG) (dH:Yj) (A:Zk) (outer:List Env) (s0:Yv) (H:Hp) (E:XK),gF k (A.deeper (acV x (ar st) s0.heap.objs.size f dH))->
   Ft (sT zw P w K mg base N x (ar st) f dH A outer s0 H E).nox G m (dE st) s):nQ P w K mg base zw (k+1) f fd ps (jf K ps.length (fB m N.length s) m):=
 F.ok S (x8 G m s Ka tE j2).1 ((x8 G m s Ka tE j2).2 f)
def zN (K:Ye):Sp:=λvs H Q _=>∃(a:YG) (ns:List Int),vs=[.ref a]/\KO K H a (ns.map V.int)/\ns.length<=63/\∀H',Q (.bl true) H'
theorem OJ (hO:KJ H)(h:fX K H a xs):KO K H a xs:=by
 rcases h with (h|h)|h
 ·rcases hO a with z|⟨o,ys,z⟩
  ·rw[h] at z;cases z
  ·rw[h] at z;cases z
 ·exact .inl h
 ·exact .inr h
theorem zO {H:Hp}{A:YG->Prop}:∀(ns:List Int),bf K H A (ns.map .int) (ns.map V.int)
 | []=>bf.nil
 |n::ns=>bf.cons eC (zO ns)
theorem OL {f:List U->R U}{fa:YG}(F:nQ P w K mg base zw k fa fd ["script"] (jf K 1 f .S))(h:∀ns:List Int,ns.length<=63->f [.scr (ns.map .int)]=.ok (.bl true)):nQ P w K mg base zw k fa fd ["script"] (zN K):=by
 refine F.imp λvs H Q E ⟨a,ns,e,sc,l,q⟩=>?_;subst e;have hl:(ns.map U.int).length<=Yf:=by rw[X8];have:Yf=16777216:=rfl;lia
 refine⟨[.scr (ns.map .int)],λ_=>False,bf.cons ?_ bf.nil,λ_ h=>h.elim,?_⟩
 ·unfold Rp;exact⟨a,_,rfl,sc,hl,zO ns⟩
 ·have e:B8 1 f [.scr (ns.map .int)]=.ok (.bl true):=(hV rfl).trans (h ns l);rw[e];intro v H' sm vm;have vm:Rp K H' (λ_=>False) (.bl true) v:=vm;unfold Rp at vm;subst vm;exact q H'
theorem Df.fnI {N:List Str}(G:Gm)(s:Ev->SR)(d:Df K mg x st)(S:a9 N ps (ar st))(hb:∀(kV qv pm:Yj) (an:Option YG) (dH ct:Yj) (us:List Yj),us.length=ps.length->bindArgs (aaf x x (gG st) (dE st) (ar st) .none kV qv pm an dH ct) ⟨us,[]⟩=pure (ps.zip us))(Ka:G.io=true)(h0:G.is 0=true)(tE:∀i,i<ps.length->i≠0->G.is i=false)(j2:∀(f:YG) (dH:Yj) (A:Zk) (outer:List Env) (s0:Yv) (H:Hp) (E:XK),gF k (A.deeper (acV x (ar st) s0.heap.objs.size f dH))->
   Ft (sT zw P w K mg base N x (ar st) f dH A outer s0 H E).nox G .S (dE st) s):Fn P w K mg base x (k+1) ps (pH K ps.length (kQ N.length s)):=by
 refine d.fn S hb ?_ ?_
 ·rintro vs H Q E ⟨u0,us,a0,vs',A,rfl,_,_,r,_,h⟩;unfold B8 at h;split at h
  ·rename_i e;split at e
   ·rename_i l;rw[X_,←r.length,←l];rfl
   ·cases e
  ·exact h.elim
 ·rintro f dH A outer s0 H vs Q E hr ⟨u0,us,a0,vs',A0,rfl,ha,t0,r,mu,h⟩;refine⟨_,(j2 f dH A outer s0 H E hr).un,?_⟩;have l:(u0::us).length=ps.length:=by
   unfold B8 at h;by_cases c:(u0::us).length=ps.length
   ·exact c
   ·rw[hU c] at h;exact h.elim
  unfold B8 at h;rw[hV l] at h
  let Z:Pkg:=⟨A0,λb=>if b=a0 then none else H b,a0⟩
  have zb:∀b o,b≠a0->H b=some o->Z.B b=some o:=λb o nb z=>by
   show (if b=a0 then none else H b)=some o;rw[hU nb];exact z
  have rel:ef K G Z A0 (bg N.length (u0::us)) (abO N (.ref a0::vs')) H:={
   slot:=λi u hu=>by
    have hu:=pN hu;cases i with
    |zero=>
     simp at hu;subst hu;refine⟨.ref a0,nv (by simp),?_⟩;rw[hV h0];exact⟨a0,rfl,ha,by show (if a0=a0 then none else H a0)=none;rw[hV rfl],.inr ⟨Ka,rfl⟩,t0⟩
    |succ i=>
     have hl:=(Yr.mp hu).1;rw[ZE] at hu;obtain⟨v,h1,h2⟩:=r.get hu;refine⟨v,nv (by rw[ZE];exact h1),?_⟩;rw[hU (by rw[tE (i+1) (by rw[←l];exact hl) (by lia)];exact Yd)];exact h2
   dis:=λi j u w a ci cj ne hi hj si sj=>by
    have hi:=(Yr.mp (pN hi)).1;have hj:=(Yr.mp (pN hj)).1;by_cases e:i=0
    ·rw[tE j (by rw[←l];exact hj) (by lia)] at cj;cases cj
    ·rw[tE i (by rw[←l];exact hi) e] at ci;cases ci
   mu:=mu
   sup:=λa h=>h
   out:=λa h=>.inl h
   bas:=λa o h=>by
    by_cases c:a=a0
    ·have h:(if a=a0 then none else H a)=some o:=h;rw[hV c] at h;cases h
    ·have h:(if a=a0 then none else H a)=some o:=h;rw[hU c] at h;exact h
   io0:=λ_=>⟨nv (vs:=.ref a0::vs') (i:=0) (v:=.ref a0) rfl,h0⟩
   len:=Dy (by rw[X_,X_,r.length])}
  have fin:∀(A':YG->Prop) (ρ':Ev) (σ':St) (H':Hp) (w:U),ef K G Z A' ρ' σ' H'->ρ'[0]? = some (some w)->(∀b o,b≠a0->H b=some o->H' b=some o)/\nU K H' A0 w a0:=λA' ρ' σ' H' w q hw=>by
   obtain⟨a,e1,e2,e3,e4,e5⟩:=q.own h0 hw;rw[(q.io0 Ka).1] at e1;cases e1;exact⟨λb o nb z=>q.bas b o (zb b o nb z),e5.mono q.sup⟩
  refine⟨Z,A0,_,rel,?_⟩;unfold kQ at h;cases e:s (bg N.length (u0::us)) with
  |nx ρ'=>
   rw[e] at h;dsimp only at h;intro A' σ' H' q;split at h
   ·rename_i hm;split at hm
    ·rename_i w hw;cases hm;obtain⟨z1,z2⟩:=fin A' ρ' σ' H' _ q hw;exact h _ H' z1 z2 ur
    ·cases hm
   ·exact h.elim
  |rt u ρ'=>
   rw[e] at h;dsimp only at h;intro A' σ' H' v q vm;split at h
   ·rename_i hm;split at hm
    ·rename_i w hw;cases hm;obtain⟨z1,z2⟩:=fin A' ρ' σ' H' _ q hw;exact h _ H' z1 z2 vm
    ·cases hm
   ·exact h.elim
  |bk=>rw[e] at h;exact h.elim
  |ct=>rw[e] at h;exact h.elim
  |exc=>rw[e] at h;exact h.elim
  |stk=>rw[e] at h;exact h.elim
end
section
variable {G:Gm}{e e2:aaE}{p1:Pos}{y:Str}{b1 b2:Bool}{m m1 m2:Md}{g1 g2:Ev->R (U×Ev)}
noncomputable def Dz (i:Nat)(gv gk:Ev->R (U×Ev)):Ev->SR:=λρ=>SR.of (gv ρ) λx=>if live x.2 i=true then SR.of (gk x.2) λy=>match y.1 with
 | .int k=>match y.2[i]? with
  |some (some (.lst us))=>match Gn us.length k with
   |some j=>.nx (y.2.set i (some (.lst (us.set j x.1))))
   |none=>.stk
  |_=>.stk
 |_=>.stk
 else .stk
theorem DB (he:DE X G e b1 m1 g1)(hk:DE X G e2 b2 m2 g2)(hn:m1≠.P:=by decide)(hN:X.N[i]? = some y:=by rfl)(hv:GA X.env.scope y:=by first|exact Or.inl rfl|exact Or.inr (Or.inl rfl)|exact Or.inr (Or.inr rfl))(c:G.is i=true:=by rfl)(hd:(y==("__debug__":Str))=false:=by decide)(tw:(y==("__classdict__":Str))=false:=by decide)(ha:∀v,assign (.Subscript (.Name y p1) e2 p2) X.env v=(do
   let ov ←holding [v] (abN (.Name y p1) X.env)
   let iv ←holding [v,ov] (abN e2 X.env)
   standAt p2
   holding [v,ov,iv] (setItem ov iv v)
   release [v,ov,iv] []):=by intro _;rfl)(hs:swapsWithSole [.Subscript (.Name y p1) e2 p2] e pos.line X.env=pure false:=by rfl)(hw:swappedStores [.Subscript (.Name y p1) e2 p2] e X.env=pure none:=by rfl)(h1:(aa6 [.Subscript (.Name y p1) e2 p2] X.env).map (·.2)=[assign (.Subscript (.Name y p1) e2 p2) X.env]:=by rfl):DS X G m (.Assign [.Subscript (.Name y p1) e2 p2] e pos) (Dz i g1 g2):=⟨(N9 he.un (N8 (mH hN hv hd tw) hk.un GU ha) hs hw h1).to λD σ H h00=>by
 obtain⟨Z,A,ρ,q,f⟩:=h00;obtain⟨⟨u,ρ1⟩,e1,f⟩:=f.of;refine⟨Z,A,ρ,q,?_⟩;rw[e1];intro v H1 q1 x1 s1 vm;dsimp only at f;split at f
 ·rename_i hl;obtain⟨u00,hu0⟩:=xX hl;obtain⟨a0,h0,_⟩:=q1.own c hu0;obtain⟨⟨k,ρ2⟩,e2,f⟩:=f.of;refine⟨.ref a0,h0,Z,A,ρ1,q1,?_⟩;rw[e2];intro v2 H2 q2 x2 s2 vR;dsimp only at f;cases k with
  |int kk=>
   dsimp only at f;split at f
   ·rename_i us hu;split at f
    ·rename_i j hj;obtain⟨a0',k1,k2,_,_,k5⟩:=q2.own c hu;rw[h0] at k1;cases k1;obtain⟨xs,t1,t2,t3⟩:=k5;refine⟨a0,xs,kk,j,rfl,vR.pk.int,t1,by rw[←t3.length];exact hj,?_⟩;have em:∀b o,b≠a0->H2 b=some o->eY H2 a0 (.lst (xs.set j v)) b=some o:=λb o nb z=>by rw[bY nb];exact z
     have ex:fY A H2 (eY H2 a0 (.lst (xs.set j v))):=λb o nb z=>em b o (λy=>nb (y▸k2)) z;refine f A σ _ (q2.put c hu h0 em ⟨xs.set j v,dg,by rw[aab];exact t2,?_⟩);exact (t3.re q2.mu ex λb z=>.inl z).set j (((vm.rp hn).re q1.mu x2 λb z=>.inl z).re q2.mu ex λb z=>.inl z)
    ·exact f.elim
   ·exact f.elim
  |_=>exact f.elim
 ·exact f.elim⟩
noncomputable def Hm (i:Nat)(p:U->U->R U)(g:Ev->R (U×Ev)):Ev->SR:=λρ=>match ρ[i]? with
 |some (some u)=>SR.of (g ρ) λy=>SR.of (p u y.1) λz=>.nx (y.2.set i (some z))
 |_=>.stk
noncomputable def Rk (f:Int->Int->Int):U->U->R U:=λu w=>match u,w with
 | .int i,.int j=>.ok (.int (f i j))
 |_,_=>.stk
theorem Hn {op:Operator}{f:Int->Int->Int}(ho:TC X op (Vi f))(hN:X.N.Nodup)(he:DE X G e b1 m1 g1)(hi:X.N[i]? = some x:=by rfl)(hx:Gk X.env.scope x:=by first|exact Or.inl rfl|exact Or.inr rfl)(c:G.is i=false:=by rfl)(hf:X.fn x=true\/X.env.scope.names.lookup x=some .local:=by first|exact .inl rfl|exact .inr rfl|assumption):DS X G m (.AugAssign (.Name x p1) op e pos) (Hm i (Rk f) g1):=⟨(N_ hN hi hx he.un ho hf).to λD σ H h00=>by
 obtain⟨Z,A,ρ,q,f⟩:=h00;unfold Hm at f;split at f
 ·rename_i u hu;obtain⟨v,h1,h2⟩:=q.val c hu;obtain⟨⟨w,ρ1⟩,e1,f⟩:=f.of;obtain⟨z,e2,f⟩:=f.of;dsimp only at e2 f;refine⟨v,h1,Z,A,ρ,q,?_⟩;rw[e1];intro v2 H1 q1 x1 s1 vm;unfold Rk at e2;split at e2
  ·cases e2;unfold Rp at h2;subst h2;exact⟨_,_,rfl,vm.pk.int,f A _ H1 (q1.set c eC)⟩
  ·cases e2
 ·exact f.elim⟩
end
end L2
namespace L2
def Ho:R2:=λx y H Q=>∃l b xs zs,x=.ref l/\y=.ref b/\H l=some (.lst xs)/\H b=some (.lst zs)/\xs.length+zs.length<=Yf/\∀p,H p=none->Q (.ref p) (eY H p (.lst (xs++zs)))
theorem K2:jt X (aa3 .Add) Ho:=by
 intro pins s σ H x y v u Q I rx ry h;obtain⟨l,b,xs,zs,rfl,rfl,hH,hB,hz,q⟩:=h;cases rx;cases ry;obtain⟨z,its,n,r,hl,e⟩:=I.lstM hH;obtain⟨z2,its2,n2,r2,JV,e2⟩:=I.lstM hB;refine PySem.P.add_list e e2 ?_ (by rw[Yh,Yh];lia);have ea:its.toArray++its2.toArray=(its++its2).toArray:=by simp
 rw[ea];exact⟨.ref _,_,I.lnew (t':=s.toks) (r.append r2) (by rw[Yc];lia),rfl,q _ I.fresh⟩
noncomputable def bM:U->U->R U:=λu w=>match u,w with
 | .int i,.int j=>.ok (.int (i+j))
 | .tup a,.tup b=>if a.length+b.length<=Yf then .ok (.tup (a++b)) else .stk
 | .lst a,.lst b=>if a.length+b.length<=Yf then .ok (.lst (a++b)) else .stk
 |_,_=>.stk
noncomputable def OM:U->U->R U:=λu w=>match u,w with
 | .lst a,.lst b=>if a.length+b.length<=Yf then .ok (.lst (a++b)) else .stk
 |_,_=>.stk
def Mg:R2:=λx y H Q=>(BO λi j=>.int (i+j)) x y H Q\/G6 x y H Q\/Ho x y H Q
def aZ:jt X (aa3 .Add) Mg:=Oe.or (G7.or K2)
theorem K3:eQ K Ho .O OM:=λA H x y u w z Q hx hy mu e q=>by
 unfold OM at e;split at e
 ·split at e
  ·rename_i hl;cases e;unfold Pk at hx hy;obtain⟨a,xs,rfl,h1,l1,r1⟩:=hx;obtain⟨b,ys,rfl,h2,l2,r2⟩:=hy;exact⟨a,b,xs,ys,rfl,rfl,h1,h2,by rw[←r1.length,←r2.length];exact hl,λp hp=>q _ _ (dF hp _) ⟨p,rfl,hp,cM mu (r1.append r2) hp (by rw[Yc];exact hl)⟩⟩
  ·cases e
 ·cases e
theorem a7:eQ K Mg .S bM:=λA H x y u w z Q hx hy mu e q=>by
 unfold bM at e;split at e
 ·cases e;exact .inl ⟨_,_,hx.int,hy.int,q _ H (bh.refl _) (show Rp K H A _ _ from eC)⟩
 ·split at e
  ·rename_i hl;cases e;unfold Pk at hx hy;obtain⟨a,xs,rfl,h1,l1,r1⟩:=hx;obtain⟨b,ys,rfl,h2,l2,r2⟩:=hy;refine .inr (.inl ⟨a,b,xs,ys,rfl,rfl,h1,h2,by rw[←r1.length,←r2.length];exact hl,λr H' sm hr=>q _ H' sm (show Rp K H' A _ _ from ?_)⟩);unfold Rp;exact⟨r,_,rfl,hr,by rw[Yc];exact hl,(r1.append r2).same sm⟩
  ·cases e
 ·refine .inr (.inr (K3 A H x y _ _ z Q hx hy mu (show OM (.lst _) (.lst _)=_ from e) λv H' sm vm=>q v H' sm ?_));obtain⟨a,rfl,na,t⟩:=vm;exact t.rp (λb h=>.inl h) λh=>by have:=mu a h;rw[na] at this;exact this
 ·cases e
noncomputable def pI (c:Int->Int->Bool)(f:Int->Int->Int):U->U->R U:=λu w=>match u,w with
 | .int i,.int j=>if c i j=true then .ok (.int (f i j)) else .stk
 |_,_=>.stk
theorem DC {C:Int->Int->Prop}{c:Int->Int->Bool}{f:Int->Int->Int}(h:∀i j,c i j=true->C i j):eQ K (rI C λi j=>.int (f i j)) .S (pI c f):=λA H x y u w z Q hx hy mu e q=>by
 unfold pI at e;split at e
 ·rename_i i j;split at e
  ·rename_i hc;cases e;exact⟨i,j,hx.int,hy.int,h i j hc,q _ H (bh.refl _) (show Rp K H A _ _ from eC)⟩
  ·cases e
 ·cases e
noncomputable def sV:U->U->R U:=λu w=>match u,w with
 | .int i,.int j=>.ok (.int (i-j))
 |_,_=>.stk
theorem ny:eQ K (BO λi j=>.int (i-j)) .S sV:=λA H x y u w z Q hx hy mu e q=>by
 unfold sV at e;split at e
 ·cases e;exact⟨_,_,hx.int,hy.int,q _ H (bh.refl _) (show Rp K H A _ _ from eC)⟩
 ·cases e
noncomputable def pO (i j:Int):Bool:=(decide (-(2 ^ 64)<i)&&decide (i<2 ^ 64))||(decide (-(2 ^ 64)<j)&&decide (j<2 ^ 64))
noncomputable def og:U->U->R U:=pI pO (·*·)
def kC:eQ K (rI Ks λi j=>.int (i*j)) .S og:=DC λi j h=>by
 unfold pO at h;simp only[abh,Ys,decide_eq_true_eq] at h;exact h
noncomputable def Ca (_ j:Int):Bool:=decide (0<j)&&decide (j<18446744073709551616)
noncomputable def zP:U->U->R U:=pI Ca (· / ·)
def uB:eQ K (rI G2 λi j=>.int (i / j)) .S zP:=DC λi j h=>by
 unfold Ca at h;simp only[Ys,decide_eq_true_eq] at h;exact h
noncomputable def zQ:U->U->R U:=pI (λ_ j=>decide (0<j)) (· % ·)
def nA:eQ K (rI (λ_ j=>0<j) λi j=>.int (i % j)) .S zQ:=DC λi j h=>of_decide_eq_true h
noncomputable def K4 (i j:Int):Bool:=decide (0<=j)&&decide (j<=1000000)&&decide (i.natAbs<2 ^ 64)
noncomputable def K5:U->U->R U:=pI K4 λi j=>i ^ j.toNat
def DD:eQ K (rI QO λi j=>.int (i ^ j.toNat)) .S K5:=DC λi j h=>by
 unfold K4 at h;simp only[Ys,decide_eq_true_eq] at h;exact⟨h.1.1,h.1.2,h.2⟩
noncomputable def Cb:U->R U:=λu=>match u with
 | .int i=>.ok (.int (-i))
 |_=>.stk
theorem x9:OB K (rU λi=>.int (-i)) .S Cb:=λA H x u z Q hx mu e q=>by
 unfold Cb at e;split at e
 ·cases e;exact⟨_,hx.int,q _ H (bh.refl _) (show Rp K H A _ _ from eC)⟩
 ·cases e
noncomputable def pC (f:Int->Int->Bool):U->U->R U:=λu w=>match u,w with
 | .int i,.int j=>.ok (.bl (f i j))
 |_,_=>.stk
theorem DF {f:Int->Int->Bool}:eQ K (BO λi j=>.bl (f i j)) .S (pC f):=λA H x y u w z Q hx hy mu e q=>by
 unfold pC at e;split at e
 ·cases e;exact⟨_,_,hx.int,hy.int,q _ H (bh.refl _) (show Rp K H A _ _ from gJ)⟩
 ·cases e
noncomputable def Gs:U->U->R U:=pC λi j=>decide (i<j)
noncomputable def Gu:U->U->R U:=pC λi j=>decide (i<=j)
noncomputable def J7:U->U->R U:=pC λi j=>decide (j<i)
noncomputable def Ui:U->U->R U:=pC λi j=>decide (j<=i)
mutual
noncomputable def fu:U->Option D
 | .non=>some .non
 | .bl b=>some (.bl b)
 | .int i=>some (.int i)
 | .str x=>some (.str x)
 | .tup us=>(d9 us).map .tup
 | .lst us=>(d9 us).map .lst
 | .dct _ _=>none
 | .scr _=>none
noncomputable def d9:List U->Option (List D)
 | []=>some []
 |u::us=>(fu u).bind λd=>(d9 us).map λds=>d::ds
end
mutual
theorem Cc {H:Hp}{A:YG->Prop}:∀{u:U} {v:V} {d:D},Rp K H A u v->fu u=some d->bZ K H d v
 | .non,v,d,h,e=>by unfold fu at e;cases e;unfold Rp at h;unfold bZ;exact h
 | .bl b,v,d,h,e=>by unfold fu at e;cases e;unfold Rp at h;unfold bZ;exact h
 | .int b,v,d,h,e=>by unfold fu at e;cases e;unfold Rp at h;unfold bZ;exact h
 | .str b,v,d,h,e=>by unfold fu at e;cases e;unfold Rp at h;unfold bZ;exact h
 | .tup us,v,d,h,e=>by
  unfold fu at e;cases e2:d9 us with
  |none=>rw[e2] at e;cases e
  |some ds=>
   rw[e2] at e;cases e;unfold Rp at h;unfold bZ;obtain⟨a,xs,r,q,l,z⟩:=h;exact⟨a,xs,r,gE.of q,nB z e2⟩
 | .lst us,v,d,h,e=>by
  unfold fu at e;cases e2:d9 us with
  |none=>rw[e2] at e;cases e
  |some ds=>
   rw[e2] at e;cases e;unfold Rp at h;unfold bZ;obtain⟨a,xs,r,_,q,l,z⟩:=h;exact⟨a,xs,r,fX.of q,nB z e2⟩
 | .dct _ _,v,d,h,e=>by unfold fu at e;cases e
 | .scr _,v,d,h,e=>by unfold fu at e;cases e
theorem nB {H:Hp}{A:YG->Prop}:∀{us:List U} {vs:List V} {ds:List D},bf K H A us vs->d9 us=some ds->iz K H ds vs
 | [],vs,ds,h,e=>by unfold d9 at e;cases e;unfold bf at h;unfold iz;exact h
 |u::us,vs,ds,h,e=>by
  unfold d9 at e;cases e1:fu u with
  |none=>rw[e1] at e;cases e
  |some d=>
   cases e2:d9 us with
   |none=>rw[e1,e2] at e;cases e
   |some ds'=>
    rw[e1,e2] at e;cases e;unfold bf at h;unfold iz;obtain⟨x,r,q,p,z⟩:=h;exact⟨x,r,q,Cc p e1,nB z e2⟩
end
theorem x_ {d:D}(h:Pk K H A u v)(e:fu u=some d):bZ K H d v:=by
 cases u with
 |lst us=>
  unfold fu at e;cases e2:d9 us with
  |none=>rw[e2] at e;cases e
  |some ds=>
   rw[e2] at e;cases e;unfold Pk at h;unfold bZ;obtain⟨a,xs,r,q,l,z⟩:=h;exact⟨a,xs,r,fX.of q,nB z e2⟩
 |dct=>unfold fu at e;cases e
 |scr=>unfold fu at e;cases e
 |tup us=>exact Cc (A:=A) (by unfold Pk at h;unfold Rp;exact h) e
 |_=>exact Cc (A:=A) (by unfold Pk at h;unfold Rp;exact h) e
noncomputable def kR (u w:U):R Bool:=match fu u,fu w with
 |some d,some d'=>if cT d<=30 then .ok (iP d d') else .stk
 |_,_=>.stk
noncomputable def lB (f:Bool->Bool):U->U->R U:=λu w=>(kR u w).bind λb=>.ok (.bl (f b))
theorem bR {f:Bool->Bool}:eQ K (Q9 K f) .S (lB f):=λA H x y u w z Q hx hy mu e q=>by
 unfold lB kR at e;obtain⟨b,e1,e2⟩:=R.bind_ok e;split at e1
 ·rename_i d d' h1 h2;split at e1
  ·rename_i hd;cases e1;cases e2;exact⟨d,d',x_ hx h1,x_ hy h2,hd,q _ H (bh.refl _) (show Rp K H A _ _ from gJ)⟩
  ·cases e1
 ·cases e1
noncomputable def w9:U->Bool
 | .non=>true
 |_=>false
theorem zS (h:Pk K H A u v):decide (v=.non)=w9 u:=by
 cases u<;>unfold Pk at h
 case non=>subst h;rfl
 case tup=>obtain⟨a,xs,rfl,_⟩:=h;rfl
 case lst=>obtain⟨a,xs,rfl,_⟩:=h;rfl
 case dct=>obtain⟨a,xs,rfl,_⟩:=h;rfl
 case scr=>obtain⟨a,xs,rfl,_⟩:=h;rfl
 all_goals (subst h;rfl)
noncomputable def zT (f:Bool->Bool):U->U->R U:=λu w=>match w with
 | .non=>.ok (.bl (f (w9 u)))
 |_=>.stk
theorem K6:eQ K (λx y H Q=>y=.non/\Q (.bl (decide (x=.non))) H) .S (zT id):=λA H x y u w z Q hx hy mu e q=>by
 unfold zT at e;split at e
 ·cases e;refine⟨by unfold Pk at hy;exact hy,q _ H (bh.refl _) ?_⟩;rw[zS hx];exact (show Rp K H A _ _ from gJ)
 ·cases e
theorem zU:eQ K (λx y H Q=>y=.non/\Q (.bl (!decide (x=.non))) H) .S (zT not):=λA H x y u w z Q hx hy mu e q=>by
 unfold zT at e;split at e
 ·cases e;refine⟨by unfold Pk at hy;exact hy,q _ H (bh.refl _) ?_⟩;rw[zS hx];exact (show Rp K H A _ _ from gJ)
 ·cases e
noncomputable def Uj (f:Bool->Bool):U->U->R U:=λu w=>match u,w with
 | .bl a,.bl b=>.ok (.bl (f (decide (a=b))))
 |_,_=>.stk
theorem Cd {i:Int}{z:U}(r:bf K H A us xs)(e:lM us i=some z):∃v,lM xs i=some v/\Rp K H A z v:=by
 unfold lM at e ⊢;rw[←r.length];cases h:Gn us.length i with
 |none=>rw[h] at e;cases e
 |some j=>
  rw[h] at e;obtain⟨v,h1,h2⟩:=r.get (show us[j]? = some z from e);exact⟨v,h1,h2⟩
noncomputable def cO:U->U->R U:=λu w=>match u,w with
 | .lst us,.int i=>match lM us i with
  |some z=>.ok z
  |none=>.stk
 | .tup us,.int i=>match lM us i with
  |some z=>.ok z
  |none=>.stk
 | .scr us,.int i=>match lM us i with
  |some z=>.ok z
  |none=>.stk
 | .str x,.int i=>match lM x.cps.toList i with
  |some c=>if x.length<=Yf then .ok (.str ⟨#[c]⟩) else .stk
  |none=>.stk
 |_,_=>.stk
noncomputable abbrev zqb (i:Nat)(n:Int):Ev->R (U×Ev):=aK cO (ai i) (zqc n)
theorem aD:eQ K (Vn K) .S cO:=λA H x y u w z Q hx hy mu e q=>by
 unfold cO at e;split at e
 ·split at e
  ·rename_i z' hz;cases e;unfold Pk at hx;obtain⟨a,xs,rfl,h1,l1,r1⟩:=hx;obtain⟨v,h2,h3⟩:=Cd r1 hz;exact .inl ⟨a,xs,_,v,rfl,hy.int,fX.of h1,h2,q _ H (bh.refl _) h3⟩
  ·cases e
 ·split at e
  ·rename_i z' hz;cases e;unfold Pk at hx;obtain⟨a,xs,rfl,h1,l1,r1⟩:=hx;obtain⟨v,h2,h3⟩:=Cd r1 hz;exact .inr (.inl ⟨a,xs,_,v,rfl,hy.int,gE.of h1,h2,q _ H (bh.refl _) h3⟩)
  ·cases e
 ·split at e
  ·rename_i z' hz;cases e;unfold Pk at hx;obtain⟨a,xs,rfl,h1,l1,r1⟩:=hx;obtain⟨v,h2,h3⟩:=Cd r1 hz;exact .inl ⟨a,xs,_,v,rfl,hy.int,h1.sq,h2,q _ H (bh.refl _) h3⟩
  ·cases e
 ·split at e
  ·rename_i z' hz;split at e
   ·rename_i hl;cases e;exact .inr (.inr ⟨_,_,z',hx.str,hy.int,hl,hz,q _ H (bh.refl _) (show Rp K H A _ _ from OA)⟩)
   ·cases e
  ·cases e
 ·cases e
def zqa {X G x pos k j p q}(i:Nat)(hN:X.N[i]? = some x:=by rfl)(hv:GA X.env.scope x:=by first|exact Or.inl rfl|exact Or.inr (Or.inl rfl)|exact Or.inr (Or.inr rfl))(hd:(x==("__debug__":Str))=false:=by decide)(tw:(x==("__classdict__":Str))=false:=by decide) (c:G.is i=false:=by rfl):DE X G (.Subscript (.Name x pos) (.Constant (.int k) j p) q) false .S (zqb i k):=aI aB aD (ao i hN hv hd tw c) ah λ_ _=>rfl
noncomputable def ju {α:Type}(xs:List α)(lo hi:Option Int):List α:=(xs.drop (HT.sIx xs.length 0 lo)).take (HT.sIx xs.length xs.length hi-HT.sIx xs.length 0 lo)
theorem kD {α:Type}(xs:List α)(lo hi:Option Int):(ju xs lo hi).length<=xs.length:=by
 unfold ju;rw[Yy,YO];lia
def ya (r:bf K H A us xs)(lo hi:Option Int):bf K H A (ju us lo hi) (uh xs lo hi):=by
 unfold ju uh;rw[←r.length];exact (r.drop _).take _
def cn:GQ X (λx lo hi H Q=>KG X.K x lo hi H Q\/G5 X.K x lo hi H Q):=KI.or KN
noncomputable def lQ:U->Option Int->Option Int->R U:=λu lo hi=>match u with
 | .lst us=>.ok (.lst (ju us lo hi))
 | .scr us=>.ok (.lst (ju us lo hi))
 | .tup us=>.ok (.tup (ju us lo hi))
 |_=>.stk
noncomputable def Rl:U->Option Int->Option Int->R U:=λu lo hi=>match u with
 | .lst us=>.ok (.lst (ju us lo hi))
 | .scr us=>.ok (.lst (ju us lo hi))
 |_=>.stk
theorem DH:Hh K (KG K) .O Rl:=λA H x u lo hi z Q hx mu e q=>by
 unfold Rl at e;split at e
 ·cases e;unfold Pk at hx;obtain⟨a,xs,rfl,h1,l1,r1⟩:=hx;exact⟨a,xs,rfl,fX.of h1,λp hp=>q _ _ (dF hp _) ⟨p,rfl,hp,cM mu (ya r1 lo hi) hp (Zj (kD _ _ _) l1)⟩⟩
 ·cases e;unfold Pk at hx;obtain⟨a,xs,rfl,h1,l1,r1⟩:=hx;exact⟨a,xs,rfl,h1.sq,λp hp=>q _ _ (dF hp _) ⟨p,rfl,hp,cM mu (ya r1 lo hi) hp (Zj (kD _ _ _) l1)⟩⟩
 ·cases e
theorem Mh (mu:∀a,A a->Mu (H a))(vm:Gp K .O A H H' u v):Rp K H' A u v:=by
 obtain⟨a,rfl,na,t⟩:=vm;exact t.rp (λb h=>.inl h) λh=>by have:=mu a h;rw[na] at this;exact this
theorem dU:Hh K (λx lo hi H Q=>KG K x lo hi H Q\/G5 K x lo hi H Q) .S lQ:=λA H x u lo hi z Q hx mu e q=>by
 unfold lQ at e;split at e
 ·cases e;exact .inl (DH A H x _ lo hi _ Q hx mu rfl λv H' sm vm=>q v H' sm (Mh mu vm))
 ·cases e;exact .inl (DH A H x _ lo hi _ Q hx mu rfl λv H' sm vm=>q v H' sm (Mh mu vm))
 ·cases e;unfold Pk at hx;obtain⟨a,xs,rfl,h1,l1,r1⟩:=hx;refine .inr ⟨a,xs,rfl,h1,λr H' sm hr=>q _ H' sm (show Rp K H' A _ _ from ?_)⟩;unfold Rp;exact⟨r,_,rfl,hr,Zj (kD _ _ _) l1,(ya r1 lo hi).same sm⟩
 ·cases e
end L2
namespace L2
section
theorem B6.one (h:B6 K H A [u] vs):∃v,vs=[v]/\Pk K H A u v:=by
 unfold B6 at h;obtain⟨x,r,rfl,p,q⟩:=h;unfold B6 at q;subst q;exact⟨x,rfl,p⟩
theorem B6.two {w:U}(h:B6 K H A [u,w] vs):∃v v',vs=[v,v']/\Pk K H A u v/\Pk K H A w v':=by
 unfold B6 at h;obtain⟨x,r,rfl,p,q⟩:=h;obtain⟨v,rfl,q'⟩:=B6.one q;exact⟨x,v,rfl,p,q'⟩
noncomputable def dI:List U->R U:=λus=>match us with
 | [.lst xs]=>.ok (.int xs.length)
 | [.tup xs]=>.ok (.int xs.length)
 | [.scr xs]=>.ok (.int xs.length)
 | [.str x]=>if x.length<=Yf then .ok (.int x.length) else .stk
 |_=>.stk
theorem bp:nV K (λxs H Q=>∃x n,xs=[x]/\QR K x H n/\Q (.int n) H) .S dI:=λA H vs us z Q h mu e q=>by
 unfold dI at e;split at e
 ·rename_i xs;cases e;obtain⟨v,rfl,p⟩:=h.one;unfold Pk at p;obtain⟨a,ys,rfl,h1,l1,r1⟩:=p;exact⟨_,xs.length,rfl,.inl ⟨ys,fX.of h1,r1.length⟩,q _ H (bh.refl _) (show Rp K H A _ _ from eC)⟩
 ·rename_i xs;cases e;obtain⟨v,rfl,p⟩:=h.one;unfold Pk at p;obtain⟨a,ys,rfl,h1,l1,r1⟩:=p;exact⟨_,xs.length,rfl,.inr ⟨ys,gE.of h1,r1.length⟩,q _ H (bh.refl _) (show Rp K H A _ _ from eC)⟩
 ·rename_i xs;cases e;obtain⟨v,rfl,p⟩:=h.one;unfold Pk at p;obtain⟨a,ys,rfl,h1,l1,r1⟩:=p;exact⟨_,xs.length,rfl,.inl ⟨ys,h1.sq,r1.length⟩,q _ H (bh.refl _) (show Rp K H A _ _ from eC)⟩
 ·rename_i x;split at e
  ·rename_i hl;cases e;obtain⟨v,rfl,p⟩:=h.one;have:=p.str;subst this;exact⟨_,x.length,rfl,⟨hl,rfl⟩,q _ H (bh.refl _) (show Rp K H A _ _ from eC)⟩
  ·cases e
 ·cases e
noncomputable def w_:List U->R U:=λus=>match us with
 | [.lst xs]=>.ok (.lst xs)
 | [.tup xs]=>.ok (.lst xs)
 |_=>.stk
theorem zV:nV K (λxs H Q=>∃p ys,xs=[.ref p]/\(fX K H p ys\/gE K H p ys)/\∀l,H l=none->Q (.ref l) (eY H l (.lst ys))) .O w_:=λA H vs us z Q h mu e q=>by
 unfold w_ at e;split at e
 ·rename_i xs;cases e;obtain⟨v,rfl,p⟩:=h.one;unfold Pk at p;obtain⟨a,ys,rfl,h1,l1,r1⟩:=p;exact⟨a,ys,rfl,.inl (fX.of h1),λl hl=>q _ _ (dF hl _) ⟨l,rfl,hl,cM mu r1 hl l1⟩⟩
 ·rename_i xs;cases e;obtain⟨v,rfl,p⟩:=h.one;unfold Pk at p;obtain⟨a,ys,rfl,h1,l1,r1⟩:=p;exact⟨a,ys,rfl,.inr (gE.of h1),λl hl=>q _ _ (dF hl _) ⟨l,rfl,hl,cM mu r1 hl l1⟩⟩
 ·cases e
noncomputable def fO:List U->R U:=λus=>match us with
 | [.lst xs]=>.ok (.tup xs)
 | [.tup xs]=>.ok (.tup xs)
 |_=>.stk
theorem d6:nV K (λxs H Q=>∃p ys,xs=[.ref p]/\((fX K H p ys/\∀l,H l=none->Q (.ref l) (eY H l (.tup ys)))\/(gE K H p ys/\Q (.ref p) H))) .S fO:=λA H vs us z Q h mu e q=>by
 unfold fO at e;split at e
 ·rename_i xs;cases e;obtain⟨v,rfl,p⟩:=h.one;unfold Pk at p;obtain⟨a,ys,rfl,h1,l1,r1⟩:=p;exact⟨a,ys,rfl,.inl ⟨fX.of h1,λl hl=>q _ _ (dF hl _) (qJ r1 hl l1)⟩⟩
 ·rename_i xs;cases e;obtain⟨v,rfl,p⟩:=h.one;have p':=p;unfold Pk at p;obtain⟨a,ys,rfl,h1,l1,r1⟩:=p;refine⟨a,ys,rfl,.inr ⟨gE.of h1,q _ H (bh.refl _) (show Rp K H A _ _ from ?_)⟩⟩;unfold Rp;unfold Pk at p';exact p'
 ·cases e
noncomputable def Wo:List U->R U:=λus=>match us with
 | [.int i]=>.ok (.int (if i<0 then -i else i))
 |_=>.stk
noncomputable def DJ:List U->R U:=λus=>match us with
 | [.int i,.int j]=>.ok (.int (if j>i then j else i))
 |_=>.stk
theorem Hq:nV K (λxs H Q=>∃i j,xs=[.int i,.int j]/\Q (.int (if j>i then j else i)) H) .S DJ:=λA H vs us z Q h mu e q=>by
 unfold DJ at e;split at e
 ·cases e;obtain⟨v,w,rfl,p,p'⟩:=h.two;exact⟨_,_,by rw[p.int,p'.int],q _ H (bh.refl _) (show Rp K H A _ _ from eC)⟩
 ·cases e
noncomputable def zW:List U->R U:=λus=>match us with
 | [.int i,.int j]=>.ok (.int (if j<i then j else i))
 |_=>.stk
theorem zX:nV K (λxs H Q=>∃i j,xs=[.int i,.int j]/\Q (.int (if j<i then j else i)) H) .S zW:=λA H vs us z Q h mu e q=>by
 unfold zW at e;split at e
 ·cases e;obtain⟨v,w,rfl,p,p'⟩:=h.two;exact⟨_,_,by rw[p.int,p'.int],q _ H (bh.refl _) (show Rp K H A _ _ from eC)⟩
 ·cases e
noncomputable def K7:List U->R U:=λus=>match us with
 | [.int i]=>.ok (.int i)
 | [.bl k]=>.ok (.int (if k then 1 else 0))
 |_=>.stk
theorem K8:nV K (λxs H Q=>(∃i,xs=[.int i]/\Q (.int i) H)\/∃k,xs=[.bl k]/\Q (.int (if k then 1 else 0)) H) .S K7:=λA H vs us z Q h mu e q=>by
 unfold K7 at e;split at e
 ·cases e;obtain⟨v,rfl,p⟩:=h.one;exact .inl ⟨_,by rw[p.int],q _ H (bh.refl _) (show Rp K H A _ _ from eC)⟩
 ·cases e;obtain⟨v,rfl,p⟩:=h.one;exact .inr ⟨_,by rw[p.bl],q _ H (bh.refl _) (show Rp K H A _ _ from eC)⟩
 ·cases e
noncomputable def eo:List U->Option (List Int)
 | []=>some []
 | .int i::us=>(eo us).map (i::·)
 |_::_=>none
noncomputable def kS:List U->Option (List Bool)
 | []=>some []
 | .bl i::us=>(kS us).map (i::·)
 |_::_=>none
theorem fM:∀{us:List U} {ns:List Int},eo us=some ns->us=ns.map .int
 | [],ns,h=>by unfold eo at h;cases h;rfl
 |u::us,ns,h=>by
  cases u<;>unfold eo at h<;>try cases h
  rename_i i;cases e:eo us with
  |none=>rw[e] at h;cases h
  |some ms=>rw[e] at h;cases h;rw[fM e];rfl
theorem fE (ns:List Int):eo (ns.map .int)=some ns:=by
 induction ns with
 |nil=>rfl
 |cons n ns ih=>rw[Yp];unfold eo;rw[ih];rfl
theorem zY:∀{us:List U} {ns:List Bool},kS us=some ns->us=ns.map .bl
 | [],ns,h=>by unfold kS at h;cases h;rfl
 |u::us,ns,h=>by
  cases u<;>unfold kS at h<;>try cases h
  rename_i i;cases e:kS us with
  |none=>rw[e] at h;cases h
  |some ms=>rw[e] at h;cases h;rw[zY e];rfl
theorem Fw (ns:List Bool):kS (ns.map .bl)=some ns:=by
 induction ns with
 |nil=>rfl
 |cons n ns ih=>rw[Yp];unfold kS;rw[ih];rfl
theorem bf.toI {H:Hp}{A:YG->Prop}:∀{ns:List Int} {vs:List V},bf K H A (ns.map .int) vs->vs=ns.map V.int
 | [],vs,h=>by rw[aaz] at h;unfold bf at h;exact h
 |n::ns,vs,h=>by
  rw[Yp] at h;unfold bf at h;obtain⟨x,r,rfl,p,q⟩:=h;unfold Rp at p;rw[p,bf.toI q];rfl
theorem bf.toB {H:Hp}{A:YG->Prop}:∀{ns:List Bool} {vs:List V},bf K H A (ns.map .bl) vs->vs=ns.map V.bl
 | [],vs,h=>by rw[aaz] at h;unfold bf at h;exact h
 |n::ns,vs,h=>by
  rw[Yp] at h;unfold bf at h;obtain⟨x,r,rfl,p,q⟩:=h;unfold Rp at p;rw[p,bf.toB q];rfl
theorem pP {H:Hp}{A:YG->Prop}:∀(ns:List Int),bf K H A (ns.map .int) (ns.map V.int)
 | []=>bf.nil
 |n::ns=>bf.cons eC (pP ns)
noncomputable def mN:List U->R U:=λus=>match us with
 | [.lst xs]=>match kS xs with
  |some bs=>.ok (.bl (bs.all id))
  |none=>.stk
 |_=>.stk
theorem iQ:nV K (λxs H Q=>∃(p:YG) (bs:List Bool),xs=[.ref p]/\fX K H p (bs.map V.bl)/\Q (.bl (bs.all id)) H) .S mN:=λA H vs us z Q h mu e q=>by
 unfold mN at e;split at e
 ·rename_i xs;split at e
  ·rename_i bs hb;cases e;obtain⟨v,rfl,p⟩:=h.one;unfold Pk at p;obtain⟨a,ys,rfl,h1,l1,r1⟩:=p;rw[zY hb] at r1;rw[r1.toB] at h1;exact⟨a,bs,rfl,fX.of h1,q _ H (bh.refl _) (show Rp K H A _ _ from gJ)⟩
  ·cases e
 ·cases e
noncomputable def mO (ns:List Int):List Int:=ns.mergeSort λa b=>decide (a<=b)
def jL (ns:List Int):(mO ns).Perm ns:=List.mergeSort_perm _ _
theorem zZ (ns:List Int):(mO ns).Pairwise (·<=·):=by
 have:=List.pairwise_mergeSort (le:=λa b:Int=>decide (a<=b)) (λa b c h1 h2=>by simp only[decide_eq_true_eq] at *;lia) (λa b=>by simp only[abh,decide_eq_true_eq];lia) ns;exact this.imp λh=>by simpa using h
noncomputable def uC:List U->R U:=λus=>match us with
 | [.lst xs]=>match eo xs with
  |some ns=>if ns.length<64 then .ok (.lst ((mO ns).map .int)) else .stk
  |none=>.stk
 | [.tup xs]=>match eo xs with
  |some ns=>if ns.length<64 then .ok (.lst ((mO ns).map .int)) else .stk
  |none=>.stk
 |_=>.stk
theorem Fx:nV K (λxs H Q=>∃(p:YG) (ns:List Int),xs=[.ref p]/\(fX K H p (ns.map V.int)\/gE K H p (ns.map V.int))/\ns.length<64/\
  ∀(l:YG) (pq:List Int),H l=none->pq.Perm ns->pq.Pairwise (·<=·)->Q (.ref l) (eY H l (.lst (pq.map V.int)))) .O uC:=λA H vs us z Q h mu e q=>by
 have fin:∀(ns:List Int),ns.length<64->z=.lst ((mO ns).map .int)->∀(l:YG) (pq:List Int),H l=none->pq.Perm ns->pq.Pairwise (·<=·)->Q (.ref l) (eY H l (.lst (pq.map V.int))):=λns hl hz l pq hn hp hw=>by
  have e:pq=mO ns:=PySem.W.ksm_same (hp.trans (jL ns).symm) hw (zZ ns);subst e hz;refine q _ _ (dF hn _) ⟨l,rfl,hn,cM mu (pP _) hn ?_⟩;have:Yf=16777216:=rfl;rw[X8,(jL ns).length_eq];lia
 unfold uC at e;split at e
 ·rename_i xs;split at e
  ·rename_i ns hb;split at e
   ·rename_i hl;cases e;obtain⟨v,rfl,p⟩:=h.one;unfold Pk at p;obtain⟨a,ys,rfl,h1,l1,r1⟩:=p;rw[fM hb] at r1;rw[r1.toI] at h1;exact⟨a,ns,rfl,.inl (fX.of h1),hl,fin ns hl rfl⟩
   ·cases e
  ·cases e
 ·rename_i xs;split at e
  ·rename_i ns hb;split at e
   ·rename_i hl;cases e;obtain⟨v,rfl,p⟩:=h.one;unfold Pk at p;obtain⟨a,ys,rfl,h1,l1,r1⟩:=p;rw[fM hb] at r1;rw[r1.toI] at h1;exact⟨a,ns,rfl,.inr (gE.of h1),hl,fin ns hl rfl⟩
   ·cases e
  ·cases e
 ·cases e
noncomputable def Uk (ks:List U):String:=match ks with
 | .tup _::_=>"script"
 |_=>"dict"
noncomputable def Qf:U->String
 | .non=>"NoneType"
 | .bl _=>"bool"
 | .int _=>"int"
 | .str _=>"str"
 | .tup _=>"tuple"
 | .lst _=>"list"
 | .dct ks _=>Uk ks
 | .scr _=>"script"
theorem Rm (h:Pk K H A u v)(hs:Qf u≠"script"):BF K H v (Qf u):=by
 cases u<;>unfold Pk at h
 case scr=>exact absurd rfl hs
 case non=>subst h;exact .non
 case bl=>subst h;exact .bl _
 case int=>subst h;exact .int _
 case str=>subst h;exact .str _
 case tup=>obtain⟨a,xs,rfl,h1,_⟩:=h;exact .tup h1
 case lst=>
  obtain⟨a,xs,rfl,h1,_⟩:=h;exact .lst h1
 case dct=>
  obtain⟨a,xs,rfl,h1,_⟩:=h;rcases h1 with⟨k,h1,e,_⟩|⟨k,n,h1,e,_⟩
  ·have:Uk (k.map λp=>kU p.1)="dict":=by
    cases k with
    |nil=>rfl
    |cons p k=>
     obtain⟨p1,p2⟩:=p;cases p1<;>rfl
   show BF K H _ (Uk _);rw[e,this];exact .dK h1
  ·refine absurd e λe=>?_;cases k with
   |nil=>exact n rfl
   |cons p k=>rw[e] at hs;exact hs rfl
variable {G:Gm}{e:aaE}{p1:Pos}{b1:Bool}{m1:Md}{g1:Ev->R (U×Ev)}
noncomputable def fF (T:String)(g:Ev->R (U×Ev)):Ev->R (U×Ev):=λρ=>(g ρ).bind λx=>if Qf x.1="script" then .stk else .ok (.bl (kh (Qf x.1) T),x.2)
theorem di {T:String}(hT:T∈["bool","int","str","list","tuple","dict"])(he:DE X G e b1 m1 g1)(zi:X.mg "isinstance"=none)(zt:X.mg x=none)(bt:Zg x=some (.type T))(hg:Gl X "isinstance":=by rfl)(ht:Gl X x:=by rfl)(hn:x≠"__name__":=by decide)(hd:(x==("__debug__":Str))=false:=by decide)(hs:YC [e,.Name x p2] X.env=(false,abN e X.env)::YC [.Name x p2] X.env:=by rfl)(dG:YC [.Name x p2] X.env=(false,abN (.Name x p2) X.env)::YC [] X.env:=by rfl)(pj:(abe pos (YC [.Name x p2] X.env)).any (·.1)=false:=by rfl) :
  DE X G (.Call (.Name "isinstance" p1) [e,.Name x p2] [] pos) b1 .S (fF T g1):=⟨(pB (zA (m:=T) hT) hg zi vX (kv he.un (kv (Ki (v:=.ty T) ht zt bt rfl hn hd) qC dG) hs) (by decide) (by decide) hs pj).to λσ H Q h=>by
 obtain⟨Z,A,ρ,q,f⟩:=h;obtain⟨⟨u,ρ1⟩,e1,f⟩:=f.bind;refine⟨Z,A,ρ,q,?_⟩;rw[e1];intro v H1 q1 x1 s1 vm;dsimp only at f;split at f
 ·exact f.elim
 ·rename_i hn;exact⟨v,_,rfl,Rm vm.pk hn,f _ H1 q1 x1 s1 (wZ.ofS gJ)⟩⟩
noncomputable def z9 (i j:Int):Bool:=decide (-1000000<=i)&&decide (i<=1000000)&&decide (-1000000<=j)&&decide (j<=1000000)
noncomputable def DK (g:Ev->R (List U×Ev)):Ev->R (U×Ev):=λρ=>(g ρ).bind λx=>match x.1 with
 | [.int j]=>if z9 0 j=true then .ok (.lst (aX 0 (j-0).toNat),x.2) else .stk
 |_=>.stk
noncomputable def Hr (g:Ev->R (List U×Ev)):Ev->R (U×Ev):=λρ=>(g ρ).bind λx=>match x.1 with
 | [.int j]=>if z9 0 j=true then .ok (.tup (aX 0 (j-0).toNat),x.2) else .stk
 |_=>.stk
def xa (lo:Int)(n:Nat):bf K H A (aX lo n) ((YS n).map λi=>V.int (lo+(i:Nat))):=by
 unfold aX;have e1:(YS n).map (λi=>U.int (lo+(i:Nat)))=((YS n).map λi=>lo+(i:Nat)).map U.int:=by rw[Y9];rfl
 have e2:(YS n).map (λi=>V.int (lo+(i:Nat)))=((YS n).map λi=>lo+(i:Nat)).map V.int:=by rw[Y9];rfl
 rw[e1,e2];exact pP _
def bD (lo:Int)(n:Nat):(aX lo n).length=n:=by unfold aX;rw[X8,Zh]
variable {ga:Ev->R (List U×Ev)}{a:aaE}{p3 p4:Pos}
theorem DL (hc:X.calm=true)(ha:DA X G [a] b1 false ga)(zl:X.mg "list"=none)(zr:X.mg "range"=none)(hg:Gl X "list":=by rfl)(P5:Gl X "range":=by rfl)
  (hs:YC [.Call (.Name "range" p3) [a] [] p4] X.env=(false,abN (.Call (.Name "range" p3) [a] [] p4) X.env)::YC [] X.env:=by rfl) (dG:YC [a] X.env=(false,abN a X.env)::YC [] X.env:=by rfl)
  (pj:(abe pos (YC [] X.env)).any (·.1)=false:=by rfl) (Dg:(abe p4 (YC [] X.env)).any (·.1)=false:=by rfl):DE X G (.Call (.Name "list" p1) [.Call (.Name "range" p3) [a] [] p4] [] pos) b1 .O (DK ga):=⟨(iD (vW hc) hg zl xU (kv (iD rK P5 zr zB ha.un (by decide) (by decide) dG Dg) qC hs) (by decide) (by decide) hs pj).to λσ H Q h=>by
 obtain⟨Z,A,ρ,q,f⟩:=h;obtain⟨⟨us,ρ1⟩,e1,f⟩:=f.bind;refine⟨Z,A,ρ,q,?_⟩;rw[e1];intro vs H1 q1 x1 s1 vm;dsimp only at f;split at f
 ·rename_i j;split at f
  ·rename_i hj;have r:=vm.rps;unfold bf at r;obtain⟨v,vr,rfl,r1,r2⟩:=r;unfold bf at r2;subst r2;unfold Rp at r1;subst r1;unfold z9 at hj;simp only[Ys,decide_eq_true_eq] at hj;refine⟨j,rfl,λp hp=>⟨p,0,j,rfl,dg,by lia,by lia,λl hl=>?_⟩⟩;have sp:=dF hp (.rng 0 j);have sl:=dF hl (.lst ((YS (j-0).toNat).map λi=>V.int (0+(i:Nat))));exact f _ _ ((q1.same sp).same sl) (x1.trans (fY.same (sp.trans sl))) (oE s1 (sp.trans sl)) (Gp.e (q1.same sp) sl ⟨l,rfl,hl,cM (q1.same sp).mu (xa 0 _) hl (by rw[bD];have:Yf=16777216:=rfl;lia)⟩)
  ·exact f.elim
 ·exact f.elim⟩
theorem K9 (hc:X.calm=true)(ha:DA X G [a] b1 false ga)(zl:X.mg "tuple"=none)(zr:X.mg "range"=none)(hg:Gl X "tuple":=by rfl)(P5:Gl X "range":=by rfl)
  (hs:YC [.Call (.Name "range" p3) [a] [] p4] X.env=(false,abN (.Call (.Name "range" p3) [a] [] p4) X.env)::YC [] X.env:=by rfl) (dG:YC [a] X.env=(false,abN a X.env)::YC [] X.env:=by rfl)
  (pj:(abe pos (YC [] X.env)).any (·.1)=false:=by rfl) (Dg:(abe p4 (YC [] X.env)).any (·.1)=false:=by rfl):DE X G (.Call (.Name "tuple" p1) [.Call (.Name "range" p3) [a] [] p4] [] pos) b1 .S (Hr ga):=⟨(iD (uq hc) hg zl bE (kv (iD rK P5 zr zB ha.un (by decide) (by decide) dG Dg) qC hs) (by decide) (by decide) hs pj).to λσ H Q h=>by
 obtain⟨Z,A,ρ,q,f⟩:=h;obtain⟨⟨us,ρ1⟩,e1,f⟩:=f.bind;refine⟨Z,A,ρ,q,?_⟩;rw[e1];intro vs H1 q1 x1 s1 vm;dsimp only at f;split at f
 ·rename_i j;split at f
  ·rename_i hj;have r:=vm.rps;unfold bf at r;obtain⟨v,vr,rfl,r1,r2⟩:=r;unfold bf at r2;subst r2;unfold Rp at r1;subst r1;unfold z9 at hj;simp only[Ys,decide_eq_true_eq] at hj;refine⟨j,rfl,λp hp=>⟨p,0,j,rfl,dg,by lia,by lia,λl hl=>?_⟩⟩;have sp:=dF hp (.rng 0 j);have sl:=dF hl (.tup ((YS (j-0).toNat).map λi=>V.int (0+(i:Nat))));exact f _ _ ((q1.same sp).same sl) (x1.trans (fY.same (sp.trans sl))) (oE s1 (sp.trans sl)) (wZ.ofS (qJ (xa 0 _) hl (by rw[bD];have:Yf=16777216:=rfl;lia)))
  ·exact f.elim
 ·exact f.elim⟩
noncomputable def lR:U->List U->R (U×U):=λu us=>match u,us with
 | .lst xs,[y]=>if xs.length<Yf then .ok (.non,.lst (xs++[y])) else .stk
 |_,_=>.stk
def qO {a:YG}(o:HO):∀b u,b≠a->H b=some u->eY H a o b=some u:=λb u nb z=>by rw[bY nb];exact z
def tP {a:YG}(mu:∀a,A a->Mu (H a))(ha:A a)(r:bf K H A us xs)(l:us.length<=Yf):nU K (eY H a (.lst xs)) A (.lst us) a:=
 ⟨xs,dg,l,r.re mu (λb o nb z=>qO _ b o (λy=>nb (y▸ha)) z) λb z=>.inl z⟩
theorem oG:He K "list" Ds lR:=λA H a u vs us z w Q t ha r mu e q=>by
 unfold lR at e;split at e
 ·rename_i xs y;split at e
  ·rename_i hl;cases e;obtain⟨ys,h1,l1,r1⟩:=t;unfold bf at r;obtain⟨v,vr,rfl,p,r2⟩:=r;unfold bf at r2;subst r2;exact⟨a,ys,v,rfl,rfl,h1,by rw[←r1.length];exact hl,q _ _ (qO _) (tP mu ha (r1.append (bf.cons p bf.nil)) (by rw[Yc];exact hl)) ur⟩
  ·cases e
 ·cases e
def z_:V->List V->Hp->VK->Prop:=λx vs H Q=>∃l b xs zs,x=.ref l/\vs=[.ref b]/\H l=some (.lst xs)/\H b=some (.lst zs)/\xs.length+zs.length<=Yf/\Q .non (eY H l (.lst (xs++zs)))
theorem Ce:Me X "list.extend" z_:=by
 intro pins s σ H x vs v us Q I rx rv h;obtain⟨l,b,xs,zs,rfl,rfl,hH,hB,hz,q⟩:=h;cases rx;obtain⟨u,rfl,ru⟩:=rv.one;cases ru;obtain⟨z,its,n,r,hl,e⟩:=I.lstM hH;obtain⟨z2,its2,n2,r2,JV,e2⟩:=I.lstM hB;have hsz:its.toArray.size+its2.toArray.size<=Yf:=by rw[Yh,Yh];lia
 have JW:¬(!its.toArray.isEmpty&&aa0 (its.toArray.size+its2.toArray.size))=true:=by
  rw[ui hsz,Zy];exact Yd
 refine ab9 F.slot_list_extend ⟨_,e,rfl⟩ F.entry_list_extend (F.args_list_extend_2 _ _)
  (PySem.AutoSeq1.list_extend_list_list_0 l its.toArray n b its2.toArray n2 JW (by rw[Yh];lia) (by lia)) ⟨e,e2,?_⟩
 refine⟨.non,_,I.lset (its':=its++its2) hH e (by simp) (r.append r2) ?_,rfl,q⟩;rw[Yc];lia
def Mi:V->List V->Hp->VK->Prop:=λx vs H Q=>z_ x vs H Q\/zC x vs H Q
def yb:Me X "list.extend" Mi:=Ce.or B4
noncomputable def iR:U->List U->R (U×U):=λu us=>match u,us with
 | .lst xs,[.lst ys]=>if xs.length+ys.length<=Yf then .ok (.non,.lst (xs++ys)) else .stk
 | .lst xs,[.tup ys]=>if xs.length+ys.length<=Yf then .ok (.non,.lst (xs++ys)) else .stk
 |_,_=>.stk
theorem oH:He K "list" Mi iR:=λA H a u vs us z w Q t ha r mu e q=>by
 unfold iR at e;split at e
 ·rename_i xs ys;split at e
  ·rename_i hl;cases e;obtain⟨zs,h1,l1,r1⟩:=t;unfold bf at r;obtain⟨v,vr,rfl,p,r2⟩:=r;unfold bf at r2;subst r2;unfold Rp at p;obtain⟨b,ws,rfl,nb,h2,l2,r3⟩:=p;exact .inl ⟨a,b,zs,ws,rfl,rfl,h1,h2,by rw[←r1.length,←r3.length];exact hl,q _ _ (qO _) (tP mu ha (r1.append r3) (by rw[Yc];exact hl)) ur⟩
  ·cases e
 ·rename_i xs ys;split at e
  ·rename_i hl;cases e;obtain⟨zs,h1,l1,r1⟩:=t;unfold bf at r;obtain⟨v,vr,rfl,p,r2⟩:=r;unfold bf at r2;subst r2;unfold Rp at p;obtain⟨b,ws,rfl,h2,l2,r3⟩:=p;exact .inr ⟨a,b,zs,ws,rfl,rfl,h1,h2,by rw[←r1.length,←r3.length];exact hl,q _ _ (qO _) (tP mu ha (r1.append r3) (by rw[Yc];exact hl)) ur⟩
  ·cases e
 ·cases e
noncomputable def qP:U->List U->R (U×U):=λu us=>match u,us with
 | .lst xs,[.int i]=>if -9223372036854775808<=i/\i<9223372036854775808 then (match adg i xs.length with
  |some k=>match xs[k]? with
   |some y=>.ok (y,.lst (xs.eraseIdx k))
   |none=>.stk
  |none=>.stk) else .stk
 |_,_=>.stk
theorem bf.erase {H:Hp}{A:YG->Prop}:∀{us:List U} {vs:List V} (n:Nat),bf K H A us vs->bf K H A (us.eraseIdx n) (vs.eraseIdx n)
 | [],vs,n,h=>by unfold bf at h;subst h;exact bf.nil
 |u::us,vs,0,h=>by
  unfold bf at h;obtain⟨x,r,rfl,p,q⟩:=h;exact q
 |u::us,vs,n+1,h=>by
  unfold bf at h;obtain⟨x,r,rfl,p,q⟩:=h;exact bf.cons p (bf.erase n q)
theorem Fy:He K "list" GV qP:=λA H a u vs us z w Q t ha r mu e q=>by
 unfold qP at e;split at e
 ·rename_i xs i;split at e
  ·rename_i hi;split at e
   ·rename_i k hk;split at e
    ·rename_i y hy;cases e;obtain⟨zs,h1,l1,r1⟩:=t;unfold bf at r;obtain⟨v,vr,rfl,p,r2⟩:=r;unfold bf at r2;subst r2;unfold Rp at p;subst p;obtain⟨v,h2,h3⟩:=r1.get hy;exact⟨a,zs,i,k,v,rfl,rfl,h1,by have:=hi.1;lia,by have:=hi.2;lia,by rw[←r1.length];exact hk,h2,q _ _ (qO _) (tP mu ha (r1.erase k) (Zj (List.length_eraseIdx_le _ _) l1)) (h3.re mu (λb o nb z=>qO _ b o (λy=>nb (y▸ha)) z) λb z=>.inl z)⟩
    ·cases e
   ·cases e
  ·cases e
 ·cases e
end
end L2
namespace L2
section
variable {G:Gm}{m:Md}
def lS:eQ K (BO λi j=>.bl (decide (i<j))) .S Gs:=DF
def lT:eQ K (BO λi j=>.bl (decide (i<=j))) .S Gu:=DF
def mP:eQ K (BO λi j=>.bl (decide (j<i))) .S J7:=DF
def ON:eQ K (BO λi j=>.bl (decide (j<=i))) .S Ui:=DF
theorem pQ {VU:List ab4}:Ft X G m VU (λ_=>.stk):=⟨λpins s σ H D I h=>by
 obtain⟨Z,A,ρ,q,f⟩:=h;exact f.elim⟩
noncomputable def Wq:Ev->R (U×Ev):=λρ=>.ok (.dct [] [],ρ)
end
end L2
namespace Hc.Sx
open PySem.SetTable
noncomputable def jq:Nat->Nat
 |0=>0
 |n+1=>5*jq n+1
theorem DM (n:Nat):5 ^ n=4*jq n+1:=by
 induction n with
 |zero=>rfl
 |succ n ih=>rw[aaB,ih];show _=4*(5*jq n+1)+1;lia
theorem K_ (m n:Nat):jq (m+n)=5 ^ n*jq m+jq n:=by
 induction n with
 |zero=>simp[jq]
 |succ n ih=>
  show 5*jq (m+n)+1=5 ^ (n+1)*jq m+(5*jq n+1);rw[ih,aaB,aar (5 ^ n) 5,Nat.mul_add,aac];lia
theorem La (n:Nat):jq n % 2=n % 2:=by
 induction n with
 |zero=>rfl
 |succ n ih=>unfold jq;lia
theorem Lb (d:Nat):jq (d+d)=jq d*(2*(2*jq d+1)):=by
 rw[K_,DM];have:jq d*(2*(2*jq d+1))=4*(jq d*jq d)+2*jq d:=by
  rw[←aac,Nat.mul_add,aar (jq d) 2,Nat.mul_one];have:2*jq d*(2*jq d)=4*(jq d*jq d):=by
   rw[aac,ab_ (jq d) 2,←aac]
  rw[this]
 rw[this,Nat.add_mul,aac];lia
theorem Vq (k q:Nat):Nat.Coprime (2 ^ k) (2*q+1):=by
 refine Nat.Coprime.pow_left k ?_;unfold Nat.Coprime;rw[Nat.gcd_rec,show (2*q+1) % 2=1 by lia];rfl
theorem DP:∀(k d:Nat),2 ^ k ∣ jq d->2 ^ k ∣ d
 |0,d,_=>⟨d,by simp⟩
 |k+1,d,h=>by
  have e:d % 2=0:=by
   rw[←La];obtain⟨c,hc⟩:=h;rw[hc,aaB,aac,ab_];lia
  obtain⟨d',rfl⟩:∃d',d=d'+d':=⟨d / 2,by lia⟩;rw[Lb,aaB,aar (2 ^ k) 2,ab_ (jq d') 2] at h;have h1:2 ^ k ∣ jq d'*(2*jq d'+1):=Nat.dvd_of_mul_dvd_mul_left (by decide) h;have h2:2 ^ k ∣ jq d':=ab0 (Vq k _) h1;obtain⟨c,hc⟩:=DP k d' h2;exact⟨c,by rw[aaB,aac,ab_,←hc];lia⟩
noncomputable def vZ (M x:Nat):Nat->Nat
 |0=>x
 |n+1=>(vZ M x n*5+1) % M
theorem DQ (M x:Nat):∀n,vZ M x n % M=(5 ^ n*x+jq n) % M
 |0=>by simp[vZ,jq]
 |n+1=>by
  unfold vZ jq;rw[Nat.mod_mod,aaB,aar (5 ^ n) 5,aac];have:=DQ M x n;rw[Nat.add_mod,Nat.mul_mod,this,←Nat.mul_mod,←Nat.add_mod];congr 1;rw[aar _ 5,Nat.mul_add];lia
theorem yc (M x m:Nat):∀n,vZ M x (m+n)=vZ M (vZ M x m) n
 |0=>rfl
 |n+1=>by
  show (vZ M x (m+n)*5+1) % M=_;rw[yc M x m n];rfl
theorem Hs {M x:Nat}(h:x<M):∀n,vZ M x n<M
 |0=>h
 |n+1=>abo _ (by lia)
theorem Ht {x:Nat}(hx:x<2 ^ k)(h:vZ (2 ^ k) x d=x):2 ^ k ∣ d:=by
 have e:=DQ (2 ^ k) x d;rw[h,DM,Nat.add_mul,Nat.one_mul] at e;have h2:2 ^ k ∣ jq d*(2*(2*x)+1):=by
  have:jq d*(2*(2*x)+1)=4*jq d*x+jq d:=by
   rw[Nat.mul_add,Nat.mul_one,←aac,←aac,aac (jq d) 2 2,aar (jq d)]
  rw[this];have e2:(x+(4*jq d*x+jq d)) % 2 ^ k=x % 2 ^ k:=by rw[e];congr 1;lia
  have e3:((4*jq d*x+jq d)) % 2 ^ k=0:=by
   have:=(Nat.mod_eq_mod_iff (x:=x+(4*jq d*x+jq d)) (y:=x) (z:=2 ^ k)).mp e2;obtain⟨a,b,BA⟩:=this;have:4*jq d*x+jq d+2 ^ k*a=2 ^ k*b:=by rw[aar _ a,aar _ b];lia
   have h3:2 ^ k ∣ 4*jq d*x+jq d:=(Nat.dvd_add_right (Nat.dvd_mul_right (2 ^ k) a)).mp (by rw[Nat.add_comm,this];exact Nat.dvd_mul_right _ _);exact Nat.mod_eq_zero_of_dvd h3
  exact Nat.dvd_of_mod_eq_zero e3
 exact DP k d (ab0 (Vq k _) h2)
theorem Lc {x a b:Nat}(hx:x<2 ^ k)(ha:a<2 ^ k)(hb:b<2 ^ k)(h:vZ (2 ^ k) x a=vZ (2 ^ k) x b):a=b:=by
 have key:∀a b,a<=b->b<2 ^ k->vZ (2 ^ k) x a=vZ (2 ^ k) x b->a=b:=λa b BA hb h=>by
  obtain⟨d,rfl⟩:∃d,b=a+d:=⟨b-a,by lia⟩;rw[yc] at h;have:=Ht (Hs hx a) h.symm;have:d=0:=Nat.eq_zero_of_dvd_of_lt this (by lia);lia
 rcases Nat.le_total a b with z|z
 ·exact key a b z hb h
 ·exact (key b a z ha h.symm).symm
theorem Ld {x y:Nat}(hx:x<2 ^ k)(hy:y<2 ^ k):∃n,n<2 ^ k/\vZ (2 ^ k) x n=y:=by
 refine aan λhn=>?_;have nd:((YS (2 ^ k)).map (vZ (2 ^ k) x)).Nodup:=by
  unfold ads;rw[Z9];refine aa1 (λ{a b} ha hb BA e=>?_) acq;exact BA (Lc hx (Zi.mp ha) (Zi.mp hb) e)
 have:=aas (l₁:=y::(YS (2 ^ k)).map (vZ (2 ^ k) x)) (l₂:=YS (2 ^ k))
  (aaq.mpr ⟨λh=>by
   obtain⟨n,h1,h2⟩:=Yz.mp h;exact hn ⟨n,Zi.mp h1,h2⟩,nd⟩)
  (λz hz=>by
   rcases Yk.mp hz with e|hz
   ·rw[e];exact Zi.mpr hy
   ·obtain⟨n,_,rfl⟩:=Yz.mp hz;exact Zi.mpr (Hs hx n))
 rw[X_,X8,Zh] at this;lia
noncomputable def gQ (mask:Nat):Nat->Nat×Nat->Nat×Nat
 |0,p=>p
 |n+1,p=>gQ mask n (leap mask p.1 p.2)
theorem xb (mask m n:Nat)(p:Nat×Nat):gQ mask (m+n) p=gQ mask n (gQ mask m p):=by
 induction m generalizing p with
 |zero=>rw[aaA];rfl
 |succ m ih=>rw[Nat.succ_add];exact ih _
theorem xc (mask:Nat):∀(n i q:Nat),(gQ mask n (i,q)).2=q / 32 ^ n
 |0,i,q=>by simp[gQ]
 |n+1,i,q=>by
  show (gQ mask n (leap mask i q)).2=_;unfold leap;rw[xc,Nat.div_div_eq_div_mul,aaB,aar 32]
theorem Aa (mask:Nat):∀(n i q:Nat),i<=mask->(gQ mask n (i,q)).1<=mask
 |0,i,q,h=>h
 |n+1,i,q,h=>Aa mask n _ _ (aaD (abo _ (abi _)))
theorem uD (mask:Nat):∀(n i:Nat),gQ mask n (i,0)=(vZ (mask+1) i n,0)
 |0,i=>rfl
 |n+1,i=>by
  rw[Nat.add_comm n 1,xb];show gQ mask n (leap mask i 0)=_;rw[show leap mask i 0=(vZ (mask+1) i 1,0) by unfold leap vZ vZ;simp,uD,yc]
theorem xf (hm:mask+1=2 ^ k){q y:Nat}(hi:i<=mask)(hq:q<2 ^ 64)(hy:y<=mask):∃n,n<mask+14/\(gQ mask n (i,q)).1=y:=by
 have z:(gQ mask 13 (i,q)).2=0:=by
  rw[xc];exact Nat.div_eq_of_lt (Nat.lt_trans hq (by decide))
 have e:gQ mask 13 (i,q)=((gQ mask 13 (i,q)).1,0):=by rw[←z]
 obtain⟨n,h1,h2⟩:=Ld (k:=k) (x:=(gQ mask 13 (i,q)).1) (y:=y) (by rw[←hm];exact Nat.lt_succ_of_le (Aa mask 13 i q hi)) (by lia);refine⟨13+n,by lia,?_⟩;rw[xb,e,uD,hm];exact h2
end Hc.Sx
namespace Hc.Sx
open PySem.SetTable
def Rn (xs:Array Nat):Prop:=∀i j (hi:i<xs.size) (hj:j<xs.size),i<j->xs[i]<xs[j]
theorem uE {xs:Array Nat}{j:Nat}(hr:Rn xs):∀(cy lo hi:Nat),lo<=hi->hi<=xs.size->hi-lo<=cy->(∀i (h:i<xs.size),i<lo->xs[i]<j)->(∀i (h:i<xs.size),hi<=i->j<=xs[i])->
  (∀i (h:i<xs.size),i<below.go xs j cy lo hi->xs[i]<j)/\(∀i (h:i<xs.size),below.go xs j cy lo hi<=i->j<=xs[i])/\below.go xs j cy lo hi<=xs.size
 |0,lo,hi,h1,h2,h3,a,b=>by
  have:lo=hi:=by lia
  subst this;exact⟨a,b,h2⟩
 |cy+1,lo,hi,h1,h2,h3,a,b=>by
  unfold below.go;by_cases c:lo<hi
  ·rw[hV c];dsimp only;have hm:(lo+hi) / 2<xs.size:=by lia
   have hd:xs.getD ((lo+hi) / 2) j=xs[(lo+hi) / 2]:=by simp[aca,hm]
   rw[hd];by_cases c2:xs[(lo+hi) / 2]<j
   ·rw[hV c2];refine uE hr cy _ hi (by lia) h2 (by lia) (λi h Gj=>?_) b;rcases aaO i ((lo+hi) / 2) with z|z
    ·exact Nat.lt_trans (hr _ _ h hm z) c2
    ·have:i=(lo+hi) / 2:=by lia
     subst this;exact c2
   ·rw[hU c2];refine uE hr cy lo _ (by lia) (by lia) (by lia) a (λi h Gj=>?_);rcases aaO ((lo+hi) / 2) i with z|z
    ·have:=hr _ _ hm h z;lia
    ·have:i=(lo+hi) / 2:=by lia
     subst this;lia
  ·rw[hU c];have:lo=hi:=by lia
   subst this;exact⟨a,b,h2⟩
theorem pR {xs:Array Nat}(hr:Rn xs):(∀i (h:i<xs.size),i<below xs j->xs[i]<j)/\(∀i (h:i<xs.size),below xs j<=i->j<=xs[i])/\below xs j<=xs.size:=
 uE hr _ _ _ (aak _) (Yl _) (by lia) (λi _ h=>by lia) (λi h h'=>by lia)
theorem Hu {xs:Array Nat}(hr:Rn xs)(h:xs[i]? = some j):below xs j=i:=by
 obtain⟨hi,e⟩:=Zt.mp h;obtain⟨a,b,c⟩:=pR (j:=j) hr;rcases acb (below xs j) i with z|z|z
 ·have h1:=b (below xs j) (by lia) (Yl _);have h2:=hr _ _ (by lia) hi z;lia
 ·exact z
 ·have:=a i hi z;lia
variable {V:Type}
structure DR (t:abx)(es:Array (Int×V))(C:Nat->Option (Int×V)):Prop where
 ris:Rn t.place
 sz:t.place.size=es.size
 dum:t.dummies=#[]
 pow:∃k,t.mask+1=2 ^ k
 room:es.size<=t.mask
 top:∀(i j:Nat),t.place[i]? = some j->j<=t.mask
 con:∀(j:Nat) (e:Int×V),C j=some e↔∃i:Nat,t.place[i]? = some j/\es[i]? = some e
section
variable {es:Array (Int×V)}{C:Nat->Option (Int×V)}
theorem Ab {xs:Array Nat}(h:xs=#[])(j:Nat):has xs j=false:=by subst h;rfl
theorem DR.live (T:DR t es C){e:Int×V}(h:C j=some e):∃i,t.slot j=.live i/\es[i]? = some e/\t.place[i]? = some j:=by
 obtain⟨i,h1,h2⟩:=(T.con j e).mp h;refine⟨i,?_,h2,h1⟩;unfold SetTable.slot;dsimp only;rw[Hu T.ris h1,h1];simp
theorem DR.empty (T:DR t es C)(h:C j=none):t.slot j=.empty:=by
 unfold SetTable.slot;dsimp only;have n:(t.place[below t.place j]? == some j)=false:=by
  rw[ZT];intro c;have c:t.place[below t.place j]? = some j:=by simpa using c
  have hi:=(Zt.mp c).1;have NJ:below t.place j<es.size:=by rw[←T.sz];exact hi
  have:es[below t.place j]? = some es[below t.place j]:=YW NJ;rw[(T.con j _).mpr ⟨_,c,this⟩] at h;cases h
 rw[n,Ab T.dum];rfl
theorem DR.free (T:DR t es C):∃y,y<=t.mask/\C y=none:=by
 refine aan λhn=>?_;have hs:=T.sz;have hr:=T.room;have:=aas (l₁:=YS (t.mask+1)) (l₂:=t.place.toList) acq (λy hy=>by
  have hy:=Zi.mp hy;cases e:C y with
  |none=>exact absurd ⟨y,by lia,e⟩ hn
  |some v=>
   obtain⟨i,h1,_⟩:=(T.con y v).mp e;have:=Array.mem_of_getElem? h1;simpa using this)
 rw[Zh,Yi] at this;lia
end
noncomputable def adv (mask:Nat)(p:Probe):Probe:=
 if p.more>0 then {p with j:=p.j+1,more:=p.more-1} else
 {p with j:=(leap mask p.i p.perturb).1,more:=runEnd mask (leap mask p.i p.perturb).1-(leap mask p.i p.perturb).1,i:=(leap mask p.i p.perturb).1,perturb:=(leap mask p.i p.perturb).2}
def Hv (t:abx)(p:Probe):t.advance p=adv t.mask p:=by unfold SetTable.advance adv;rfl
noncomputable def advs (mask:Nat):Nat->Probe->Probe
 |0,p=>p
 |n+1,p=>advs mask n (adv mask p)
theorem jM (mask m n:Nat)(p:Probe):advs mask (m+n) p=advs mask n (advs mask m p):=by
 induction m generalizing p with
 |zero=>rw[aaA];rfl
 |succ m ih=>rw[Nat.succ_add];exact ih _
def xg (mask n:Nat)(p:Probe):advs mask (n+1) p=adv mask (advs mask n p):=by rw[jM];rfl
structure mQ (mask:Nat)(p:Probe):Prop where
 i:p.i<=mask
 q:p.perturb<2 ^ 64
 m:p.more<=9
 d:p.dummy=none
theorem qQ (mask i:Nat):runEnd mask i-i<=9:=by unfold runEnd;split<;>lia
theorem mQ.adv {p:Probe}(h:mQ mask p):mQ mask (adv mask p):=by
 unfold Hc.Sx.adv;split
 ·exact⟨h.i,h.q,by have:=h.m;dsimp only;lia,h.d⟩
 ·refine⟨aaD (abo _ (abi _)),?_,qQ _ _,h.d⟩;exact abR (Nat.div_le_self _ _) h.q
theorem mQ.advs {mask:Nat}:∀(n:Nat) {p:Probe},mQ mask p->mQ mask (advs mask n p)
 |0,_,h=>h
 |n+1,_,h=>mQ.advs n h.adv
theorem DU (h:Int):bits h<2 ^ 64:=by
 unfold bits;have:h % (2 ^ 64:Int)<2 ^ 64:=aaP _ (by decide);have h0:0<=h % (2 ^ 64:Int):=abj _ (by decide);lia
def mQ.start (t:abx)(h:Int):mQ t.mask (t.probeStart h):=
 ⟨aaD (abo _ (abi _)),DU h,qQ _ _,rfl⟩
theorem uF {mask:Nat}:∀(n:Nat) {p:Probe},p.more=n->(advs mask (n+1) p).j=(leap mask p.i p.perturb).1/\(advs mask (n+1) p).i=(leap mask p.i p.perturb).1/\(advs mask (n+1) p).perturb=(leap mask p.i p.perturb).2/\(advs mask (n+1) p).more<=9
 |0,p,e=>by
  show (adv mask p).j=_/\(adv mask p).i=_/\(adv mask p).perturb=_/\(adv mask p).more<=9;unfold adv;rw[hU (by lia)];exact⟨rfl,rfl,rfl,qQ _ _⟩
 |n+1,p,e=>by
  have:=uF (mask:=mask) n (p:=adv mask p) (by unfold adv;rw[hV (by lia)];show p.more-1=n;lia);have e1:(adv mask p).i=p.i/\(adv mask p).perturb=p.perturb:=by unfold adv;rw[hV (by lia)];exact⟨rfl,rfl⟩
  rw[e1.1,e1.2] at this;exact this
theorem rL {mask:Nat}:∀(n:Nat) {p:Probe},mQ mask p->∃m,m<=10*(n+1)/\(advs mask m p).j=(gQ mask (n+1) (p.i,p.perturb)).1
 |0,p,h=>by
  obtain⟨a,_⟩:=uF (mask:=mask) p.more (p:=p) rfl;exact⟨p.more+1,by have:=h.m;lia,a⟩
 |n+1,p,h=>by
  obtain⟨a,b,c,d⟩:=uF (mask:=mask) p.more (p:=p) rfl;obtain⟨m,h1,h2⟩:=rL n (mQ.advs (p.more+1) h);refine⟨p.more+1+m,by have:=h.m;lia,?_⟩;rw[jM,h2,b,c];rfl
theorem xh (hm:mask+1=2 ^ k){p:Probe}(h:mQ mask p){y:Nat}(hy:y<=mask):∃m,m<10*turns mask/\(advs mask m p).j=y:=by
 obtain⟨n,h1,h2⟩:=xf hm (i:=(leap mask p.i p.perturb).1) (q:=(leap mask p.i p.perturb).2) (y:=y) (aaD (abo _ (abi _))) (abR (Nat.div_le_self _ _) h.q) hy;obtain⟨m,h3,h4⟩:=rL n h;refine⟨m,by unfold turns;lia,?_⟩;rw[h4];exact h2
section
variable {es:Array (Int×V)}{C:Nat->Option (Int×V)}{hashAt:Nat->Int}
theorem DV (T:DR t es C)(hh:∀i e,es[i]? = some e->hashAt i=e.1)(h:Int):∀(m cy:Nat) (p:Probe),mQ t.mask p->m<cy->C (advs t.mask m p).j=none->
    ∃m',m'<=m/\(∀a,a<m'->∃e,C (advs t.mask a p).j=some e/\e.1≠h)/\
      ((C (advs t.mask m' p).j=none/\probe.go t hashAt h cy p=some (.empty (advs t.mask m' p).j none)) \/
       ∃e i,C (advs t.mask m' p).j=some e/\e.1=h/\es[i]? = some e/\t.place[i]? = some (advs t.mask m' p).j/\probe.go t hashAt h cy p=some (.candidate (advs t.mask m' p).j i (advs t.mask (m'+1) p)))
  |m,0,p,_,hf,_=>by lia
  |m,cy+1,p,hp,hf,he=>by
    unfold probe.go;cases c:C p.j with
    |none=>
      refine⟨0,aak _,λa ha=>by lia,.inl ⟨c,?_⟩⟩;rw[T.empty c];dsimp only;rw[hp.d];rfl
    |some e=>
      obtain⟨i,h1,h2,h3⟩:=T.live c;rw[h1];dsimp only;rw[hh i e h2];by_cases q:e.1=h
      · refine⟨0,aak _,λa ha=>by lia,.inr ⟨e,i,c,q,h2,h3,?_⟩⟩;rw[hV (by rw[q];simp),Hv];rfl
      · rw[hU (by simpa using q),Hv];cases m with
        |zero=>rw[show advs t.mask 0 p=p from rfl,c] at he;cases he
        |succ m=>
          obtain⟨m',g1,g2,g3⟩:=DV T hh h m cy (adv t.mask p) hp.adv (by lia) he;refine⟨m'+1,by lia,λa ha=>?_,g3⟩;cases a with
          |zero=>exact⟨e,c,q⟩
          |succ a=>exact g2 a (by lia)
theorem Cf (T:DR t es C)(hh:∀i e,es[i]? = some e->hashAt i=e.1)(h:Int){p:Probe}(hp:mQ t.mask p) :
    ∃m',(∀a,a<m'->∃e,C (advs t.mask a p).j=some e/\e.1≠h)/\
      ((C (advs t.mask m' p).j=none/\t.probe hashAt h p=some (.empty (advs t.mask m' p).j none)) \/
       ∃e i,C (advs t.mask m' p).j=some e/\e.1=h/\es[i]? = some e/\t.place[i]? = some (advs t.mask m' p).j/\t.probe hashAt h p=some (.candidate (advs t.mask m' p).j i (advs t.mask (m'+1) p))):=by
  obtain⟨y,hy,hc⟩:=T.free;obtain⟨k,hk⟩:=T.pow;obtain⟨m,h1,h2⟩:=xh hk hp hy;obtain⟨m',_,g2,g3⟩:=DV T hh h m _ p hp h1 (by rw[h2];exact hc);exact⟨m',g2,g3⟩
end
end Hc.Sx
namespace Hc.Sx
open PySem.SetTable
def kT {α:Type}(xs:Array α)(p:Nat)(x:α):(insertAt xs p x).toList=xs.toList.take p++x::xs.toList.drop p:=by
 unfold insertAt;simp[aaY,List.extract_eq_drop_take];exact ZZ (by simp)
theorem cQ {α:Type}{xs:Array α}{p:Nat}{x:α}(h:p<=xs.size)(i:Nat):(insertAt xs p x)[i]? = if i<p then xs[i]? else if i=p then some x else xs[i-1]? := by
 rw[←YJ,kT];have lt:(xs.toList.take p).length=p:=by rw[Yy,Yi];lia
 by_cases c:i<p
 ·rw[hV c,ZJ (by lia),ade c,YJ]
 ·rw[hU c,Zs (by lia),lt];by_cases c2:i=p
  ·rw[hV c2,c2,acY];rfl
  ·rw[hU c2,show i-p=(i-p-1)+1 by lia,ZE,abT,YJ];congr 1;lia
theorem iS {α:Type}{xs:Array α}{p:Nat}{x:α}(h:p<=xs.size):(insertAt xs p x).size=xs.size+1:=by
 rw[←Yi,kT,Yc,X_,Yy,YO,Yi];lia
variable {V:Type}
noncomputable def OO (C:Nat->Option (Int×V))(j:Nat)(e:Int×V):Nat->Option (Int×V):=λy=>if y=j then some e else C y
def Mj (mask:Nat)(st:Int->Probe)(C:Nat->Option (Int×V)):Prop:=∀(j:Nat) (e:Int×V),C j=some e->∃n,(advs mask n (st e.1)).j=j/\∀m,m<n->∃e',C (advs mask m (st e.1)).j=some e'
section
variable {es:Array (Int×V)}{C:Nat->Option (Int×V)}
theorem DR.put (T:DR t es C){e:Int×V}(hj:j<=t.mask)(hc:C j=none)(hr:es.size+1<=t.mask) :
  DR (t.put j).1 (insertAt es (t.put j).2 e) (OO C j e)/\(t.put j).1.mask=t.mask/\(t.put j).1.plain=t.plain/\(t.put j).1.led=t.led/\(t.put j).1.moves=t.moves/\(t.put j).1.finger=t.finger:=by
 obtain⟨a,b,c⟩:=pR (j:=j) T.ris;have nz:∀i,t.place[i]? ≠ some j:=λi h=>by
  have hi:=(Zt.mp h).1;have NJ:i<es.size:=by rw[←T.sz];exact hi
  rw[(T.con j es[i]).mpr ⟨i,h,YW NJ⟩] at hc;cases hc
 have ep:(t.put j).1={t with place:=insertAt t.place (below t.place j) j}:=by
  unfold SetTable.put;dsimp only;rw[Ab T.dum];rfl
 have e2:(t.put j).2=below t.place j:=rfl;have c2:below t.place j<=es.size:=by rw[←T.sz];exact c
 rw[ep,e2];refine⟨⟨?_,?_,T.dum,T.pow,?_,?_,?_⟩,rfl,rfl,rfl,rfl,rfl⟩
 ·intro i i' hi Gj lt;have g:=λx=>cQ (x:=j) c x;dsimp only at hi Gj ⊢;have e1:=g i;have Dh:=g i';rw[YW hi] at e1;rw[YW Gj] at Dh;rw[iS c] at hi Gj;have at_:∀x (hx:x<t.place.size),t.place[x]? = some t.place[x]:=λx hx=>YW hx;have WT:∀x (hx:x<t.place.size),t.place[x]≠j:=λx hx z=>nz x (by rw[at_ x hx,z]);by_cases q:i<below t.place j
  ·rw[hV q,at_ i (by lia)] at e1;have e1:=YF e1;rw[e1];by_cases q':i'<below t.place j
   ·rw[hV q',at_ i' (by lia)] at Dh;rw[YF Dh];exact T.ris _ _ _ _ lt
   ·rw[hU q'] at Dh;by_cases r':i'=below t.place j
    ·rw[hV r'] at Dh;rw[YF Dh];exact a i (by lia) q
    ·rw[hU r',at_ (i' - 1) (by lia)] at Dh;rw[YF Dh];have h1:=a i (by lia) q;have h2:=b (i' - 1) (by lia) (by lia);lia
  ·rw[hU q] at e1;rw[hU (by lia),hU (by lia),at_ (i' - 1) (by lia)] at Dh;rw[YF Dh];by_cases r:i=below t.place j
   ·rw[hV r] at e1;rw[YF e1];have h2:=b (i' - 1) (by lia) (by lia);have h3:=WT (i' - 1) (by lia);lia
   ·rw[hU r,at_ (i-1) (by lia)] at e1;rw[YF e1];exact T.ris _ _ _ _ (by lia)
 ·show (insertAt t.place _ j).size=_;rw[iS c,iS c2,T.sz]
 ·rw[iS c2];exact hr
 ·intro i y h;have h:(insertAt t.place (below t.place j) j)[i]? = some y:=h;rw[cQ c] at h;split at h
  ·exact T.top i y h
  ·split at h
   ·cases h;exact hj
   ·exact T.top _ y h
 ·intro y v;show OO C j e y=some v↔∃i,(insertAt t.place (below t.place j) j)[i]? = some y/\(insertAt es (below t.place j) e)[i]? = some v;unfold OO;constructor
  ·intro h;split at h
   ·rename_i q;cases h;subst q;refine⟨below t.place y,?_,?_⟩
    ·rw[cQ c,hU (Z_ _),hV rfl]
    ·rw[cQ c2,hU (Z_ _),hV rfl]
   ·obtain⟨i,h1,h2⟩:=(T.con y v).mp h;by_cases q:i<below t.place j
    ·exact⟨i,by rw[cQ c,hV q];exact h1,by rw[cQ c2,hV q];exact h2⟩
    ·exact⟨i+1,by rw[cQ c,hU (by lia),hU (by lia)];exact h1,by rw[cQ c2,hU (by lia),hU (by lia)];exact h2⟩
  ·rintro⟨i,h1,h2⟩;rw[cQ c] at h1;rw[cQ c2] at h2;by_cases q:i<below t.place j
   ·rw[hV q] at h1 h2;rw[hU (λz=>nz i (by rw[h1,z]))];exact (T.con y v).mpr ⟨i,h1,h2⟩
   ·rw[hU q] at h1 h2;by_cases r:i=below t.place j
    ·rw[hV r] at h1 h2;rw[hV (YF h1).symm];exact h2
    ·rw[hU r] at h1 h2;rw[hU (λz=>nz (i-1) (by rw[h1,z]))];exact (T.con y v).mpr ⟨_,h1,h2⟩
theorem Mj.up {st:Int->Probe}(P:Mj mask st C){e:Int×V}(hb:∀m,m<n->∃e',C (advs mask m (st e.1)).j=some e')(hc:C (advs mask n (st e.1)).j=none):Mj mask st (OO C (advs mask n (st e.1)).j e):=by
 have JX:∀y,(∃e',C y=some e')->∃e',OO C (advs mask n (st e.1)).j e y=some e':=λy h00=>by
  obtain⟨e',h⟩:=h00;unfold OO;split
  ·exact⟨_,rfl⟩
  ·exact⟨e',h⟩
 intro j v h;unfold OO at h;split at h
 ·rename_i q;cases h;exact⟨n,q.symm,λm hm=>JX _ (hb m hm)⟩
 ·obtain⟨n',h1,h2⟩:=P j v h;exact⟨n',h1,λm hm=>JX _ (h2 m hm)⟩
theorem Mj.met {st:Int->Probe}(P:Mj mask st C){h:Int}(hc:C (advs mask n (st h)).j=none){e:Int×V}(he:C j=some e)(hh:e.1=h):∃m,m<n/\(advs mask m (st h)).j=j:=by
 obtain⟨m,h1,h2⟩:=P j e he;rw[hh] at h1 h2;rcases acb m n with z|z|z
 ·exact⟨m,z,h1⟩
 ·subst z;rw[h1,he] at hc;cases hc
 ·obtain⟨e',q⟩:=h2 n z;rw[q] at hc;cases hc
end
noncomputable def abO (mask:Nat)(h:Int):Probe:={j:=bits h % (mask+1),more:=runEnd mask (bits h % (mask+1))-bits h % (mask+1),i:=bits h % (mask+1),perturb:=bits h,dummy:=none}
theorem qR {mask:Nat}:∀(k:Nat) {p:Probe},k<=p.more->(advs mask k p).j=p.j+k/\(advs mask k p).more=p.more-k/\(advs mask k p).i=p.i/\(advs mask k p).perturb=p.perturb/\(advs mask k p).dummy=p.dummy
 |0,p,_=>⟨rfl,rfl,rfl,rfl,rfl⟩
 |k+1,p,h=>by
  obtain⟨a,b,c,d,e⟩:=qR (mask:=mask) k (p:=adv mask p) (by unfold adv;rw[hV (by lia)];dsimp only;lia);have e1:(adv mask p).j=p.j+1/\(adv mask p).more=p.more-1/\(adv mask p).i=p.i/\(adv mask p).perturb=p.perturb/\(adv mask p).dummy=p.dummy:=by unfold adv;rw[hV (by lia)];exact⟨rfl,rfl,rfl,rfl,rfl⟩
  refine⟨?_,?_,c.trans e1.2.2.1,d.trans e1.2.2.2.1,e.trans e1.2.2.2.2⟩
  ·show (advs mask k (adv mask p)).j=_;rw[a,e1.1];lia
  ·show (advs mask k (adv mask p)).more=_;rw[b,e1.2.1];lia
theorem xi {mask:Nat}{owner:Array (Option Nat)}(hs:owner.size=mask+1):∀(n cy:Nat) (p:Probe),p.j=p.i->p.more=runEnd mask p.i-p.i->p.i<=mask->n<cy->owner[(gQ mask n (p.i,p.perturb)).1]? = some none->
  ∃m,layClean.free mask owner cy p.i p.perturb=some (advs mask m p).j/\owner[(advs mask m p).j]? = some none/\∀a,a<m->∃i,owner[(advs mask a p).j]? = some (some i)
 |n,0,p,_,_,_,hf,_=>by lia
 |n,cy+1,p,hj,hm,hi,hf,hn=>by
  have re:runEnd mask p.i<=mask/\p.i<=runEnd mask p.i:=by unfold runEnd;split<;>lia
  have at_:∀a,a<=p.more->∃o,owner[p.i+a]? = some o:=λa ha=>⟨owner[p.i+a]'(by lia),YW (by lia)⟩;have gd:∀a o,owner[p.i+a]? = some o->owner.getD (p.i+a) (some 0)=o:=λa o h=>by
   obtain⟨h1,h2⟩:=Zt.mp h;simp[aca,h1,h2]
  unfold layClean.free;cases hq:(YS (runEnd mask p.i+1-p.i)).find? (λk=>(owner.getD (p.i+k) (some 0)).isNone) with
  |some k=>
   obtain⟨h1,as,bs,h2,h3⟩:=List.find?_eq_some_iff_append.mp hq;have hk:k<runEnd mask p.i+1-p.i:=Zi.mp (by rw[h2];simp);have NK:k<=p.more:=by lia
   obtain⟨o,ho⟩:=at_ k NK;rw[gd k o ho] at h1;have on:o=none:=by cases o with
    |none=>rfl
    |some x=>cases h1
   subst on;refine⟨k,?_,?_,λa ha=>?_⟩
   ·dsimp only;rw[(qR k NK).1,hj]
   ·rw[(qR k NK).1,hj];exact ho
   ·rw[(qR a (by lia)).1,hj];obtain⟨o,ho⟩:=at_ a (by lia);have am:a∈as:=by
     have la:as.length=k:=by
      have e:(YS (runEnd mask p.i+1-p.i))[as.length]? = some k:=by rw[h2,Zs (Yl _),acY];rfl
      have lt:as.length<runEnd mask p.i+1-p.i:=by
       have:=(Yr.mp e).1;simpa using this
      rw[aa4 lt] at e;exact YF e
     have e:(YS (runEnd mask p.i+1-p.i))[a]? = some a:=aa4 (by lia);rw[h2,ZJ (by lia)] at e;exact Y6 e
    have:=h3 a am;rw[gd a o ho] at this;cases o with
    |none=>simp at this
    |some x=>exact⟨x,ho⟩
  |none=>
   have all:=List.find?_eq_none.mp hq;have VX:∀a,a<=p.more->∃i,owner[p.i+a]? = some (some i):=λa ha=>by
    obtain⟨o,ho⟩:=at_ a ha;have:=all a (Zi.mpr (by lia));rw[gd a o ho] at this;cases o with
    |none=>simp at this
    |some x=>exact⟨x,ho⟩
   cases n with
   |zero=>
    obtain⟨i,h⟩:=VX 0 (aak _);rw[show gQ mask 0 (p.i,p.perturb)=(p.i,p.perturb) from rfl,←acZ p.i,h] at hn;cases hn
   |succ n=>
    obtain⟨a1,a2,a3,a4,a5⟩:=qR (mask:=mask) p.more (p:=p) (Yl _);have e1:advs mask (p.more+1) p={advs mask p.more p with j:=(leap mask p.i p.perturb).1,more:=runEnd mask (leap mask p.i p.perturb).1-(leap mask p.i p.perturb).1,i:=(leap mask p.i p.perturb).1,perturb:=(leap mask p.i p.perturb).2}:=by
     rw[xg];unfold adv;rw[hU (by lia),a3,a4]
    obtain⟨m,g1,g2,g3⟩:=xi hs n cy (advs mask (p.more+1) p) (by rw[e1]) (by rw[e1]) (by rw[e1];exact aaD (abo _ (abi _))) (by lia) (by rw[e1];exact hn);refine⟨p.more+1+m,?_,by rw[jM];exact g2,λa ha=>?_⟩
    ·rw[jM];rw[e1] at g1 ⊢;exact g1
    ·rcases aaO a (p.more+1) with z|z
     ·rw[(qR a (by lia)).1,hj];exact VX a (by lia)
     ·have:=g3 (a-(p.more+1)) (by lia);rw[←jM,show p.more+1+(a-(p.more+1))=a by lia] at this;exact this
end Hc.Sx
namespace Hc.Sx
open PySem.SetTable
structure Ml (mask:Nat)(owner:Array (Option Nat))(k:Nat)(Hf:Nat->Int):Prop where
 sz:owner.size=mask+1
 ix:∀(j i:Nat),owner[j]? = some (some i)->i<k
 ex:∀i:Nat,i<k->∃j:Nat,owner[j]? = some (some i)
 un:∀(j j' i:Nat),owner[j]? = some (some i)->owner[j']? = some (some i)->j=j'
 pt:∀(j i:Nat),owner[j]? = some (some i)->∃n,(advs mask n (abO mask (Hf i))).j=j/\∀m,m<n->∃i':Nat,owner[(advs mask m (abO mask (Hf i))).j]? = some (some i')
section
variable {owner:Array (Option Nat)}{Hf:Nat->Int}
theorem Ml.free (O:Ml mask owner k Hf)(hk:k<=mask):∃y,y<=mask/\owner[y]? = some none:=by
 refine aan λhn=>?_;have UY:∀y,y<mask+1->∃i,owner[y]? = some (some i):=λy hy=>by
  have h1:y<owner.size:=by rw[O.sz];exact hy
  cases e:owner[y] with
  |none=>exact absurd ⟨y,by lia,by rw[YW h1,e]⟩ hn
  |some i=>exact⟨i,by rw[YW h1,e]⟩
 have g:∀y,∃i,y<mask+1->owner[y]? = some (some i):=λy=>by
  by_cases h:y<mask+1
  ·obtain⟨i,e⟩:=UY y h;exact⟨i,λ_=>e⟩
  ·exact⟨0,λz=>absurd z h⟩
 let f:=λy=>Classical.choose (g y)
 have hf:∀y,y<mask+1->owner[y]? = some (some (f y)):=λy=>Classical.choose_spec (g y);have:=aas (l₁:=(YS (mask+1)).map f) (l₂:=YS k) (by
  unfold ads;rw[Z9];refine aa1 (λ{a b} ha hb BA e=>?_) acq;have h1:=hf a (Zi.mp ha);have h2:=hf b (Zi.mp hb);rw[e] at h1;exact BA (O.un _ _ _ h1 h2)) (λx hx=>by
  obtain⟨y,hy,rfl⟩:=Yz.mp hx;exact Zi.mpr (O.ix y _ (hf y (Zi.mp hy))))
 rw[X8,Zh,Zh] at this;lia
theorem Ml.step (O:Ml mask owner k Hf)(hp:∃p,mask+1=2 ^ p)(hk:k<=mask):∃j,layClean.free mask owner (turns mask) (bits (Hf k) % (mask+1)) (bits (Hf k))=some j/\Ml mask (owner.setIfInBounds j (some k)) (k+1) Hf:=by
 obtain⟨y,hy,ho⟩:=O.free hk;obtain⟨p,hp⟩:=hp;have hi:bits (Hf k) % (mask+1)<=mask:=aaD (abo _ (abi _));obtain⟨n,h1,h2⟩:=xf hp (i:=bits (Hf k) % (mask+1)) (q:=bits (Hf k)) hi (DU _) hy;obtain⟨m,g1,g2,g3⟩:=xi O.sz n (turns mask) (abO mask (Hf k)) rfl rfl hi (by unfold turns;lia) (by
  show owner[(gQ mask n (bits (Hf k) % (mask+1),bits (Hf k))).1]? = _;rw[h2];exact ho)
 refine⟨_,g1,?_⟩;have hj:(advs mask m (abO mask (Hf k))).j<owner.size:=(Zt.mp g2).1;generalize ej:(advs mask m (abO mask (Hf k))).j=j at *;have gt:∀x,(owner.setIfInBounds j (some k))[x]? = if x=j then some (some k) else owner[x]? := λx=>by
  rw[Array.getElem?_setIfInBounds];by_cases c:j=x
  ·rw[hV c,hV c.symm,hV hj]
  ·rw[hU c,hU (λz=>c z.symm)]
 have JX:∀x:Nat,(∃i':Nat,owner[x]? = some (some i'))->∃i':Nat,(owner.setIfInBounds j (some k))[x]? = some (some i'):=λx h00=>by
  obtain⟨i',h⟩:=h00;rw[gt];split
  ·exact⟨k,rfl⟩
  ·exact⟨i',h⟩
 refine⟨by rw[Array.size_setIfInBounds];exact O.sz,λx i h=>?_,λi hi=>?_,λx x' i h h'=>?_,λx i h=>?_⟩
 ·rw[gt] at h;split at h
  ·cases h;lia
  ·have:=O.ix x i h;lia
 ·by_cases c:i=k
  ·exact⟨j,by rw[gt,hV rfl,c]⟩
  ·obtain⟨x,h⟩:=O.ex i (by lia);refine⟨x,?_⟩;rw[gt,hU (λz=>by rw[z,g2] at h;cases h)];exact h
 ·rw[gt] at h h';by_cases c:x=j
  ·by_cases c':x'=j
   ·rw[c,c']
   ·rw[hV c] at h;rw[hU c'] at h';cases h;have:=O.ix _ _ h';lia
  ·by_cases c':x'=j
   ·rw[hU c] at h;rw[hV c'] at h';cases h';have:=O.ix _ _ h;lia
   ·rw[hU c] at h;rw[hU c'] at h';exact O.un _ _ _ h h'
 ·rw[gt] at h;split at h
  ·rename_i c;cases h;exact⟨m,by rw[ej,c],λa ha=>JX _ (g3 a ha)⟩
  ·obtain⟨n,h1,h2⟩:=O.pt x i h;exact⟨n,h1,λa ha=>JX _ (h2 a ha)⟩
end
noncomputable def Le (mask:Nat)(bX:Option (Array (Option Nat)×Nat))(h:Int):Option (Array (Option Nat)×Nat):=do
  let (owner,k) ←bX
  let j ←layClean.free mask owner (turns mask) (bits h % (mask+1)) (bits h)
  pure (owner.setIfInBounds j (some k),k+1)
theorem DX {mask:Nat}{Hf:Nat->Int}(hp:∃p,mask+1=2 ^ p):∀(hs:List Int) (k:Nat) (owner:Array (Option Nat)),Ml mask owner k Hf->(∀i,i<hs.length->hs[i]? = some (Hf (k+i)))->k+hs.length<=mask->
  ∃owner',hs.foldl (Le mask) (some (owner,k))=some (owner',k+hs.length)/\Ml mask owner' (k+hs.length) Hf
 | [],k,owner,O,_,_=>⟨owner,rfl,O⟩
 |h::hs,k,owner,O,he,hl=>by
  have e0:h=Hf k:=by have:=he 0 (by simp);simpa using this
  rw[X_] at hl;obtain⟨j,g1,g2⟩:=O.step hp (by lia);obtain⟨owner',f1,f2⟩:=DX hp hs (k+1) _ g2 (λi hi=>by
   have:=he (i+1) (by rw[X_];lia);rw[ZE] at this;rw[this];congr 2;lia) (by lia)
  refine⟨owner',?_,?_⟩
  ·rw[abU,show Le mask (some (owner,k)) h=some (owner.setIfInBounds j (some k),k+1) by unfold Le;rw[e0];simp[g1],f1,X_];congr 2;lia
  ·rw[X_,show k+(hs.length+1)=k+1+hs.length by lia];exact f2
theorem Lf (mask:Nat)(Hf:Nat->Int):Ml mask (Array.replicate (mask+1) none) 0 Hf:=by
 have no:∀(j i:Nat),(Array.replicate (mask+1) (none:Option Nat))[j]? ≠ some (some i):=λj i h=>by
  rw[Array.getElem?_replicate] at h;split at h<;>cases h
 exact⟨by simp,λj i h=>absurd h (no j i),λi h=>absurd h (Nat.not_lt_zero _),λj _ i h=>absurd h (no j i),λj i h=>absurd h (no j i)⟩
theorem kW {α β:Type}{f:α->Option β}:∀{l:List α},(∀x∈l,∃y,f x=some y)->∀n:Nat,(l.filterMap f)[n]? = (l[n]?).bind f
 | [],_,n=>by simp
 |x::l,h,n=>by
  obtain⟨y,hy⟩:=h x Yb;rw[adi hy];cases n with
  |zero=>simp[hy]
  |succ n=>simpa using kW (λz hz=>h z (Ya _ hz)) n
theorem oh {α β:Type}{f:α->Option β}:∀{l:List α},(∀x∈l,∃y,f x=some y)->(l.filterMap f).length=l.length
 | [],_=>rfl
 |x::l,h=>by
  obtain⟨y,hy⟩:=h x Yb;rw[adi hy,X_,X_,oh λz hz=>h z (Ya _ hz)]
variable {V:Type}
theorem pS {finger moves:Nat}{led plain:Bool}{es:Array (Int×V)}(hp:∃p,mask+1=2 ^ p)(hl:es.size<=mask):∃(t:abx) (order:Array Nat) (C:Nat->Option (Int×V)),laid mask finger moves led plain (es.map (·.1))=some (t,order)/\
  DR t (order.filterMap (es[·]?)) C/\Mj mask (abO mask) C/\(order.filterMap (es[·]?)).size=es.size/\t.mask=mask/\t.finger=finger/\t.moves=moves/\t.led=led/\t.plain=plain/\
  (order.filterMap (es[·]?)).toList.Perm es.toList:=by
 obtain⟨owner,f1,O⟩:=DX (Hf:=λi=>(es[i]?.map (·.1)).getD 0) hp (es.map (·.1)).toList 0 _ (Lf mask _) (λi hi=>by
  have NJ:i<es.size:=by simpa using hi
  simp[NJ]) (by simpa using hl)
 rw[aaA,Yi,Array.size_map] at f1 O;have lc:layClean mask (es.map (·.1))=some owner:=by
  unfold layClean;rw[←Array.foldl_toList];show ((es.map (·.1)).toList.foldl (Le mask) (some (Array.replicate (mask+1) none,0))).map (·.1)=some owner;rw[f1];rfl
 let live:=(YS (mask+1)).filterMap λj=>(owner.getD j none).map (j,·)
 have gd:∀j i,owner.getD j none=some i↔owner[j]? = some (some i):=λj i=>by
  by_cases h:j<owner.size
  ·simp[aca,h]
  ·simp[aca,h]
 have ml:∀j i,(j,i)∈live↔owner[j]? = some (some i):=λj i=>by
  show (j,i)∈List.filterMap _ _↔_;rw[acT];constructor
  ·rintro⟨a,_,h⟩;cases e:owner.getD a none with
   |none=>rw[e] at h;cases h
   |some x=>rw[e] at h;cases h;exact (gd _ _).mp e
  ·intro h;refine⟨j,Zi.mpr ?_,by rw[(gd j i).mpr h];rfl⟩;have:=(Zt.mp h).1;rw[O.sz] at this;exact this
 have pw:live.Pairwise (λa b=>a.1<b.1/\a.2≠b.2):=by
  show List.Pairwise _ (List.filterMap _ _);rw[List.pairwise_filterMap];refine List.pairwise_lt_range.imp λ{a b} BA x hx y hy=>?_;cases e:owner.getD a none with
  |none=>rw[e] at hx;cases hx
  |some i=>cases e':owner.getD b none with
   |none=>rw[e'] at hy;cases hy
   |some i'=>
    rw[e] at hx;rw[e'] at hy;cases hx;cases hy;refine⟨BA,λz=>?_⟩;dsimp only at z;subst z;have:=O.un _ _ _ ((gd _ _).mp e) ((gd _ _).mp e');lia
 have VY:(live.map (·.2)).Perm (YS es.size):=by
  have nd:(live.map (·.2)).Nodup:=by
   unfold ads;rw[Z9];exact pw.imp λh=>h.2
  exact (abp nd acq).mpr λi=>by
   rw[Yz,Zi];constructor
   ·rintro⟨⟨j,i'⟩,h,rfl⟩;exact O.ix j i' ((ml j i').mp h)
   ·intro h;obtain⟨j,e⟩:=O.ex i h;exact⟨(j,i),(ml j i).mpr e,rfl⟩
 have len:live.length=es.size:=by
  have:=VY.length_eq
  rwa [X8,Zh] at this
 have WU:∀x∈live,∃y,es[x.2]? = some y:=λx hx=>by
  have:=O.ix x.1 x.2 ((ml x.1 x.2).mp hx);exact⟨es[x.2],YW this⟩
 have SE:∀x∈live.map (·.2),∃y,es[x]? = some y:=λx hx=>by
  obtain⟨z,hz,rfl⟩:=Yz.mp hx;exact WU z hz
 have UZ:((live.map (·.2)).toArray.filterMap (es[·]?)).toList=(live.map (·.2)).filterMap (es[·]?):=by simp
 have VZ:∀n:Nat,((live.map (·.2)).toArray.filterMap (es[·]?))[n]? = (live[n]?).bind λx=>es[x.2]? := λn=>by
  rw[←YJ,UZ,kW SE,YL];cases live[n]? <;> rfl
 have U0:∀n:Nat,(live.map (·.1)).toArray[n]? = (live[n]?).map (·.1):=λn=>by
  rw[←YJ];simp
 let C:Nat->Option (Int×V):=λj=>(owner.getD j none).bind (es[·]?)
 have hC:∀j e,C j=some e↔∃i,owner[j]? = some (some i)/\es[i]? = some e:=λj e=>by
  show (owner.getD j none).bind _=some e↔_;cases q:owner.getD j none with
  |none=>
   refine⟨λh=>(by cases h),fun⟨i,h,_⟩=>?_⟩;rw[(gd j i).mpr h] at q;cases q
  |some i=>
   constructor
   ·intro h;exact⟨i,(gd j i).mp q,h⟩
   ·rintro⟨i',h,h2⟩;rw[(gd j i').mpr h] at q;cases q;exact h2
 have Kb:((live.map (·.2)).toArray.filterMap (es[·]?)).size=es.size:=by
  rw[←Yi,UZ,oh SE,X8,len]
 refine⟨{mask,place:=(live.map (·.1)).toArray,dummies:=#[],finger,led,moves,plain},(live.map (·.2)).toArray,C,?_,⟨?_,?_,rfl,hp,?_,?_,?_⟩,?_,Kb,rfl,rfl,rfl,rfl,rfl,?_⟩
 ·unfold laid;rw[lc];rfl
 ·intro i j hi hj lt;have g:=pw;rw[aaU] at g;have Gj:i<live.length:=by simpa using hi
  have WV:j<live.length:=by simpa using hj
  have:=(g i j Gj WV lt).1;simpa using this
 ·show ((live.map (·.1)).toArray).size=_;rw[Kb];simp[len]
 ·rw[Kb];exact hl
 ·intro i j h;have h:(live.map (·.1)).toArray[i]? = some j:=h;rw[U0] at h;cases e:live[i]? with
  |none=>rw[e] at h;cases h
  |some x=>
   rw[e] at h;cases h;have:=(Zt.mp ((ml x.1 x.2).mp (Y6 e))).1;rw[O.sz] at this;exact aaD this
 ·intro j e;show C j=some e↔∃i:Nat,(live.map (·.1)).toArray[i]? = some j/\_;rw[hC];constructor
  ·rintro⟨i,h1,h2⟩;obtain⟨n,hn⟩:=List.mem_iff_getElem?.mp ((ml j i).mpr h1);exact⟨n,by rw[U0,hn];rfl,by rw[VZ,hn];exact h2⟩
  ·rintro⟨n,h1,h2⟩;rw[U0] at h1;rw[VZ] at h2;cases q:live[n]? with
   |none=>rw[q] at h1;cases h1
   |some x=>
    rw[q] at h1 h2;cases h1;exact⟨x.2,(ml x.1 x.2).mp (Y6 q),h2⟩
 ·intro j e h;obtain⟨i,h1,h2⟩:=(hC j e).mp h;obtain⟨n,g1,g2⟩:=O.pt j i h1;have hf:(es[i]?.map (·.1)).getD 0=e.1:=by rw[h2];rfl
  rw[hf] at g1 g2;refine⟨n,g1,λm hm=>?_⟩;obtain⟨i',h3⟩:=g2 m hm;have:=O.ix _ _ h3;exact⟨es[i'],(hC _ _).mpr ⟨i',h3,YW this⟩⟩
 ·rw[UZ];refine (VY.filterMap _).trans ?_;have e:(YS es.size).filterMap (es[·]?)=es.toList:=by
   refine adj λn=>?_;rw[kW (λx hx=>⟨es[x]'(Zi.mp hx),YW (Zi.mp hx)⟩)];by_cases h:n<es.size
   ·rw[aa4 h];simp
   ·rw[Z2.mpr (by simpa using h),Z2.mpr (by simpa using h)];rfl
  rw[e]
end Hc.Sx
namespace Hc.Sx
open PySem.SetTable
theorem Ac:∀(cy size n:Nat),(∃p,size=2 ^ p)->8<=size->(size<=8\/size<=2*n)->n<size*2 ^ cy->(∃p,sizeAbove.go n cy size=2 ^ p)/\n<sizeAbove.go n cy size/\8<=sizeAbove.go n cy size/\(sizeAbove.go n cy size<=8\/sizeAbove.go n cy size<=2*n)
 |0,size,n,hp,h8,hb,hn=>by
  unfold sizeAbove.go;exact⟨hp,by simpa using hn,h8,hb⟩
 |cy+1,size,n,⟨p,hp⟩,h8,hb,hn=>by
  unfold sizeAbove.go;by_cases c:size<=n
  ·rw[hV c];exact Ac cy (size*2) n ⟨p+1,by rw[hp,aaB]⟩ (by lia) (.inr (by lia)) (by rw[aaB,aar (2 ^ cy) 2,←aac] at hn;exact hn)
  ·rw[hU c];exact⟨⟨p,hp⟩,by lia,h8,hb⟩
def Hw (h:n<2 ^ 60):(∃p,sizeAbove n=2 ^ p)/\n<sizeAbove n/\8<=sizeAbove n/\(sizeAbove n<=8\/sizeAbove n<=2*n):=
 Ac 64 8 n ⟨3,rfl⟩ (Yl _) (.inl (Yl _)) (Nat.lt_trans h (by decide))
structure rM {prog:aa9}{w:abc}{K:Type}[DecidableEq K](knd:ach prog w K):Prop where
 cls:∀{A:Zk} {E:Yj->Yv->Prop} {s:Yv} {k:K} {a:YG} {Q:Bool->Yv->Prop},knd.is s.heap k a->Q false s->YE (YQ prog w) A (ofAClassStatement 8 (.ref a)) Q E s
 byv:∀{A:Zk} {E:Yj->Yv->Prop} {s:Yv} {k:K} {a:YG} {Q:Bool->Yv->Prop},knd.is s.heap k a->Q true s->YE (YQ prog w) A (hashByValue 8 (.ref a)) Q E s
 kept:∀{h h':aaX} {k:K} {a d:YG} {o:Obj} {es:Array (Int×Yj)} {ep:Nat} {t:abx},knd.is h k a->h.get? d=some o->o.data=.set es ep t->abd d h h'->knd.is h' k a
section
variable {K:Type}[DecidableEq K]{knd:ach prog w K}
noncomputable def S6 (knd:ach prog w K)(x:K×YG):Int×Yj:=(knd.hash x.1,.ref x.2)
structure HS (knd:ach prog w K)(h:aaX)(xs:List (K×YG))(es:Array (Int×Yj))(t:abx)(C:Nat->Option (Int×Yj)):Prop where
 tab:DR t es C
 pth:Mj t.mask (abO t.mask) C
 pl:t.plain=true
 lo:7<=t.mask
 hi:t.mask<=8191
 few:es.size*5<t.mask*3
 per:es.toList.Perm (xs.map (S6 knd))
 keys:∀x∈xs,knd.is h x.1 x.2
 nd:(xs.map (·.1)).Nodup
def oI (knd:ach prog w K)(byText:Bool)(h:aaX)(a:YG)(xs:List (K×YG)):Prop:=
 ∃o es ep t C,h.get? a=some o/\o.ExactSet/\o.data=.set es ep t/\HS knd h xs es t C/\(byText=true\/t.led=true)
variable {A:Zk}
def HS.fits {xs:List (K×YG)}(S:HS knd h xs es t C):t.fits es.size=true:=by
 unfold SetTable.fits SetTable.fill;rw[S.tab.sz,S.tab.dum];simp;exact S.tab.room
theorem HS.stays {xs:List (K×YG)}(S:HS knd h xs es t C):t.gaveWay=false:=by
 unfold SetTable.gaveWay;obtain⟨p,hp⟩:=S.tab.pow;have:=S.lo;cases p with
 |zero=>simp at hp;lia
 |succ p=>rw[aaB] at hp;simp;lia
theorem HS.entry {xs:List (K×YG)}(S:HS knd h xs es t C){e:Int×Yj}(he:e∈es.toList):∃k b,(k,b)∈xs/\e=(knd.hash k,.ref b)/\knd.is h k b:=by
 obtain⟨⟨k,b⟩,hx,rfl⟩:=Yz.mp (S.per.mem_iff.mp he);exact⟨k,b,hx,rfl,S.keys _ hx⟩
theorem HS.at {xs:List (K×YG)}(S:HS knd h xs es t C){e:Int×Yj}(hc:C j=some e):∃k b,(k,b)∈xs/\e=(knd.hash k,.ref b)/\knd.is h k b:=by
 obtain⟨i,_,h2⟩:=(S.tab.con j e).mp hc;exact S.entry (by have:=Array.mem_of_getElem? h2;simpa using this)
theorem HS.has {xs:List (K×YG)}(S:HS knd h xs es t C){k:K}(hx:(k,b)∈xs):∃j,C j=some (knd.hash k,.ref b):=by
 have:S6 knd (k,b)∈es.toList:=S.per.mem_iff.mpr (Yz.mpr ⟨_,hx,rfl⟩);obtain⟨i,hi⟩:=List.mem_iff_getElem?.mp this;rw[YJ] at hi;have h2:i<t.place.size:=by rw[S.tab.sz];exact (Zt.mp hi).1
 exact⟨t.place[i],(S.tab.con _ _).mpr ⟨i,YW h2,hi⟩⟩
theorem Fz (sk:rM knd){k:K}(hk:knd.is s.heap k b){Q:Bool->Yv->Prop}(l:List Yj)(hl:∀y∈l,∃k' b',y=.ref b'/\knd.is s.heap k' b')(h:Q false s):YE (YQ prog w) A (searchCouldBeSeen (.ref b) l) Q E s:=by
 unfold searchCouldBeSeen;refine X6 ?_;refine wpAny_forIn_list _ (λrest r s'=>r.1=none/\s'=s/\∀y∈rest,∃k' b',y=.ref b'/\knd.is s.heap k' b') _ ?_ ?_ _ _ ⟨rfl,rfl,hl⟩
 ·rintro y rest r s' ⟨hr,rfl,hy⟩;obtain⟨k',b',rfl,NK⟩:=hy y Yb;have next:∀z∈rest,∃k' b',z=Value.ref b'/\knd.is s'.heap k' b':=λz hz=>hy z (Ya _ hz)
  dsimp only;split
  ·exact Yg ⟨rfl,rfl,next⟩
  ·refine X6 (knd.quiet hk ?_);simp only[Ze,Yn,if_false];refine X6 (knd.quiet NK ?_);simp only[Ze,Yn,if_false];refine X6 (sk.cls hk ?_);simp only[Yn,if_false];refine X6 (sk.cls NK ?_);simp only[Yn,if_false];exact Yg ⟨rfl,rfl,next⟩
 ·rintro⟨r1,r2⟩ s' ⟨hr,rfl,_⟩;simp only at hr;subst hr;exact Yg h
end
end Hc.Sx
namespace Hc.Sx
open PySem.SetTable
section
variable {K:Type}[DecidableEq K]{knd:ach prog w K}{A:Zk}
variable {o:Obj}{xs:List (K×YG)}{k:K}
noncomputable abbrev DY (t:abx)(h:Int)(n:Nat):Nat:=(advs t.mask n (abO t.mask h)).j
theorem rN (sk:rM knd)(hr:knd.room A)(hk:knd.is s.heap k b)(ho:s.heap.get? a=some o)(hd:o.data=.set es ep t)(S:HS knd s.heap xs es t C){Q:SetFound->Yv->Prop}{N:Nat}(hN:C (DY t (knd.hash k) N)=none)
  (zd:k∈xs.map (·.1)->Q (.there none) s)
  (vL:k∉xs.map (·.1)->∀n,(∀m,m<n->∃e,C (DY t (knd.hash k) m)=some e)->C (DY t (knd.hash k) n)=none->Q (.free (DY t (knd.hash k) n) false) s) :
  ∀(cy n:Nat) (stand:Option Probe),stand.getD (t.probeStart (knd.hash k))=advs t.mask n (abO t.mask (knd.hash k))->N<n+cy->(∀m,m<n->∃k' b',C (DY t (knd.hash k) m)=some (knd.hash k',.ref b')/\(k',b')∈xs/\k'≠k)->
   YE (YQ prog w) A (setSearchFrom a (.ref b) (knd.hash k) true cy stand) Q E s
 |0,n,stand,hs,hf,hb=>by
  obtain⟨k',b',e,_⟩:=hb N (by lia);rw[e] at hN;cases hN
 |cy+1,n,stand,hs,hf,hb=>by
  unfold setSearchFrom;refine X6 (ZK ho hd S.fits ?_);dsimp only;rw[S.stays];simp only[Yn,if_false];obtain⟨m',g1,g2⟩:=Cf S.tab (hashAt:=λi=>(es[i]?.map (·.1)).getD 0) (λi e h=>by show (es[i]?.map (·.1)).getD 0=e.1;rw[h];rfl) (knd.hash k) (mQ.advs n (mQ.start t (knd.hash k)));have pa:∀x,(advs t.mask x (advs t.mask n (t.probeStart (knd.hash k)))).j=DY t (knd.hash k) (n+x):=λx=>by rw[←jM];rfl
  have Tn:∀m,m<n+m'->∃k' b',C (DY t (knd.hash k) m)=some (knd.hash k',.ref b')/\(k',b')∈xs/\k'≠k:=λm hm=>by
   rcases aaO m n with z|z
   ·exact hb m z
   ·obtain⟨e,h1,h2⟩:=g1 (m-n) (by lia);rw[pa,show n+(m-n)=m by lia] at h1;obtain⟨k',b',hx,rfl,_⟩:=S.at h1;exact⟨k',b',h1,hx,λz=>h2 (by rw[z])⟩
  have pe:t.probe (λi=>(es[i]?.map (·.1)).getD 0) (knd.hash k) (stand.getD (t.probeStart (knd.hash k)))=t.probe (λi=>(es[i]?.map (·.1)).getD 0) (knd.hash k) (advs t.mask n (t.probeStart (knd.hash k))):=by rw[hs];rfl
  rcases g2 with⟨c1,c2⟩|⟨e,i,c1,c2,c3,c4,c5⟩
  ·
   have U1:=pe.trans c2;rw[pa] at c1 U1;have nx:k∉xs.map (·.1):=λhm=>by
    obtain⟨⟨k0,b0⟩,hx,rfl⟩:=Yz.mp hm;obtain⟨j,hj⟩:=S.has hx;obtain⟨m,hm,hmj⟩:=S.pth.met c1 hj rfl;obtain⟨k',b',h1,h2,h3⟩:=Tn m hm;have h1:C j=some (knd.hash k',.ref b'):=by rw[←hmj];exact h1
    rw[hj] at h1;have eb:b0=b':=by
     have:=(Prod.mk.inj (YF h1)).2;injection this
    subst eb;exact h3 (knd.inj (S.keys _ h2) (S.keys _ hx))
   have fin:=vL nx (n+m') (λm hm=>let ⟨k',b',h1,_⟩:=Tn m hm;⟨_,h1⟩) c1;split
   ·rename_i met hq;have e:=(hq.symm.trans U1);cases e;exact Yg fin
   ·rename_i hq;exact absurd U1 (by intro z;exact hq _ z)
  ·
   have P6:=pe.trans c5;rw[pa] at c1 c4 P6;rw[←jM] at P6;obtain⟨k',b',hx,rfl,NK⟩:=S.at c1;have lN:n+m'<N:=by
    rcases acb N (n+m') with z|z|z
    ·obtain⟨_,_,e,_⟩:=Tn N z;rw[e] at hN;cases hN
    ·rw[z,c1] at hN;cases hN
    ·exact z
   have body:∀R:Sem SetFound,R=(do
     let some (_,y):=es[i]? | abF "internal:set-entry"
     let equal ←holding [y] (eqBool y (.ref b))
     let (JY,_,t') ←setState a
     if true&&equal then return .there none
     let some same:=t'.sameMemory t.moves t.mask|abF "set.changed-during-lookup:is-the-new-block-at-the-old-address"
     let E8 ←match (if same then t'.slot (DY t (knd.hash k) (n+m')) else .empty) with
      | .live i'=>match JY[i']? with
       |some (_,y')=>do pure (if ←isSame y' y then some i' else none)
       |none=>pure none
      |_=>pure none
     match E8 with
     |none=>rule "set.search.anew";setSearchFrom a (.ref b) (knd.hash k) true cy none
     |some i'=>if equal then return .there (some i') else setSearchFrom a (.ref b) (knd.hash k) true cy (some (advs t.mask (n+(m'+1)) (t.probeStart (knd.hash k)))))->YE (YQ prog w) A R Q E s:=λR hR=>by
    subst hR;rw[c3];dsimp only;refine X6 (Z6 (knd.eqBool hr NK hk ?_));refine X6 (ZK ho hd S.fits ?_);dsimp only;by_cases q:k'=k
    ·rw[hG q];simp only[Bool.and_self,if_true];subst q;exact Yg (zd (Yz.mpr ⟨_,hx,rfl⟩))
    ·rw[hJ q];simp only[Zy,Yn,if_false];have sm:t.sameMemory t.moves t.mask=some true:=by unfold SetTable.sameMemory;simp
     rw[sm];dsimp only;obtain⟨i2,l1,l2,l3⟩:=S.tab.live c1;rw[l1];simp only[if_true];rw[l2];dsimp only;refine X6 (wpAny_isSame_ref_self ?_);simp only[if_true];refine X6 (Yg ?_);dsimp only;refine rN sk hr hk ho hd S hN zd vL cy (n+(m'+1)) _ rfl (by lia) λm hm=>?_;rcases aaO m (n+m') with z|z
     ·exact Tn m z
     ·have:m=n+m':=by lia
      subst this;exact⟨k',b',c1,hx,q⟩
   split
   ·rename_i met hq;have e:=(hq.symm.trans P6);cases e;dsimp only;split
    ·refine X6 (Fz sk hk _ (λy hy=>?_) ?_)
     ·obtain⟨e,he,rfl⟩:=Yz.mp hy;have he:e∈es.toList:=by
       have:e∈(es.filter λx=>x.1==knd.hash k):=by simpa using he
       have:=(Array.mem_filter.mp this).1;simpa using this
      obtain⟨k2,b2,_,rfl,h2⟩:=S.entry he;exact⟨k2,b2,rfl,h2⟩
     ·simp only[Yn,if_false];exact body _ rfl
    ·exact body _ rfl
   ·rename_i hq;exact absurd P6 (by intro z;exact hq _ z)
theorem FA (sk:rM knd)(hr:knd.room A)(hk:knd.is s.heap k b)(ho:s.heap.get? a=some o)(hd:o.data=.set es ep t)(S:HS knd s.heap xs es t C){Q:SetFound->Yv->Prop}
  (zd:k∈xs.map (·.1)->Q (.there none) s)
  (vL:k∉xs.map (·.1)->∀n,(∀m,m<n->∃e,C (DY t (knd.hash k) m)=some e)->C (DY t (knd.hash k) n)=none->Q (.free (DY t (knd.hash k) n) false) s) :
  YE (YQ prog w) A (setSearch a (.ref b) (knd.hash k) true) Q E s:=by
 obtain⟨y,hy,hc⟩:=S.tab.free;obtain⟨p,hp⟩:=S.tab.pow;obtain⟨N,h1,h2⟩:=xh hp (mQ.start t (knd.hash k)) hy;unfold setSearch;refine rN sk hr hk ho hd S (N:=N) (by show C (advs t.mask N (t.probeStart (knd.hash k))).j=none;rw[h2];exact hc) zd vL 100000 0 none rfl ?_ λm hm=>by lia
 have:=S.hi;unfold turns at h1;lia
end
end Hc.Sx
namespace Hc.Sx
open PySem.SetTable
def oj {α:Type}(xs:Array α)(p:Nat)(x:α):(insertAt xs p x).toList.Perm (xs.toList++[x]):=by
 rw[kT];have h:(x::xs.toList.drop p).Perm (xs.toList.drop p++[x]):=(List.perm_append_singleton x _).symm;refine (Zz _ h).trans ?_;rw[←YB,Y_]
section
variable {K:Type}[DecidableEq K]{knd:ach prog w K}{A:Zk}
variable {o:Obj}{xs:List (K×YG)}{k:K}{byText:Bool}
noncomputable def om (xs:List (K×YG))(k:K)(b:YG):List (K×YG):=if k∈xs.map (·.1) then xs else xs++[(k,b)]
def Hx (ho:h.get? a=some o)(hd:o.data=.set es ep t)(JY:Array (Int×Yj))(t':abx) :
  (h.update a (adk JY t')).get? a=some {o with data:=.set JY (ep+1) t'}:=by
 have:=aaM (adk JY t') ho (by rw[putSet_of JY t' hd];rfl);rw[putSet_of JY t' hd] at this;exact this
theorem Hy {h:aaX}(sk:rM knd)(ho:s.heap.get? a=some o)(J_:o.ExactSet)(hd:o.data=.set es ep t)(tab:DR t es C)(pl:t.plain=true)(per:es.toList.Perm (xs.map (S6 knd)))(keys:∀x∈xs,knd.is s.heap x.1 x.2)(nd:(xs.map (·.1)).Nodup)(led:byText=true\/t.led=true)(hn:es.size=n)(XT:1<=n)(V0:n<=2047){Q:Unit->Yv->Prop}(q:∀h',abd a s.heap h'->oI knd byText h' a xs->Q () {s with heap:=h'}) :
  YE (YQ prog w) A (setRelay a (grown n)) Q E s:=by
 have hw:grown n=n*4:=by unfold grown;rw[hU (by lia)]
 have ab:=Hw (n:=grown n) (by rw[hw];exact abR (show n*4<=8192 by lia) (by decide));have sz:Yf=16777216:=rfl;generalize eS:sizeAbove (grown n)=sA at ab;obtain⟨⟨p,hp⟩,a1,a2,a3⟩:=ab;have m1:sA-1+1=2 ^ p:=by lia
 have m8:sA<=8192:=by
  have XU:p<14:=by
   refine aan λz=>?_;have XW:(2:Nat) ^ 14<=2 ^ p:=abr (by decide) (by lia);rw[hw] at a3;lia
  have XX:(2:Nat) ^ p<=2 ^ 13:=abr (by decide) (by lia);lia
 have WW:t.fits es.size=true:=by
  unfold SetTable.fits SetTable.fill;rw[tab.sz,tab.dum];simp;exact tab.room
 obtain⟨t',order,C',h1,T',P',hsz,e1,e2,e3,e4,e5,hall⟩:=pS (mask:=sA-1) (finger:=t.finger) (moves:=t.movedTo (sA-1)) (led:=t.led) (plain:=t.plain) (es:=es) ⟨p,m1⟩ (by rw[hw] at a1;lia);unfold setRelay;refine X6 (ZK ho hd WW ?_);dsimp only;rw[eS,hU (by rw[hw] at a3;lia)];have hr:t.relaid (es.map (·.1)) (grown n)=some (t',order):=by unfold SetTable.relaid;rw[eS];exact h1
 have Kb:(order.filterMap (es[·]?)).size<=Yf:=by rw[hsz,hn];lia
 have NL:¬(((order.filterMap (es[·]?)).size != es.size)=true):=by rw[hsz];simp
 refine X6 (acF (a:=(order.filterMap (es[·]?),t')) (by rw[hr];exact hU NL) ?_);refine wpAny_storeSet_of ho hd ?_ Kb;have P7:=aal s.heap a (adk (order.filterMap (es[·]?)) t');refine q _ P7 ⟨_,_,_,t',C',Hx ho hd _ _,J_,rfl,⟨T',by rw[e1];exact P',by rw[e5];exact pl,by rw[e1];lia,by rw[e1];rw[hw] at a3;lia,by rw[hsz,e1,hn];rw[hw] at a1;lia,?_,λx hx=>sk.kept (keys x hx) ho hd P7,nd⟩,led.imp id λz=>by rw[e4];exact z⟩;exact hall.trans per
end
end Hc.Sx
namespace Hc.Sx
open PySem.SetTable
section
variable {K:Type}[DecidableEq K]{knd:ach prog w K}{A:Zk}
variable {xs:List (K×YG)}{k:K}{byText:Bool}
def Cg (b:YG)(es:Array (Int×Yj)):byScan (.ref b) es=false:=by unfold byScan Value.scannable;simp
theorem OP (sk:rM knd)(hr:knd.room A)(hk:knd.is s.heap k b)(hS:oI knd byText s.heap a xs)(hl:xs.length+1<=2047){Q:Bool->Yv->Prop}
  (q:∀h' r,abd a s.heap h'->oI knd byText h' a (om xs k b)->Q r {s with heap:=h'}):YE (YQ prog w) A (setAddHashed a (.ref b) (knd.hash k)) Q E s:=by
 obtain⟨o,es,ep,t,C,ho,J_,hd,S,led⟩:=hS;have Qr:es.size=xs.length:=by have:=S.per.length_eq;simpa using this
 unfold setAddHashed setAddHashedIn;refine Z6 (X6 (ZK ho hd S.fits ?_));dsimp only;rw[Cg];simp only[Yn,if_false];refine X6 (FA sk hr hk ho hd S (λzc=>?_) λSF n hb hc=>?_)
 ·dsimp only;refine Yg ?_;have e:s={s with heap:=s.heap}:=by cases s;rfl
  rw[e];exact q s.heap false (Heap.SameBut.refl a s.heap) (by unfold om;rw[hV zc];exact⟨o,es,ep,t,C,ho,J_,hd,S,led⟩)
 ·dsimp only;refine X6 (ZK ho hd S.fits ?_);dsimp only;have few:=S.few;have lo:=S.lo;have jm:DY t (knd.hash k) n<=t.mask:=by
   obtain⟨p,hp⟩:=S.tab.pow;have:∀n,(advs t.mask n (abO t.mask (knd.hash k))).j+(advs t.mask n (abO t.mask (knd.hash k))).more<=t.mask:=by
    intro n
    induction n with
    |zero=>
     show bits (knd.hash k) % (t.mask+1)+(runEnd t.mask (bits (knd.hash k) % (t.mask+1))-bits (knd.hash k) % (t.mask+1))<=t.mask;have:bits (knd.hash k) % (t.mask+1)<t.mask+1:=abo _ (abi _);unfold runEnd;split<;>lia
    |succ n ih=>
     rw[xg];unfold adv;split
     ·dsimp only;lia
     ·dsimp only;have:(leap t.mask (advs t.mask n (abO t.mask (knd.hash k))).i (advs t.mask n (abO t.mask (knd.hash k))).perturb).1<t.mask+1:=abo _ (abi _);unfold runEnd;split<;>lia
   have:=this n;show (advs t.mask n (abO t.mask (knd.hash k))).j<=t.mask;lia
  obtain⟨T1,p1,p2,p3,p4,p5⟩:=S.tab.put (e:=(knd.hash k,Value.ref b)) jm hc (by lia);have P1:=Mj.up S.pth (e:=(knd.hash k,Value.ref b)) hb hc;generalize et:(t.put (DY t (knd.hash k) n)).1=t1 at *;generalize ei:(t.put (DY t (knd.hash k) n)).2=ip at *;have Kb:(insertAt es ip (knd.hash k,Value.ref b)).size=es.size+1:=by
   have:=(oj es ip (knd.hash k,Value.ref b)).length_eq;simpa using this
  rw[hV (by rw[p2];exact S.pl)];refine X6 (sk.byv hk ?_);simp only[if_true];have sl:Yf=16777216:=rfl;refine X6 (wpAny_storeSet_of ho hd ?_ (by rw[Kb];lia));have P7:=aal s.heap a (adk (insertAt es ip (knd.hash k,Value.ref b)) t1);have SG:=Hx ho hd (insertAt es ip (knd.hash k,Value.ref b)) t1;have V1:om xs k b=xs++[(k,b)]:=by unfold om;rw[hU SF]
  have SH:(insertAt es ip (knd.hash k,Value.ref b)).toList.Perm ((xs++[(k,b)]).map (S6 knd)):=by
   rw[YT];exact (oj _ _ _).trans (ZL _ S.per)
  have NM:∀x∈xs++[(k,b)],knd.is (s.heap.update a (adk (insertAt es ip (knd.hash k,Value.ref b)) t1)) x.1 x.2:=λx hx=>by
   rcases Yx.mp hx with z|z
   ·exact sk.kept (S.keys x z) ho hd P7
   ·rw[Yw.mp z];exact sk.kept hk ho hd P7
  have V2:((xs++[(k,b)]).map (·.1)).Nodup:=by
   rw[YT,acd];exact⟨S.nd,by simp,λx hx y hy e=>by
    simp at hy;subst e hy;exact SF hx⟩
  have SJ:byText=true\/t1.led=true:=led.imp id λz=>by rw[p3];exact z
  have SK:t1.fill=es.size+1:=by
   unfold SetTable.fill;rw[T1.sz,T1.dum,Kb];rfl
  cases tf:t1.tooFull with
  |false=>
   simp only[YX,Zy,Yn,if_false];refine Yg (q _ true P7 ?_);rw[V1];refine⟨_,_,_,t1,_,SG,J_,rfl,⟨T1,by rw[p1];exact P1,by rw[p2];exact S.pl,by rw[p1];exact lo,by rw[p1];exact S.hi,?_,SH,NM,V2⟩,SJ⟩;unfold SetTable.tooFull at tf;rw[SK] at tf;rw[Kb];simpa using tf
  |true=>
   simp only[YX,Bool.and_self,if_true];refine X6 (Hy (h:=s.heap) (s:={s with heap:=s.heap.update a (adk (insertAt es ip (knd.hash k,Value.ref b)) t1)}) sk SG J_ rfl T1 (by rw[p2];exact S.pl) SH NM V2 SJ Kb (by lia) (by lia) λh' U2 H'=>?_);refine Yg (q h' true (P7.trans U2) ?_);rw[V1];exact H'
theorem Hz {led:Bool}(hl:byText=true\/led=true)(hg:h.get? a=some {cls:=.type "set",dict:=none,data:=.set #[] 0 (.fresh 0 0 led)}):oI knd byText h a []:=by
 refine⟨_,#[],0,.fresh 0 0 led,λ_=>none,hg,⟨rfl,rfl,rfl⟩,rfl,⟨⟨λi j hi=>absurd hi (Nat.not_lt_zero _),rfl,rfl,⟨3,rfl⟩,aak _,λi j h=>?_,λj e=>⟨λh=>(by cases h),fun⟨i,h,_⟩=>?_⟩⟩,λj e h=>(by cases h),rfl,Yl _,(show (7:Nat)<=8191 by decide),(show 0*5<7*3 by decide),Z3 _,λx hx=>(by cases hx),ac6⟩,hl⟩
 ·have h:(#[]:Array Nat)[i]? = some j:=h;simp at h
 ·have h:(#[]:Array Nat)[i]? = some j:=h;simp at h
end
end Hc.Sx
namespace Hc.Sx
open PySem.SetTable
section
variable {K:Type}[DecidableEq K]{knd:ach prog w K}{A:Zk}
variable {xs:List (K×YG)}{k:K}{byText:Bool}
theorem oI.keep (H:oI knd byText h a xs)(e:∀o,h.get? a=some o->h'.get? a=some o)(hk:∀x∈xs,knd.is h' x.1 x.2):oI knd byText h' a xs:=by
 obtain⟨o,es,ep,t,C,ho,J_,hd,S,led⟩:=H;exact⟨o,es,ep,t,C,e o ho,J_,hd,⟨S.tab,S.pth,S.pl,S.lo,S.hi,S.few,S.per,hk,S.nd⟩,led⟩
theorem oI.setAt (H:oI knd byText h a xs):∃o es ep t,h.get? a=some o/\o.data=.set es ep t:=by
 obtain⟨o,es,ep,t,C,ho,J_,hd,S,led⟩:=H;exact⟨o,es,ep,t,ho,hd⟩
noncomputable def fz (val:Nat->K×YG):Nat->List (K×YG)
 |0=>[]
 |i+1=>om (fz val i) (val i).1 (val i).2
theorem Ad (val:Nat->K×YG){i:Nat}:∀{n:Nat},i<=n->(fz val i).length<=(fz val n).length
 |0,h=>by rw[Nat.le_zero.mp h];exact Yl _
 |n+1,h=>by
  by_cases e:i=n+1
  ·rw[e];exact Yl _
  ·refine Zj (Ad val (n:=n) (by lia)) ?_;show (fz val n).length<=(om _ _ _).length;unfold om;split
   ·exact Yl _
   ·rw[Yc];lia
theorem nC (val:Nat->K×YG):∀(i:Nat) (x:K×YG),x∈fz val i->∃j,j<i/\x=val j
 |0,x,h=>by cases h
 |i+1,x,h=>by
  unfold fz om at h;split at h
  ·obtain⟨j,h1,h2⟩:=nC val i x h;exact⟨j,by lia,h2⟩
  ·rcases Yx.mp h with z|z
   ·obtain⟨j,h1,h2⟩:=nC val i x z;exact⟨j,by lia,h2⟩
   ·exact⟨i,by lia,Yw.mp z⟩
variable {R:Result->Yv->Prop}{I:YG}{wr:List YG}{G:Array GenState->Array GenState->Prop}{P:Nat->Yj->Prop}{St:Nat->Yv->Prop}
theorem FC (sk:rM knd)(hr:knd.room A.in1)(W:WalksS prog w A.in1 I fp wr G n P St)(S:YG)(V3:S∉fp)(val:Nat->K×YG)(U3:∀i v,P i v->v=.ref (val i).2)(hn:(fz val n).length+1<=2047)
  (mv:∀i (s s':Yv),i<=n->St i s->Moved wr G s s'->(∀j,j<n->knd.is s.heap (val j).1 (val j).2)->∀j,j<n->knd.is s'.heap (val j).1 (val j).2) :
  ∀(d i:Nat) (s:Yv),n-i=d->i<=n->St i s->(∀j,j<n->knd.is s.heap (val j).1 (val j).2)->oI knd byText s.heap S (fz val i)->
   (∀s',Moved (S::wr) G s s'->(∀j,j<n->knd.is s'.heap (val j).1 (val j).2)->oI knd byText s'.heap S (fz val n)->R (.ok (.ret .none)) s')->
   codeAny (YQ prog w) A (.builtin "set.update.loop" ⟨[.ref S,.ref I],[]⟩) R s:=by
 have nS:S∉wr:=λh=>V3 (W.sub _ h);have up:∀b∈wr,b∈S::wr:=λb hb=>Ya _ hb;have E8:∀i (s s':Yv),i<=n->St i s->Moved wr G s s'->(∀j,j<n->knd.is s.heap (val j).1 (val j).2)->oI knd byText s.heap S (fz val i)->oI knd byText s'.heap S (fz val i):=λi s s' hi st m hk H=>
  H.keep (λo e=>m.heap S o nS e) λx hx=>by
   obtain⟨j,h1,rfl⟩:=nC val i x hx;exact mv i s s' hi st m hk j (by lia)
 intro d
 induction d with
 |zero=>
  intro i s hd hi st hk H q;obtain rfl:i=n:=by lia
  refine aaG F.entry_set_update_loop ?_;rw[aae abV _];show YE _ A.in1 (pyNext (Value.ref I) >>= _) _ _ s;refine X6 (W.done s _ _ st λs' m=>?_);exact Yg (q s' (m.mono up) (mv i s s' hi st m hk) (E8 i s s' hi st m hk H))
 |succ d ih=>
  intro i s hd hi st hk H q;have lt:i<n:=by lia
  refine aaG F.entry_set_update_loop ?_;rw[aae abV _];show YE _ A.in1 (pyNext (Value.ref I) >>= _) _ _ s;refine X6 (W.item i s _ _ lt st λv s1 hP De m=>?_);obtain rfl:=U3 i v hP;have H1:=E8 i s s1 hi st m hk H;have Gy:=mv i s s1 hi st m hk;show YE _ A.in1 (holding [Value.ref (val i).2] (setAdd S (Value.ref (val i).2)) >>= _) _ _ s1;refine X6 (Z6 ?_);unfold setAdd;refine Z6 (X6 (knd.pyHash hr (Gy i lt) ?_));refine OP (s:={s1 with toks:=s1.toks+knd.draws (val i).1}) sk hr (Gy i lt) H1 (by have:=Ad val hi;lia) λh' r sb H2=>?_;obtain⟨oS,eS,epS,tS,gS,dS⟩:=H1.setAt;have V4:∀j,j<n->knd.is h' (val j).1 (val j).2:=λj hj=>sk.kept (Gy j hj) gS dS sb;refine Yg ⟨plainId_quiet abV _,ih (i+1) _ (by lia) lt (W.frame _ s1 _ _ De (Z7 _ _) λb hb o e=>?_) V4 H2 λs2 m2 WX H3=>?_⟩
  ·rw[sb.2 b (λz:b=S=>V3 (by rw[←z];exact hb))];exact e
  ·refine q s2 (Moved.trans W.gtrans ((m.mono up).then_heap (Z7 _ _) λb o hb e=>?_) m2) WX H3;rw[sb.2 b (λz:b=S=>hb (by rw[z];exact Yb))];exact e
end
end Hc.Sx
namespace Hc.Sx
open PySem.SetTable
noncomputable abbrev BH (w:abc):Bool:=w.params.followText "set-order"
noncomputable abbrev newS (w:abc):Obj:={cls:=.type "set",dict:=none,data:=.set #[] 0 (.fresh 0 0 (!BH w))}
section
variable {A:Zk}
theorem HA (x:Yj)(q:Q (.ref s.heap.objs.size) {s with heap:=s.heap.push (newS w)}):codeAny (YQ prog w) A (.call (.builtin "set.__new__") ⟨[.type "set",x],[]⟩) (wants Q E) s:=by
 refine codeAny_of_tree ?_;show YE _ A.in1 (do checkBuiltinCall "set.__new__" ⟨[Value.type "set",x],[]⟩;again (.builtin "set.__new__" ⟨[Value.type "set",x],[]⟩)) _ _ s;refine X6 (acF (PySem.F.newCall_set_1 x) (Yg ⟨plainId_quiet PySem.F.plain_set_new _,aaG PySem.F.entry_set_new ?_⟩));rw[aae PySem.F.plain_set_new _];unfold Builtin.«set.__new__» Builtin.Frozenset.newClass;have sb:=sub_set_self;obtain⟨hp,g,d,tk,os⟩:=s;dsimp only;wp_walk;refine aaw (Yg ?_);dsimp only;simp only[newObj];exact X6 (wpAny_alloc (Yg (Yg q)))
theorem set_call {t:YG}(R:Yv->Prop)(fill:YE (YQ prog w) A.in1.in1 (Builtin.«set.__init__» ⟨[.ref s.heap.objs.size,.ref t],[]⟩) (λfin s'=>∃r,fin=.done (.ret r)/\r=.none/\R s') E {s with heap:=s.heap.push (newS w)})(q:∀s',R s'->Q (.ref s.heap.objs.size) s'):YE (YQ prog w) A (call (.type "set") [.ref t]) Q E s:=by
 obtain⟨c0,tl0,mro0⟩:=PySem.F.called_set.mro;have XY:=PySem.F.called_set.made;have XZ:=PySem.F.called_set.sub;have X0:=PySem.F.called_set.notType;have X1:=PySem.F.called_set.canCreate;have X2:=PySem.F.typeCall_set_1 (Value.ref t);refine wpAny_call (codeAny_of_tree ?_);show YE _ _ (callAny (Value.type "set") _) _ _ _;refine Yg ⟨Code.quiet_builtin _ (by decide+kernel),aaG PySem.F.entry_type_call ?_⟩;rw[Around.under_plain (weight_type_call_type "set" [Value.ref t] []) rfl]
 repeat (any_goals first|assumption|wp_step)
 refine acj (HA (Value.ref t) (E:=E) (Q:=λx s1=>x=.ref s.heap.objs.size/\s1={s with heap:=s.heap.push (newS w)}) ⟨rfl,rfl⟩) λr s1 hr=>?_;cases r with
 |error e=>exact hr
 |ok fl=>
  cases fl with
  |ret ob=>
   obtain⟨rfl,rfl⟩:=hr;have gS:(s.heap.push (newS w)).get? s.heap.objs.size=some (newS w):=Ym _ rfl;have tS:Shared.TypeIs {s with heap:=s.heap.push (newS w)} (.ref s.heap.objs.size) "set":=⟨_,gS,rfl⟩;have il:=PySem.F.called_set.init.lookup;have ib:=PySem.F.called_set.init.bind (Value.ref s.heap.objs.size)
   repeat (any_goals first|assumption|wp_step)
   refine acj (codeAny_call_builtin (R:=wants (λr s2=>r=.none/\R s2) E) PySem.F.called_set.init.plain PySem.F.entry_set_init (check_set_init_1 tS ?_)) λr2 s2 jn=>?_
   ·exact ZR fill (λfin s' ⟨r,e,h1,h2⟩=>by subst e;exact⟨h1,h2⟩) (λe s' h=>h)
   ·cases r2 with
    |error e=>exact jn
    |ok f2=>
     cases f2 with
     |ret r=>
      obtain⟨rfl,h2⟩:=jn
      repeat (any_goals first|assumption|wp_step)
      exact q _ h2
     |_=>exact jn.elim
  |_=>exact hr.elim
variable {K:Type}[DecidableEq K]{knd:ach prog w K}
theorem Ae {l:YG}{its:Array Yj}(sk:rM knd)(mono:∀{h h':aaX} {k:K} {a:YG},knd.is h k a->(∀b its,h.IsTuple b its->h'.IsTuple b its)->knd.is h' k a)(hr:knd.room A.in1.in1.in1)(hh:A.handled=none)(hl:s.heap.IsList l its)(val:Nat->K×YG)(hv:∀(i:Nat) (v:Yj),its[i]? = some v->v=.ref (val i).2)(hk:∀j,j<its.size->knd.is s.heap (val j).1 (val j).2)(hb:(fz val its.size).length+1<=2047)(q:∀(h':aaX) (tk:Nat),oI knd (BH w) h' s.heap.objs.size (fz val its.size)->(∀b o,s.heap.get? b=some o->h'.get? b=some o)->Q (.ref s.heap.objs.size) {s with heap:=h',toks:=tk}) :
  YE (YQ prog w) A (call (.type "set") [.ref l]) Q E s:=by
 refine set_call (λs'=>∃h' tk,s'={s with heap:=h',toks:=tk}/\oI knd (BH w) h' s.heap.objs.size (fz val its.size)/\∀b o,s.heap.get? b=some o->h'.get? b=some o) ?_ λs' ⟨h',tk,e,h1,h2⟩=>by subst e;exact q h' tk h1 h2
 obtain⟨ot,gt,ct,nt,dt⟩:=hl;obtain⟨oc,od,oda,os⟩:=ot;simp only at ct dt;subst ct;subst dt;have U4:(s.heap.push (newS w)).get? l=some {cls:=.type "list",dict:=od,data:=.seq its nt,slots:=os}:=X9 _ gt;have gS:(s.heap.push (newS w)).get? s.heap.objs.size=some (newS w):=Ym _ rfl;have n1:=PySem.F.sub_list_set;have n2:=PySem.F.sub_list_frozenset;have n3:(Value.type "list"==Value.type "dict")=false:=by decide
 have SM:(s.heap.push (newS w)).IsList l its:=⟨_,U4,rfl,nt,rfl⟩;unfold Builtin.«set.__init__» noKeywords acv;generalize ePI:pyIter=PI;wp_walk;subst ePI;refine ab5 SM ?_;refine X6 (ac4 ?_);have lt:l<s.heap.objs.size:=Yu gt;have h3:A.in1.in1.in1.handled=none:=by simp[hh]
 have U5:l≠(s.heap.push (newS w)).objs.size:=by rw[ZQ];exact YK (aaC lt)
 have ni:s.heap.objs.size∉[(s.heap.push (newS w)).objs.size,l]:=by
  rw[ZQ];simp only[Yk,YR,or_false,not_or];exact⟨YK (acp _),abf lt⟩
 have V5:∀(h:aaX) (o:Obj) b its,h.IsTuple b its->(h.push o).IsTuple b its:=λh o b its x=>x.push o;refine FC (byText:=BH w) sk hr ((Walks.list h3 _ l U5 its).toS) s.heap.objs.size ni val hv hb (λi u u' _ st m ks j hj=>?_) (its.size-0) 0 _ (by lia) (aak _) ⟨⟨_,Ym _ rfl,rfl,rfl⟩,SM.push _⟩ (λj hj=>mono (hk j hj) λb i2 x=>V5 _ _ _ _ (V5 _ _ _ _ x)) ?z0 ?zR
 ·refine mono (ks j hj) λb i2 ⟨o,e,c,n,d⟩=>⟨o,m.heap b o (λhm=>?_) e,c,n,d⟩;rw[Yw] at hm;subst hm;obtain⟨o2,e2,c2,_⟩:=st.1;rw[e] at e2;cases e2;rw[c] at c2;exact absurd c2 (by decide)
 case z0=>exact Hz (by cases BH w<;>simp) (X9 _ gS)
 case zR=>
  intro s' hm _ J9;obtain⟨h',g',d',SA,o'⟩:=s';have eg:g'=s.gens:=hm.gens;have ed:d'=s.drawn:=hm.drawn;have U6:o'=s.os:=hm.os;subst eg;subst ed;subst U6;show YE _ _ _ _ _ _;refine Yg ?_;show YE _ _ (ret Value.none) _ _ _;refine Yg ⟨_,rfl,rfl,h',SA,rfl,J9,λb o e=>?_⟩;have SN:=Yu e;refine hm.heap b o ?_ (X9 _ (X9 _ e));rw[ZQ];simp only[Yk,YR,or_false,not_or];exact⟨YK SN,YK (aaC SN)⟩
end
end Hc.Sx
namespace L2
noncomputable def jN (ns:List Int):List Int:=ns.foldl step_dedup []
def pT (ns:List Int):firstMet (λi=>ns.getD i 0) ns.length=jN ns:=by
 unfold firstMet jN;congr 1;apply List.ext_getElem (by simp);intro i h1 h2;simp[abv,X7 h2]
section
variable {A:Zk}
theorem Ci {t:YG}{its:Array Yj}(hh:A.handled=none)(ht:s.heap.IsTuple t its)(hi:ZS its.toList ns)(hb:its.size+1<scanBound)(q:∀(h':aaX) (tk:Nat) (S:Int->Bool),h'.SetOf (ac2 prog w) s.heap.objs.size S (jN ns).length->(∀b o,s.heap.get? b=some o->h'.get? b=some o)->Q (.ref s.heap.objs.size) {s with heap:=h',toks:=tk}) :
  YE (YQ prog w) A (call (.type "set") [.ref t]) Q E s:=by
 have sz:its.size=ns.length:=by have:=hi.length;simpa using this
 refine Hc.Sx.set_call (λs'=>∃h' tk S,s'={s with heap:=h',toks:=tk}/\h'.SetOf (ac2 prog w) s.heap.objs.size S (jN ns).length/\∀b o,s.heap.get? b=some o->h'.get? b=some o) ?_ λs' ⟨h',tk,S,e,h1,h2⟩=>by subst e;exact q h' tk S h1 h2
 obtain⟨ot,gt,ct,nt,dt⟩:=ht;obtain⟨oc,od,oda,os⟩:=ot;simp only at ct dt;subst ct;subst dt;have U4:(s.heap.push (Hc.Sx.newS w)).get? t=some {cls:=.type "tuple",dict:=od,data:=.seq its nt,slots:=os}:=X9 _ gt;have gS:(s.heap.push (Hc.Sx.newS w)).get? s.heap.objs.size=some (Hc.Sx.newS w):=Ym _ rfl;have n1:=PySem.F.sub_tuple_set;have n2:=PySem.F.sub_tuple_frozenset;have n3:(Value.type "tuple"==Value.type "dict")=false:=by decide
 have SM:(s.heap.push (Hc.Sx.newS w)).IsTuple t its:=⟨_,U4,rfl,nt,rfl⟩;unfold Builtin.«set.__init__» noKeywords acv;generalize ePI:pyIter=PI;wp_walk;subst ePI;refine acS SM ?_;refine X6 (ac4 ?_);have lt:t<s.heap.objs.size:=Yu gt;have h3:A.in1.in1.in1.handled=none:=by simp[hh]
 have U5:t≠(s.heap.push (Hc.Sx.newS w)).objs.size:=by rw[ZQ];exact YK (aaC lt)
 have ni:s.heap.objs.size∉[(s.heap.push (Hc.Sx.newS w)).objs.size,t]:=by
  rw[ZQ];simp only[Yk,YR,or_false,not_or];exact⟨YK (acp _),abf lt⟩
 have vl:∀(i:Nat) (v:Yj),its[i]? = some v->∃t,v=.int ((λi=>ns.getD i 0) i) t:=λi v hv=>IntsAre.int_at hi i v (by rw[YJ];exact hv);refine codeAny_set_update_loopS ((Walks.tuple h3 _ t U5 its).toS) s.heap.objs.size ni (λi=>ns.getD i 0) vl hb (its.size-0) 0 _ (by lia) (aak _) ⟨⟨_,Ym _ rfl,rfl,rfl⟩,SM.push _⟩ ?z0 ?zR
 case z0=>exact SetOf_congr ((setObjOf_fresh (knd:=ac2 prog w) _).setOf (X9 _ gS) (by unfold scanBound;lia)) (λ_=>rfl) rfl
 case zR=>
  intro s' hm J9;obtain⟨h',g',d',SA,o'⟩:=s';have eg:g'=s.gens:=hm.gens;have ed:d'=s.drawn:=hm.drawn;have U6:o'=s.os:=hm.os;subst eg;subst ed;subst U6;show YE _ _ _ _ _ _;refine Yg ?_;show YE _ _ (ret Value.none) _ _ _;rw[sz,pT] at J9;refine Yg ⟨_,rfl,rfl,h',SA,_,rfl,J9,λb o e=>?_⟩;have SN:=Yu e;refine hm.heap b o ?_ (X9 _ (X9 _ e));rw[ZQ];simp only[Yk,YR,or_false,not_or];exact⟨YK SN,YK (aaC SN)⟩
end
section
variable {G:Gm}{e:aaE}{n9 p1:Pos}{b1:Bool}{ga:Ev->R (List U×Ev)}
def HB:Zg "set"=some (.type "set"):=by decide+kernel
def Mm (K:Ye):List V->Hp->VK->Prop:=λxs H Q=>∃(p:YG) (ns:List Int),xs=[.ref p]/\gE K H p (ns.map V.int)/\ns.length<64/\∀(l:YG) (S:Int->Bool),H l=none->Q (.ref l) (eY H l (.set S (jN ns).length))
def HC (ns:List Int):(jN ns).length<=ns.length:=by
 rw[←pT];exact firstMet_length_le _ _
theorem FD (hc:X.calm=true):eZ X (.type "set") (Mm X.K):=by
 intro pins s σ H xs us Q I r h;obtain⟨p,ns,rfl,hq,h64,q⟩:=h;obtain⟨u,rfl,rx⟩:=iW r;cases rx;obtain⟨its,rv,pl,hz⟩:=I.tuple hq;have hI:ZS its ns:=c_ rv;have hl:=hI.length;refine Ci (I.ok.hd hc) (its:=its.toArray) pl hI (by unfold scanBound;rw[Yh];lia) λh' tk S hS hk=>?_;exact⟨.ref s.heap.objs.size,_,I.laid (a:=s.heap.objs.size) (o:=.set S (jN ns).length) (t':=tk) hk (Yl _) hS,rfl,q _ S (I.hok.fresh (Yl _))⟩
def Mn:List V->Hp->VK->Prop:=λxs H Q=>∃(p:YG) (S:Int->Bool) (n:Nat),xs=[.ref p]/\H p=some (.set S n)/\n<64/\Q (.int n) H
theorem FE:eZ X (.builtin "len") Mn:=by
 intro pins s σ H xs us Q I r h;obtain⟨p,S,n,rfl,hq,h64,q⟩:=h;obtain⟨u,rfl,rx⟩:=iW r;cases rx;obtain⟨o,es,ep,t,ho,hx,hd,_,_,_,hf,hn⟩:s.heap.SetOf (ac2 X.prog X.w) p S n:=I.hok p _ hq;subst hn;exact call_len_set ho hx hd hf (by lia) ⟨.int _,H,I.tok _,⟨_,rfl⟩,q⟩
noncomputable def lU:List U->R U:=λus=>match us with
 | [.tup xs]=>match eo xs with
  |some ns=>if ns.length<64 then .ok (.int (jN ns).length) else .stk
  |none=>.stk
 |_=>.stk
theorem Cj:nV K (λvs H Q=>Mm K vs H λx H2=>Mn [x] H2 Q) .S lU:=λA H vs us z Q h mu e q=>by
 unfold lU at e;split at e
 ·rename_i xs;split at e
  ·rename_i ns hb;split at e
   ·rename_i hl;cases e;obtain⟨v,rfl,p⟩:=h.one;unfold Pk at p;obtain⟨a,ys,rfl,h1,l1,r1⟩:=p;rw[fM hb] at r1;rw[r1.toI] at h1;have:=HC ns;exact⟨a,ns,rfl,gE.of h1,hl,λl S hn=>⟨l,S,_,rfl,dg,by lia,q _ _ (dF hn _) (show Rp K _ A _ _ from eC)⟩⟩
   ·cases e
  ·cases e
 ·cases e
def xj (hc:X.calm=true)(ha:DA X G [e] b1 true ga)(hg:Gl X "len")(hm:X.mg "len"=none)(P5:Gl X "set")(Qs:X.mg "set"=none)
  (he:YC [e] X.env=(false,abN e X.env)::YC [] X.env:=by rfl) (pj:(abe n9 (YC [] X.env)).any (·.1)=false:=by rfl)
  (SO:YC [.Call (.Name "set" p2) [e] [] n9] X.env=(false,abN (.Call (.Name "set" p2) [e] [] n9) X.env)::YC [] X.env:=by rfl) (Dg:(abe pos (YC [] X.env)).any (·.1)=false:=by rfl) :
  DE X G (.Call (.Name "len" p1) [.Call (.Name "set" p2) [e] [] n9] [] pos) b1 .S (dZ lU ga):=⟨(pB FE hg hm bH (kv (iD (FD hc) P5 Qs HB ha.un (by decide) (by decide) he pj) qC SO) (by decide) (by decide) SO Dg).to λ_ _ _ h=>tM (p:=true) (Cj (K:=X.K)) h⟩
end
theorem qS:fillsNumberSlot (.type "tuple") "mul"=pure false:=
 PySem.fillsNumberSlot_seq (id:="tuple.__mul__") (r:=some (.builtin "tuple.__rmul__")) PySem.F.slot_tuple_mul.lookup (by decide+kernel) PySem.F.slot_tuple_rmul.lookup (by decide+kernel)
theorem yd:seqRepeat? (.type "tuple")=pure (some (.builtin "tuple.__mul__")):=by
 unfold seqRepeat?;rw[PySem.seqSlot_of (T:="tuple") (name:="__mul__") (id:="tuple.__mul__") PySem.F.slot_tuple_mul.lookup (by decide+kernel),PySem.seqSlot_of (T:="tuple") (name:="__rmul__") (id:="tuple.__rmul__") PySem.F.slot_tuple_rmul.lookup (by decide+kernel)];rfl
theorem Ck (a:Int)(t:Tok)(l:YG)(its:Array Yj)(n:Nat) :
  Meets (Builtin.«int.__rmul__» ⟨[.int a t,.ref l],[]⟩) (λ_ R s=>s.heap.get? l=some {cls:=.type "tuple",data:=.seq its n}/\R (.ok (.ret Value.notImplemented)) s):=
 .of_wp λprog w A R s h=>by
  obtain⟨hp,g,d,tk,os⟩:=s;obtain⟨hl,h⟩:=h;wp_walk;exact⟨_,rfl,h⟩
theorem FF (l:YG)(its:Array Yj)(n:Nat)(x:Int)(u:Tok)(h2:2<=x)(h3:x<2 ^ 63)(h0:its.isEmpty=false)(hs:its.size*x.toNat<=100000) :
  Meets (Builtin.«tuple.__mul__» ⟨[.ref l,.int x u],[]⟩) (λ_ R s=>s.heap.get? l=some {cls:=.type "tuple",data:=.seq its n}/\R (.ok (.ret (Value.ref s.heap.objs.size))) {s with heap:=s.heap.push {cls:=Value.type "tuple",data:=Data.seq (List.foldl (λa b=>a++b) #[] (YZ x.toNat its))},toks:=s.toks}):=
 .of_wp λprog w A R s h=>by
  obtain⟨hp,g,d,tk,os⟩:=s;obtain⟨hl,h⟩:=h;have c1:¬((decide (x < -(2 ^ 63))||decide (x≥2 ^ 63))=true):=by simp;lia
  have c2:¬((its.isEmpty||x==1)=true):=by rw[h0];simp;lia
  have c3:¬((decide (x<=0)||its.isEmpty)=true):=by rw[h0];simp;lia
  have e:(its.size:Int)*x=((its.size*x.toNat:Nat):Int):=by rw[Int.natCast_mul];congr 1;lia
  have c4:¬((its.size:Int)*x>(2 ^ 63-1) / 8):=by rw[e];lia
  have c5:¬(acO ((its.size:Int)*x)=true):=by unfold acO;rw[e];have:Yf=16777216:=rfl;rw[decide_eq_true_eq];lia
  have WY:(List.foldl (λa b=>a++b) #[] (YZ x.toNat its)).size<=Yf:=by
   rw[listMul_foldl];have:Yf=16777216:=rfl;simp;rw[aar];lia
  wp_walk;rw[hU c1];dsimp only;refine X6 (wpAny_tupleItemsOf hl rfl ?_);rw[hU c2,hU c3,hU c4,hU c5];unfold ZN;exact X6 (Zl (Yg ⟨_,rfl,h⟩) WY)
section
variable {G:Gm}
def Mo:R2:=λx y H Q=>∃(p:YG) (xs:List V) (n:Int),x=.ref p/\y=.int n/\H p=some (.tup xs)/\2<=n/\xs≠[]/\xs.length*n.toNat<=100000/\∀l,H l=none->Q (.ref l) (eY H l (.tup (YZ n.toNat xs).flatten))
theorem uG {xs:List V}{us:List Yj}(r:bC xs us):∀n:Nat,bC (YZ n xs).flatten (YZ n us).flatten
 |0=>.nil
 |n+1=>by
  rw[aaH,aaH,Y7,Y7];exact r.append (uG r n)
def tQ {α:Type}(xs:List α)(n:Nat):(YZ n xs).flatten.length=xs.length*n:=by
 simp[aar]
theorem DZ:jt X (aa3 .Mult) Mo:=by
 intro pins s σ H x y v u Q I rx ry h;obtain⟨p,xs,n,rfl,rfl,hp,h2,NL,hs,q⟩:=h;obtain rfl:v=Value.ref p:=rx;obtain⟨tk,rfl⟩:∃t,u=.int n t:=ry;obtain⟨hz,its,rv,_,n0,ho⟩:xs.length<=Yf/\∃its:List Yj,bC xs its/\IsTup s.heap p its.toArray/\∃n,s.heap.get? p=some {cls:=.type "tuple",data:=.seq its.toArray n}:=I.hok p _ hp;have hl:xs.length=its.length:=rv.length;have h1:1<=xs.length:=by cases xs with
  |nil=>exact absurd rfl NL
  |cons=>simp
 have hn:n.toNat<=100000:=Zj (Nat.le_mul_of_pos_left _ h1) hs;have he:its.toArray.isEmpty=false:=by cases its with
  |nil=>rw[hl] at h1;simp at h1
  |cons=>simp
 refine wpAny_binaryOp_repeat_ref (T:="tuple") (U:="int") (by decide) ⟨_,ho,rfl⟩ (λs'=>typeIs_int s' n tk) qS PySem.F.fills_int_mul abk yd PySem.F.slot_int_index.lookup
  (ab9 abk (typeIs_int s n tk) PySem.F.entry_int_rmul (PySem.F.args_int_rmul_2 _ _) (Ck n tk p its.toArray n0)
   ⟨ho,rfl,⟨_,ho,rfl⟩,ab9 PySem.F.slot_tuple_mul ⟨_,ho,rfl⟩ PySem.F.entry_tuple_mul (PySem.F.args_tuple_mul_2 _ _)
    (FF p its.toArray n0 n tk h2 (by lia) he (by rw[Yh,←hl];exact hs)) ⟨ho,?_⟩⟩)
 rw[listMul_foldl];have el:(#[]:Array Yj).toList=[]:=rfl;simp only[el,Zx];have z2:(YZ n.toNat xs).flatten.length<=Yf:=by rw[tQ];have:Yf=16777216:=rfl;lia
 exact⟨.ref s.heap.objs.size,_,I.laid (a:=s.heap.objs.size) (o:=.tup (YZ n.toNat xs).flatten) (t':=s.toks) (λ_ _ e=>X9 _ e) (Yl _) ⟨z2,_,uG rv n.toNat,⟨_,Ym _ rfl,rfl,_,rfl⟩,_,Ym _ rfl⟩,rfl,q _ (I.hok.fresh (Yl _))⟩
noncomputable def rO:U->U->R U:=λu w=>match u,w with
 | .tup us,.int n=>if 2<=n/\us.length*n.toNat<=100000/\us≠[] then .ok (.tup (YZ n.toNat us).flatten) else .stk
 |_,_=>.stk
theorem ye {H:Hp}{A:YG->Prop}{us:List U}{xs:List V}(r:bf K H A us xs):∀n:Nat,bf K H A (YZ n us).flatten (YZ n xs).flatten
 |0=>bf.nil
 |n+1=>by
  rw[aaH,aaH,Y7,Y7];exact r.append (ye r n)
theorem Af:eQ K Mo .S rO:=λA H x y u w z Q hx hy mu e q=>by
 unfold rO at e;split at e
 ·rename_i us n;split at e
  ·rename_i c;cases e;unfold Pk at hx hy;obtain⟨a,xs,rfl,h1,l1,r1⟩:=hx;subst hy;have hl:=r1.length;refine⟨a,xs,n,rfl,rfl,h1,c.1,λz=>c.2.2 (Zv (by rw[hl,z];rfl)),by rw[←hl];exact c.2.1,λl hn=>?_⟩;refine q _ _ (dF hn _) (show Rp K _ A _ _ from ?_);unfold Rp;refine⟨l,_,rfl,dg,?_,(ye r1 _).same (dF hn _)⟩;rw[tQ];have:Yf=16777216:=rfl;lia
  ·cases e
 ·cases e
end
@[irreducible] noncomputable def OQ (X:Cx)(G:Gm)(es:List aaE)(b p:Bool)(g:Ev->R (List U×Ev)):Prop:=DA X G es b p g
section
variable {G:Gm}{e:aaE}{es:List aaE}{b1 b2 p:Bool}{m1:Md}{g1:Ev->R (U×Ev)}{ga:Ev->R (List U×Ev)}
def Qg (h:OQ X G es b1 p ga):DA X G es b1 p ga:=by unfold OQ at h;exact h
def nD:OQ X G [] false p ak:=by unfold OQ;exact af
def aV (ha:DE X G e b1 m1 g1)(hr:OQ X G es b2 p ga)(hm:m1=.P->(p=true/\b2=false):=by first|exact λ_=>⟨rfl,rfl⟩|exact λh=>nomatch h)
  (hs:YC (e::es) X.env=(false,abN e X.env)::YC es X.env:=by rfl):OQ X G (e::es) (b1||b2) p (ae g1 ga):=by
 unfold OQ at hr ⊢;exact aa ha hr hm hs
end
end L2
namespace Hc.Zp
def kr (l:Bool)(h:aaX)(a:YG)(xs:Array Yj):Prop:=if l=true then h.IsList a xs else h.IsTuple a xs
def iG (l:Bool)(h:aaX)(it a:YG)(i:Nat):Prop:=if l=true then h.IsListIter it a i else h.IsTupleIter it a i
noncomputable def FG (l:Bool):String:=if l=true then "list_iterator" else "tuple_iterator"
theorem kr.at {l:Bool}{xs:Array Yj}(x:kr l h a xs)(e:∀o,h.get? a=some o->h'.get? a=some o):kr l h' a xs:=by
 cases l with
 |true=>exact Heap.IsList.at x e
 |false=>exact Heap.IsTuple.at x e
theorem iG.at {l:Bool}(x:iG l h it a i)(e:∀o,h.get? it=some o->h'.get? it=some o):iG l h' it a i:=by
 cases l with
 |true=>exact Heap.IsListIter.at x e
 |false=>exact Heap.IsTupleIter.at x e
theorem iG.obj {l:Bool}(x:iG l h it a i):∃o,h.get? it=some o/\o.data=.fields #[.ref a,.int i 0]/\o.cls=.type (FG l):=by
 cases l with
 |true=>obtain⟨o,e,c,d⟩:=x;exact⟨o,e,d,c⟩
 |false=>obtain⟨o,e,c,d⟩:=x;exact⟨o,e,d,c⟩
section
variable {A:Zk}
theorem Cm {xs:Array Yj}{x:Yj}(hi:s.heap.IsTupleIter it a i)(ha:s.heap.IsTuple a xs)(hx:xs[i]? = some x)(q:∀h',h'.IsTupleIter it a (i+1)->abd it s.heap h'->Q x {s with heap:=h'}):YE (YQ prog w) A (Zf (.ref it)) Q E s:=by
 obtain⟨o,ho,hc,hd⟩:=id hi;obtain⟨oa,hoa,_,na,hda⟩:=ha;unfold Zf;refine X6 (ZD (name:=Yq "__next__") hi.typeIs aaL (ZG aaL hi.typeIs acG ?_ (acw _)));show YE _ _ (field (Value.ref it) 0 >>= _) _ _ s;refine X6 (aaa ho hd (x:=.ref a) rfl ?_);show YE _ _ (if (Value.ref a==Value.none)=true then _ else _) _ _ s;rw[hU (show ¬((Value.ref a==Value.none)=true) from Yd)];show YE _ _ (field (Value.ref it) 1 >>= _) _ _ s;refine X6 (aaa ho hd (x:=.int i 0) rfl ?_);show YE _ _ (seqItems? (Value.ref a) >>= _) _ _ s;refine X6 (aaV hoa hda ?_);simp only[Zu,hx];refine X6 (aci ho hd (by simp) (Yg ⟨x,rfl,Yg (q _ ⟨_,aaM _ ho (acn (aaQ hd _)),(adl ..).trans hc,?_⟩ (aal ..))⟩));rw[aaQ hd];simp[rawInt]
theorem FH {xs:Array Yj}(hh:A.handled=none)(hi:s.heap.IsTupleIter it a i)(ha:s.heap.IsTuple a xs)(hx:xs[i]? = none)(q:∀h' e,Heap.ExtBut it s.heap h'->(∃o,h'.get? e=some o/\o.cls=.type "StopIteration")->E (.ref e) {s with heap:=h'}):YE (YQ prog w) A (Zf (.ref it)) Q E s:=by
 obtain⟨o,ho,hc,hd⟩:=id hi;obtain⟨oa,hoa,_,na,hda⟩:=ha;unfold Zf;refine X6 (ZD (name:=Yq "__next__") hi.typeIs aaL (ZG aaL hi.typeIs acG ?_ (acw _)));show YE _ _ (field (Value.ref it) 0 >>= _) _ _ s;refine X6 (aaa ho hd (x:=.ref a) rfl ?_);show YE _ _ (if (Value.ref a==Value.none)=true then _ else _) _ _ s;rw[hU (show ¬((Value.ref a==Value.none)=true) from Yd)];show YE _ _ (field (Value.ref it) 1 >>= _) _ _ s;refine X6 (aaa ho hd (x:=.int i 0) rfl ?_);show YE _ _ (seqItems? (Value.ref a) >>= _) _ _ s;refine X6 (aaV hoa hda ?_);simp only[Zu,hx];refine X6 (aa8 (X6 (aci ho hd (by simp) ?_)));show YE _ _ (newExc (Value.type "StopIteration") [] >>= _) _ _ _;refine X6 ?_;simp only[newExc,newTuple];refine X6 (Zl ?_ (by size_fits));refine X6 (m:=ac7 _ _) (acF (a:=Value.none) (by first|rfl|(simp only[ac7];rfl)) ?_);refine Zl ?_ (by size_fits);simp only[raiseNew];refine X6 (wpAny_handled ?_)
 first|rw[show A.in1.handled=none from hh]|rw[hh]
 exact X6 (Yg (wpAny_throw (q _ _ (((aal ..).extBut.push _).push _) ⟨_,Ym _ rfl,rfl⟩)))
theorem qT {l:Bool}{xs:Array Yj}{x:Yj}(hi:iG l s.heap it a i)(ha:kr l s.heap a xs)(hx:xs[i]? = some x)(q:∀h',iG l h' it a (i+1)->abd it s.heap h'->Q x {s with heap:=h'}):YE (YQ prog w) A (Zf (.ref it)) Q E s:=by
 cases l with
 |true=>exact wpAny_nextOf_list_item hi ha hx q
 |false=>exact Cm hi ha hx q
theorem Ag {l:Bool}{xs:Array Yj}(hh:A.handled=none)(hi:iG l s.heap it a i)(ha:kr l s.heap a xs)(hx:xs[i]? = none)(q:∀h' e,Heap.ExtBut it s.heap h'->(∃o,h'.get? e=some o/\o.cls=.type "StopIteration")->E (.ref e) {s with heap:=h'}):YE (YQ prog w) A (Zf (.ref it)) Q E s:=by
 cases l with
 |true=>exact wpAny_nextOf_list_end hh hi ha hx q
 |false=>exact FH hh hi ha hx q
theorem D0 {l:Bool}{xs:Array Yj}(ha:kr l s.heap a xs)(q:Q (.ref s.heap.objs.size) {s with heap:=s.heap.push {cls:=.type (FG l),data:=.fields #[.ref a,.int 0 0]}}):YE (YQ prog w) A (pyIter (.ref a)) Q E s:=by
 cases l with
 |true=>exact ab5 ha q
 |false=>exact acS ha q
def FI {TI TO:YG}{xs:Array Yj}{x y p q:Yj}(D:ZipApart z TI TO i1 i2 a1 a2)(hz:IsZip s.heap z TI TO .none)(P8:abq s.heap TI (.ref i1) (.ref i2))(P9:abq s.heap TO p q)(h1:iG l1 s.heap i1 a1 k)(h2:iG l2 s.heap i2 a2 k)(g1:kr l1 s.heap a1 xs)(g2:kr l2 s.heap a2 ys)(hx:xs[k]? = some x)(hy:ys[k]? = some y)(hQ:∀h',IsZip h' z TI TO (rawInt s.heap.objs.size)->abq h' TO x y->iG l1 h' i1 a1 (k+1)->iG l2 h' i2 a2 (k+1)->abq h' s.heap.objs.size x y->(∀c o,c≠z->c≠TO->c≠i1->c≠i2->s.heap.get? c=some o->h'.get? c=some o)->Q (.ref s.heap.objs.size) {s with heap:=h'}) :
  YE (YQ prog w) A (Builtin.«zip.__next__» ⟨[.ref z],[]⟩) (λfin s'=>∃v,fin=.done (.ret v)/\Q v s') E s:=by
 show YE _ _ (field (Value.ref z) 2 >>= _) _ _ _;refine X6 (aaa hz rfl (x:=.bool false) rfl ?_);show YE _ _ (field (Value.ref z) 3 >>= _) _ _ _;refine X6 (aaa hz rfl (x:=.ref TI) rfl (X6 (aaV P8 rfl ?_)));show YE _ _ (Z8 (Value.ref z) >>= _) _ _ _;refine X6 ?_;unfold Z8;refine X6 (aaa hz rfl (x:=.none) rfl (Yg ?_));simp only[if_true];refine X6 (aa8 (X6 (aaa hz rfl (x:=.ref TO) rfl (X6 (aaR hz (by simp) λw1 z1 b1=>?_)))))
 replace z1:IsZip w1 z TI TO .ellipsis:=z1
 refine X6 ?_;simp only[List.zipIdx_cons,List.zipIdx_nil,abS,List.forIn_nil];refine X6 (X6 (wpAny_onRaise ?_));show YE _ _ (Zf (Value.ref i1) >>= _) _ _ _;refine X6 (qT (h1.at λo e=>b1.extBut _ _ D.i1z e) (g1.at λo e=>b1.extBut _ _ D.l1z e) hx λw2 n2 b2=>Yg ?_);have t2:abq w2 TO p q:=b2.extBut _ _ D.TOi1 (b1.extBut _ _ D.TOz P9);refine X6 (aaV t2 rfl (X6 (acs t2 λw3 t3 b3=>?_)))
 replace t3:abq w3 TO x q:=t3
 refine X6 (wpAny_letGo (Yg ?_));refine X6 (X6 (wpAny_onRaise ?_));show YE _ _ (Zf (Value.ref i2) >>= _) _ _ _;refine X6 (qT (h2.at λo e=>b3.extBut _ _ D.TOi2.symm (b2.extBut _ _ D.i12.symm (b1.extBut _ _ D.i2z e))) (g2.at λo e=>b3.extBut _ _ D.l2TO (b2.extBut _ _ D.l2i1 (b1.extBut _ _ D.l2z e))) hy λw4 n4 b4=>Yg ?_);have t4:abq w4 TO x q:=b4.extBut _ _ D.TOi2 t3;refine X6 (aaV t4 rfl (X6 (acs t4 λw5 t5 b5=>?_)))
 replace t5:abq w5 TO x y:=t5
 refine X6 (wpAny_letGo (Yg (Yg ?_)));refine X6 (aaV t5 rfl (X6 (wpAny_newTuple ?_)));have sz:w5.objs.size=s.heap.objs.size:=by rw[b5.1,b4.1,b3.1,b2.1,b1.1]
 have z5:IsZip w5 z TI TO .ellipsis:=b5.extBut _ _ D.TOz.symm (b4.extBut _ _ D.i2z.symm (b3.extBut _ _ D.TOz.symm (b2.extBut _ _ D.i1z.symm z1)));have kp:∀c o,c≠z->c≠TO->c≠i1->c≠i2->s.heap.get? c=some o->w5.get? c=some o:=λc o c1 c2 c3 c4 e=>b5.extBut _ _ c2 (b4.extBut _ _ c4 (b3.extBut _ _ c2 (b2.extBut _ _ c3 (b1.extBut _ _ c1 e))));have n5:iG l1 w5 i1 a1 (k+1):=n2.at λo e=>b5.extBut _ _ D.TOi1.symm (b4.extBut _ _ D.i12 (b3.extBut _ _ D.TOi1.symm e));have m5:iG l2 w5 i2 a2 (k+1):=n4.at λo e=>b5.extBut _ _ D.TOi2.symm e;have lz:z<w5.objs.size:=Yu z5;show YE _ _ (abw (Value.ref z) (Value.ref w5.objs.size) >>= _) _ _ _;refine X6 ?_;unfold abw;have z6:IsZip (w5.push {cls:=.type "tuple",data:=.seq #[x,y]}) z TI TO .ellipsis:=X9 _ z5;refine X6 (aaR z6 (by simp) λw7 z7 b7=>?_)
 replace z7:IsZip w7 z TI TO (rawInt w5.objs.size):=z7
 refine aaR z7 (by simp) λw8 z8 b8=>?_
 replace z8:IsZip w8 z TI TO (rawInt w5.objs.size):=z8
 have up:∀c o,c≠z->w5.get? c=some o->w8.get? c=some o:=λc o c1 e=>b8.extBut _ _ c1 (b7.extBut _ _ c1 (X9 _ e));have t8:abq w8 w5.objs.size x y:=b8.extBut _ _ (abf lz) (b7.extBut _ _ (abf lz) (Ym _ rfl));rw[sz] at z8 t8;refine Yg ⟨_,rfl,?_⟩;show Q (.ref w5.objs.size) _;rw[sz];exact hQ w8 z8 (up _ _ D.TOz t5) (n5.at λo e=>up _ o D.i1z e) (m5.at λo e=>up _ o D.i2z e) t8 λc o c1 c2 c3 c4 e=>up c o c1 (kp c o c1 c2 c3 c4 e)
theorem HD {TI TO:YG}{xs:Array Yj}{p q:Yj}{Q:Fin->Yv->Prop}(hh:A.handled=none)(D:ZipApart z TI TO i1 i2 a1 a2)(hz:IsZip s.heap z TI TO .none)(P8:abq s.heap TI (.ref i1) (.ref i2))(P9:abq s.heap TO p q)(h1:iG l1 s.heap i1 a1 k)(h2:iG l2 s.heap i2 a2 k)(g1:kr l1 s.heap a1 xs)(g2:kr l2 s.heap a2 ys)(P_:xs[k]? = none\/ys[k]? = none)(hE:∀h' e,(∀c o,c≠z->c≠TO->c≠i1->c≠i2->s.heap.get? c=some o->h'.get? c=some o)->(∃o,h'.get? e=some o/\o.cls=.type "StopIteration")->E (.ref e) {s with heap:=h'}) :
  YE (YQ prog w) A (Builtin.«zip.__next__» ⟨[.ref z],[]⟩) Q E s:=by
 show YE _ _ (field (Value.ref z) 2 >>= _) _ _ _;refine X6 (aaa hz rfl (x:=.bool false) rfl ?_);show YE _ _ (field (Value.ref z) 3 >>= _) _ _ _;refine X6 (aaa hz rfl (x:=.ref TI) rfl (X6 (aaV P8 rfl ?_)));show YE _ _ (Z8 (Value.ref z) >>= _) _ _ _;refine X6 ?_;unfold Z8;refine X6 (aaa hz rfl (x:=.none) rfl (Yg ?_));simp only[if_true];refine X6 (aa8 (X6 (aaa hz rfl (x:=.ref TO) rfl (X6 (aaR hz (by simp) λw1 z1 b1=>?_)))))
 replace z1:IsZip w1 z TI TO .ellipsis:=z1
 refine X6 ?_;simp only[List.zipIdx_cons,List.zipIdx_nil,abS,List.forIn_nil];refine X6 (X6 (wpAny_onRaise ?_));show YE _ _ (Zf (Value.ref i1) >>= _) _ _ _;cases hx:xs[k]? with
 |none=>
  refine X6 (Ag hh (h1.at λo e=>b1.extBut _ _ D.i1z e) (g1.at λo e=>b1.extBut _ _ D.l1z e) hx λw2 e b2 he=>?_);obtain⟨oe,hoe,hce⟩:=he;have z2:IsZip w2 z TI TO .ellipsis:=b2 _ _ D.i1z.symm z1;have nz:e≠z:=λx=>by subst x;rw[z2] at hoe;cases hoe;simp at hce
  exact aaR z2 (by simp) λw3 _ b3=>hE w3 e (λc o c1 _ c3 _ x=>b3.extBut _ _ c1 (b2 _ _ c3 (b1.extBut _ _ c1 x))) ⟨oe,b3.extBut _ _ nz hoe,hce⟩
 |some x=>
  have hy:ys[k]? = none:=by rcases P_ with h|h;rw[hx] at h;cases h;exact h
  refine X6 (qT (h1.at λo e=>b1.extBut _ _ D.i1z e) (g1.at λo e=>b1.extBut _ _ D.l1z e) hx λw2 n2 b2=>Yg ?_);have t2:abq w2 TO p q:=b2.extBut _ _ D.TOi1 (b1.extBut _ _ D.TOz P9);refine X6 (aaV t2 rfl (X6 (acs t2 λw3 t3 b3=>?_)));refine X6 (wpAny_letGo (Yg ?_));refine X6 (X6 (wpAny_onRaise ?_));show YE _ _ (Zf (Value.ref i2) >>= _) _ _ _;refine X6 (Ag hh (h2.at λo e=>b3.extBut _ _ D.TOi2.symm (b2.extBut _ _ D.i12.symm (b1.extBut _ _ D.i2z e))) (g2.at λo e=>b3.extBut _ _ D.l2TO (b2.extBut _ _ D.l2i1 (b1.extBut _ _ D.l2z e))) hy λw4 e b4 he=>?_);obtain⟨oe,hoe,hce⟩:=he;have z4:IsZip w4 z TI TO .ellipsis:=b4 _ _ D.i2z.symm (b3.extBut _ _ D.TOz.symm (b2.extBut _ _ D.i1z.symm z1));have nz:e≠z:=λx=>by subst x;rw[z4] at hoe;cases hoe;simp at hce
  exact aaR z4 (by simp) λw5 _ b5=>hE w5 e (λc o c1 c2 c3 c4 x=>b5.extBut _ _ c1 (b4 _ _ c4 (b3.extBut _ _ c2 (b2.extBut _ _ c3 (b1.extBut _ _ c1 x))))) ⟨oe,b5.extBut _ _ nz hoe,hce⟩
theorem FJ {TI TO:YG}{xs:Array Yj}{x y p q:Yj}{Q:Option Yj->Yv->Prop}(D:ZipApart z TI TO i1 i2 a1 a2)(hz:IsZip s.heap z TI TO .none)(P8:abq s.heap TI (.ref i1) (.ref i2))(P9:abq s.heap TO p q)(h1:iG l1 s.heap i1 a1 k)(h2:iG l2 s.heap i2 a2 k)(g1:kr l1 s.heap a1 xs)(g2:kr l2 s.heap a2 ys)(hx:xs[k]? = some x)(hy:ys[k]? = some y)(hQ:∀h',IsZip h' z TI TO (rawInt s.heap.objs.size)->abq h' TO x y->iG l1 h' i1 a1 (k+1)->iG l2 h' i2 a2 (k+1)->abq h' s.heap.objs.size x y->(∀c o,c≠z->c≠TO->c≠i1->c≠i2->s.heap.get? c=some o->h'.get? c=some o)->Q (some (.ref s.heap.objs.size)) {s with heap:=h'}) :
  YE (YQ prog w) A (pyNext (.ref z)) Q E s:=by
 have hT:s.TypeIs (.ref z) "zip":=⟨_,hz,rfl⟩;unfold pyNext;exact X6 (abW (ZD (name:=Yq "__next__") hT acH (ZG acH hT F.entry_zip_next (FI D hz P8 P9 h1 h2 g1 g2 hx hy λh' c1 c2 c3 c4 c5 c6=>Yg (hQ h' c1 c2 c3 c4 c5 c6)) (F.args_zip_next_1 _))))
theorem FK {TI TO:YG}{xs:Array Yj}{p q:Yj}{Q:Option Yj->Yv->Prop}(hh:A.handled=none)(D:ZipApart z TI TO i1 i2 a1 a2)(hz:IsZip s.heap z TI TO .none)(P8:abq s.heap TI (.ref i1) (.ref i2))(P9:abq s.heap TO p q)(h1:iG l1 s.heap i1 a1 k)(h2:iG l2 s.heap i2 a2 k)(g1:kr l1 s.heap a1 xs)(g2:kr l2 s.heap a2 ys)(P_:xs[k]? = none\/ys[k]? = none)(hQ:∀h',(∀c o,c≠z->c≠TO->c≠i1->c≠i2->s.heap.get? c=some o->h'.get? c=some o)->Q none {s with heap:=h'}):YE (YQ prog w) A (pyNext (.ref z)) Q E s:=by
 have hT:s.TypeIs (.ref z) "zip":=⟨_,hz,rfl⟩;unfold pyNext;refine X6 (abW (ZD (name:=Yq "__next__") hT acH (ZG acH hT F.entry_zip_next (HD hh D hz P8 P9 h1 h2 g1 g2 P_ λh' e hk ⟨o,ho,hc⟩=>?_) (F.args_zip_next_1 _))));exact X6 (wpAny_isInstance (T:="StopIteration") (b:=true) ⟨o,ho,hc⟩ isSubtype_stop (Yg (hQ _ hk)))
end
noncomputable abbrev S7 (l1:Bool)(h:aaX)(a1:YG):aaX:=h.push {cls:=.type (FG l1),data:=.fields #[.ref a1,.int 0 0]}
noncomputable abbrev S8 (l1 l2:Bool)(h:aaX)(a1 a2:YG):aaX:=(S7 l1 h a1).push {cls:=.type (FG l2),data:=.fields #[.ref a2,.int 0 0]}
noncomputable abbrev S9 (l1 l2:Bool)(h:aaX)(a1 a2:YG):aaX:=(S8 l1 l2 h a1 a2).push {cls:=.type "tuple",data:=.seq #[.ref h.objs.size,.ref (S7 l1 h a1).objs.size]}
noncomputable abbrev S_ (l1 l2:Bool)(h:aaX)(a1 a2:YG):aaX:=(S9 l1 l2 h a1 a2).push {cls:=.type "tuple",data:=.seq #[.none,.none]}
noncomputable abbrev Qh (l1 l2:Bool)(h:aaX)(a1 a2:YG):aaX:=(S_ l1 l2 h a1 a2).push {cls:=.type "zip",data:=.fields #[.none,.bool false,.bool false,.ref (S8 l1 l2 h a1 a2).objs.size,.ref (S9 l1 l2 h a1 a2).objs.size]}
theorem HF (l1 l2:Bool)(a1 a2:YG)(xs ys:Array Yj):Meets (Builtin.«zip.__new__» ⟨[.type "zip",.ref a1,.ref a2],[]⟩) (λ_ R s=>kr l1 s.heap a1 xs/\kr l2 s.heap a2 ys/\R (.ok (.ret (.ref (S_ l1 l2 s.heap a1 a2).objs.size))) {s with heap:=Qh l1 l2 s.heap a1 a2}):=
 .of_wp λprog w A R s h=>by
  obtain⟨hp,g,d,tk,os⟩:=s;obtain⟨g1,g2,h⟩:=h;have sb:=sub_zip;have q1:kr l1 (Shared.heap ⟨hp,g,d,tk,os⟩) a1 xs:=g1;have q2:kr l2 (Shared.heap ⟨hp.push {cls:=.type (FG l1),data:=.fields #[.ref a1,.int 0 0]},g,d,tk,os⟩) a2 ys:=g2.at λo e=>X9 _ e;wp_walk using D0 q1,D0 q2;exact⟨_,rfl,h⟩
section
variable {A:Zk}
theorem FN {xs:Array Yj}(g1:kr l1 s.heap a1 xs)(g2:kr l2 s.heap a2 ys)(h:∀h',IsZip h' (s.heap.objs.size+4) (s.heap.objs.size+2) (s.heap.objs.size+3) .none->abq h' (s.heap.objs.size+2) (.ref s.heap.objs.size) (.ref (s.heap.objs.size+1))->abq h' (s.heap.objs.size+3) .none .none->
   iG l1 h' s.heap.objs.size a1 0->iG l2 h' (s.heap.objs.size+1) a2 0->(∀c o,s.heap.get? c=some o->h'.get? c=some o)->Q (.ref (s.heap.objs.size+4)) {s with heap:=h'}):YE (YQ prog w) A (call (.type "zip") [.ref a1,.ref a2]) Q E s:=by
 refine callType_new F.called_zip (by decide) (F.typeCall_zip_2 _ _) (F.newCall_zip_2 _ _) (λobj=>F.args_object_init_3 obj _ _) F.entry_zip_new (HF l1 l2 a1 a2 xs ys) ⟨g1,g2,?_⟩;have z1:(S7 l1 s.heap a1).objs.size=s.heap.objs.size+1:=ZQ ..;have z2:(S8 l1 l2 s.heap a1 a2).objs.size=s.heap.objs.size+2:=by rw[ZQ,z1]
 have z3:(S9 l1 l2 s.heap a1 a2).objs.size=s.heap.objs.size+3:=by rw[ZQ,z2]
 have z4:(S_ l1 l2 s.heap a1 a2).objs.size=s.heap.objs.size+4:=by rw[ZQ,z3]
 have e5:(Qh l1 l2 s.heap a1 a2).get? (S_ l1 l2 s.heap a1 a2).objs.size=some _:=Ym _ rfl;have e4:(Qh l1 l2 s.heap a1 a2).get? (S9 l1 l2 s.heap a1 a2).objs.size=some _:=X9 _ (Ym _ rfl);have e3:(Qh l1 l2 s.heap a1 a2).get? (S8 l1 l2 s.heap a1 a2).objs.size=some _:=X9 _ (X9 _ (Ym _ rfl));have e2:(Qh l1 l2 s.heap a1 a2).get? (S7 l1 s.heap a1).objs.size=some _:=X9 _ (X9 _ (X9 _ (Ym _ rfl)));have e1:(Qh l1 l2 s.heap a1 a2).get? s.heap.objs.size=some _:=X9 _ (X9 _ (X9 _ (X9 _ (Ym _ rfl))));show _/\_;rw[z2,z3,z4] at e5;rw[z1,z2] at e3;rw[z3] at e4;rw[z1] at e2;rw[z4];have mk:∀(l:Bool) (hp:aaX) (it a:YG) (_:hp.get? it=some {cls:=.type (FG l),data:=.fields #[.ref a,.int 0 0]}),iG l hp it a 0:=λl hp it a e=>by
  cases l with
  |true=>exact⟨_,e,rfl,rfl⟩
  |false=>exact⟨_,e,rfl,rfl⟩
 exact⟨⟨_,e5,rfl⟩,h _ e5 e3 e4 (mk l1 _ _ _ e1) (mk l2 _ _ _ e2) λc o x=>X9 _ (X9 _ (X9 _ (X9 _ (X9 _ x))))⟩
end
end Hc.Zp
namespace L2
open Hc.Zp
section
variable {T:YG}{o:HO}
theorem a_.turnNew {t':Nat}(I:a_ X pins σ H s)(hf:∀b∈fp,sS X pins H b)(k:∀b o,b∉fp->s.heap.get? b=some o->h'.get? b=some o)(hT:s.heap.objs.size<=T)(new:eJ X.prog X.w (eY H T o) h' T o) :
  a_ X pins σ (eY H T o) {s with heap:=h',toks:=t'}:=by
 have hn:H T=none:=I.hok.fresh hT;have nf:∀b u,H b=some u->b∉fp:=λb u e z=>by rw[(hf b z).1] at e;cases e
 have nT:∀b u,H b=some u->b≠T:=λb u e z=>by rw[z,hn] at e;cases e
 refine I.step (g':=s.gens) (d':=s.drawn) (ch:=fp) (λb hb=>?_) (λb o _ _ hc e _=>k b o hc e) (λb o _ _ hc e _=>⟨o.slots,k b o hc e⟩) (λb o _ e n=>?_) (λb o hc e=>⟨o,k b o hc e⟩)
  (λb xs e=>?_) (λb o u e=>?_) (λb ps e=>⟨#[],?_⟩) (λm hm=>?_) (λb u e=>?_) I.bare
 ·obtain⟨f0,f1,f2,f3,f4,f5⟩:=hf b hb;exact⟨f3,f1,f4,f5⟩
 ·rw[bY (YK (Y4 (Yu e) hT))];exact n
 ·rw[bY (nT b _ e)];exact e
 ·rw[bY (nT b _ e)];exact e
 ·rw[bY (nT b _ e),e];simp
 ·obtain⟨o,es,ep,ho,r⟩:=hm;exact⟨o,es,ep,k _ o (λz=>(hf _ z).2.1 rfl) ho,r⟩
 ·by_cases c:b=T
  ·subst c;rw[dg] at e;cases e;exact new
  ·rw[bY c] at e;refine (I.hok b u e).stay (λc v hc q=>k c v ?_ q) (λc q=>by rw[bY (nT c _ q)];exact q) λc xs q=>by rw[bY (nT c _ q)];exact q
   rcases hc with z|z
   ·rw[z];exact nf b u e
   ·exact nf c _ z
theorem a_.turneds {t':Nat}(I:a_ X pins σ H s)(hf:∀b∈fp,sS X pins H b)(k:∀b o,b∉fp->s.heap.get? b=some o->h'.get? b=some o):a_ X pins σ H {s with heap:=h',toks:=t'}:=by
 have nf:∀b u,H b=some u->b∉fp:=λb u e z=>by rw[(hf b z).1] at e;cases e
 refine I.step (g':=s.gens) (d':=s.drawn) (ch:=fp) (λb hb=>?_) (λb o _ _ hc e _=>k b o hc e) (λb o _ _ hc e _=>⟨o.slots,k b o hc e⟩) (λb o _ e n=>n) (λb o hc e=>⟨o,k b o hc e⟩)
  (λb xs e=>e) (λb o u e=>e) (λb ps e=>⟨#[],by rw[e];simp⟩) (λm hm=>?_) (λb u e=>?_) I.bare
 ·obtain⟨f0,f1,f2,f3,f4,f5⟩:=hf b hb;exact⟨f3,f1,f4,f5⟩
 ·obtain⟨o,es,ep,ho,r⟩:=hm;exact⟨o,es,ep,k _ o (λz=>(hf _ z).2.1 rfl) ho,r⟩
 ·refine (I.hok b u e).stay (λc v hc q=>k c v ?_ q) (λ_ q=>q) λ_ _ q=>q;rcases hc with z|z
  ·rw[z];exact nf b u e
  ·exact nf c _ z
def FO (l:Bool)(K:Ye)(H:Hp)(a:YG)(xs:List V):Prop:=if l=true then fX K H a xs else gE K H a xs
theorem a_.sq {l:Bool}(I:a_ X pins σ H s)(q:FO l X.K H a xs):∃its,bC xs its/\kr l s.heap a its.toArray:=by
 cases l with
 |true=>obtain⟨its,rv,p,_⟩:=I.list q;exact⟨its,rv,p.isList⟩
 |false=>obtain⟨its,rv,p,_⟩:=I.tuple q;exact⟨its,rv,p⟩
theorem a_.sq_inj {l:Bool}{ys:List V}(I:a_ X pins σ H s)(q:FO l X.K H a xs)(q':FO l X.K H a ys):xs=ys:=by
 cases l with
 |true=>exact I.list_inj q q'
 |false=>exact I.tuple_inj q q'
end
noncomputable def Vr (K:Ye)(l1 l2:Bool)(a1 a2:YG):It:=
  ⟨λi H=>∃xs ys x y,FO l1 K H a1 xs/\FO l2 K H a2 ys/\xs[i]? = some x/\ys[i]? = some y,
   λi H v H'=>∃T x y,v=.ref T/\H T=none/\H'=eY H T (.tup [x,y])/\(∀xs,FO l1 K H a1 xs->xs[i]? = some x)/\(∀ys,FO l2 K H a2 ys->ys[i]? = some y),
   λi H=>∃xs ys,FO l1 K H a1 xs/\FO l2 K H a2 ys/\(xs.length<=i\/ys.length<=i)⟩
theorem HG {JZ:List aaE}{kt:Nat}{tp:Pos}{TI TO:YG}(D:ZipApart z TI TO i1 i2 a1 a2) :
  E_ P w K (.Tuple JZ kt tp) (Vr K l1 l2 a1 a2) [z,TI,TO,i1,i2] z (λi h=>IsZip h z TI TO .none/\abq h TI (.ref i1) (.ref i2)/\(∃p q,abq h TO p q)/\iG l1 h i1 a1 i/\iG l2 h i2 a2 i) where
 mem:=by simp
 obj:=λi h ⟨hz,hI,⟨p,q,hO⟩,h1,h2⟩ b hb=>by
  obtain⟨o1,e1,d1,_⟩:=h1.obj;obtain⟨o2,e2,d2,_⟩:=h2.obj;simp only[Yk,aav,or_false] at hb;rcases hb with rfl|rfl|rfl|rfl|rfl
  ·exact⟨_,hz,λv e=>by cases e⟩
  ·exact⟨_,hI,λv e=>by cases e⟩
  ·exact⟨_,hO,λv e=>by cases e⟩
  ·exact⟨o1,e1,λv e=>by rw[d1] at e;cases e⟩
  ·exact⟨o2,e2,λv e=>by rw[d2] at e;cases e⟩
 keep:=λi h h' ⟨hz,hI,⟨p,q,hO⟩,h1,h2⟩ k=>⟨k z (by simp) _ hz,k TI (by simp) _ hI,⟨p,q,k TO (by simp) _ hO⟩,h1.at λo e=>k i1 (by simp) o e,h2.at λo e=>k i2 (by simp) o e⟩
 item:=by
  intro X hP hw hK hc i pins s σ H E I hf st hg;subst hP hw hK;obtain⟨hz,hI,⟨p,q,hO⟩,h1,h2⟩:=st;obtain⟨xs,ys,x,y,q1,q2,hx,hy⟩:=hg;obtain⟨is1,v1,g1⟩:=I.sq q1;obtain⟨is2,v2,g2⟩:=I.sq q2;obtain⟨u1,Gi,r1⟩:=v1.get hx;obtain⟨u2,hu2,r2⟩:=v2.get hy;obtain⟨o1,e1,_,_⟩:=h1.obj;obtain⟨o2,e2,_,_⟩:=h2.obj;have lz:=Yu hz;have lI:=Yu hI;have lO:=Yu hO;have WZ:=Yu e1;have W0:=Yu e2;refine FJ D hz hI hO h1 h2 g1 g2 (x:=u1) (y:=u2) (by simpa using Gi) (by simpa using hu2) λh' c1 c2 c3 c4 c5 kp=>⟨_,rfl,?_⟩;refine wpAny_letOwnedTupleGo_zip c1 λQt z2 sb=>?_;have P6:abq Qt s.heap.objs.size u1 u2:=sb.extBut _ _ (abf lz) c5;have W3:∀b o,b∉[z,TI,TO,i1,i2]->s.heap.get? b=some o->Qt.get? b=some o:=λb o hb e=>by
   simp only[Yk,aav,or_false,not_or] at hb;exact sb.extBut _ _ hb.1 (kp b o hb.1 hb.2.2.1 hb.2.2.2.1 hb.2.2.2.2 e)
  have I2:a_ X pins σ (eY H s.heap.objs.size (.tup [x,y])) {s with heap:=Qt}:=I.turnNew (t':=s.toks) hf W3 (Yl _) ⟨by rw[aau];simp,[u1,u2],.cons r1 (.cons r2 .nil),⟨_,P6,rfl,_,rfl⟩,_,P6⟩;have fr:H s.heap.objs.size=none:=I.hok.fresh (Yl _);refine⟨.ref s.heap.objs.size,_,I2,rfl,⟨_,x,y,rfl,fr,rfl,λzs hq=>by rw[I.sq_inj hq q1];exact hx,λzs hq=>by rw[I.sq_inj hq q2];exact hy⟩,⟨z2,?_,⟨u1,u2,?_⟩,?_,?_⟩,λb hb=>?_⟩
  ·exact sb.extBut _ _ D.TIz (kp _ _ D.TIz D.TITO D.TIi1 D.TIi2 hI)
  ·exact sb.extBut _ _ D.TOz c2
  ·exact c3.at λo e=>sb.extBut _ _ D.i1z e
  ·exact c4.at λo e=>sb.extBut _ _ D.i2z e
  ·have hn:b≠s.heap.objs.size:=by
    simp only[Yk,aav,or_false] at hb;rcases hb with rfl|rfl|rfl|rfl|rfl
    ·exact YK lz
    ·exact YK lI
    ·exact YK lO
    ·exact YK WZ
    ·exact YK W0
   rw[bY hn];exact (hf b hb).1
 done:=by
  intro X hP hw hK hc i pins s σ H E I hf st hg;subst hP hw hK;obtain⟨hz,hI,⟨p,q,hO⟩,h1,h2⟩:=st;obtain⟨xs,ys,q1,q2,he⟩:=hg;obtain⟨is1,v1,g1⟩:=I.sq q1;obtain⟨is2,v2,g2⟩:=I.sq q2;have n1:=v1.length;have n2:=v2.length;refine FK (I.ok.hd hc) D hz hI hO h1 h2 g1 g2 (by
   rcases he with he|he
   ·exact .inl (by simp;lia)
   ·exact .inr (by simp;lia)) λh' kp=>⟨rfl,I.turneds (t':=s.toks) hf λb o hb e=>?_⟩
  simp only[Yk,aav,or_false,not_or] at hb;exact kp b o hb.1 hb.2.2.1 hb.2.2.2.1 hb.2.2.2.2 e
 self:=λ_ _ _ _ _ st h=>wpAny_pyIter_zip st.1 h
section
variable {JZ:List aaE}{kt:Nat}{tp p:Pos}{a b:aaE}
def OR:Zg "zip"=some (.type "zip"):=by decide+kernel
def Ul (K:Ye)(ta:TA):TI:=λσ H R=>ta σ H λvs H1=>∃l1 l2 a1 a2 xs ys,vs=[.ref a1,.ref a2]/\FO l1 K H1 a1 xs/\FO l2 K H1 a2 ys/\R (Vr K l1 l2 a1 a2) H1
theorem OS {ta:TA}(hg:Gl X "zip")(hm:X.mg "zip"=none)(ha:PA X [a,b] ta)(hs:YC [a,b] X.env=[(false,abN a X.env),(false,abN b X.env)]:=by rfl)(dG:YC [b] X.env=[(false,abN b X.env)]:=by rfl) :
  PI X (.Tuple JZ kt tp) (.Call (.Name "zip" p) [a,b] [] pos) (Ul X.K ta):=by
 intro pins s σ H R I h;refine Call_ (qx I hg hm OR (aaF (eT (ha pos pins s σ H _ I h) λus s1 ⟨vs,H1,I1,r1,q1⟩=>?_) (by rw[hs,dG]) (by rw[dG];rfl)));obtain⟨l1,l2,a1,a2,xs,ys,rfl,g1,g2,q⟩:=q1;cases r1 with
 |cons r rr=>
  cases rr with
  |cons r' rr=>
   cases rr;cases r;cases r';obtain⟨is1,v1,m1⟩:=I1.sq g1;obtain⟨is2,v2,m2⟩:=I1.sq g2;have lt:∀(l:Bool) (c:YG) (zs:Array Yj),kr l s1.heap c zs->c<s1.heap.objs.size:=λl c zs hq=>by
    cases l with
    |true=>obtain⟨_,e,_⟩:=hq;exact Yu e
    |false=>obtain⟨_,e,_⟩:=hq;exact Yu e
   refine FN m1 m2 λh' z1 z2 z3 z4 z5 kp=>wpAny_pyIter_zip z1 ?_;refine⟨_,[s1.heap.objs.size+4,s1.heap.objs.size+2,s1.heap.objs.size+3,s1.heap.objs.size,s1.heap.objs.size+1],_,_,H1,rfl,I1.kept (t':=s1.toks) λb o e=>kp b o e,HG (zipApart_new (lt l1 a1 _ m1) (lt l2 a2 _ m2)),⟨z1,z2,⟨_,_,z3⟩,z4,z5⟩,λb hb=>?_,q⟩;have hb:s1.heap.objs.size<=b:=by
    simp only[Yk,aav,or_false] at hb;rcases hb with rfl|rfl|rfl|rfl|rfl
    ·exact Z7 _ _
    ·exact Z7 _ _
    ·exact Z7 _ _
    ·exact Yl _
    ·exact Z7 _ _
   exact I1.fpOk hb (I1.hok.fresh hb)
end
noncomputable def FP:U->Option (List U)
 | .lst us=>some us
 | .tup us=>some us
 |_=>none
noncomputable def Lg (ga:Ev->R (List U×Ev)):Ev->R (List U×Ev):=λρ=>(ga ρ).bind λx=>match x.1 with
 | [u,w]=>match FP u,FP w with
  |some us,some ws=>.ok (List.zipWith (λa b=>.tup [a,b]) us ws,x.2)
  |_,_=>.stk
 |_=>.stk
section
variable {G:Gm}{JZ:List aaE}{kt:Nat}{tp p1:Pos}{a b:aaE}{b1:Bool}{ga:Ev->R (List U×Ev)}
theorem HH (e:FP u=some us)(h:Rp K H A u v):∃l a xs,v=.ref a/\us.length<=Yf/\bf K H A us xs/\FO l K H a xs/\∀H',fY A H H'->(∀b,A b->Mu (H b))->FO l K H' a xs:=by
 unfold FP at e;split at e;rotate_right
 ·cases e
 rotate_left
 ·cases e;unfold Rp at h;obtain⟨a,xs,rfl,q,l,z⟩:=h;exact⟨false,a,xs,rfl,l,z,gE.of q,λH' x mu=>gE.of (x a _ (λy=>by have:=mu a y;rw[q] at this;exact this) q)⟩
 ·cases e;unfold Rp at h;obtain⟨a,xs,rfl,na,q,l,z⟩:=h;exact⟨true,a,xs,rfl,l,z,fX.of q,λH' x mu=>fX.of (x a _ na q)⟩
theorem OT (ha:DA X G [a,b] b1 false ga)(hm:X.mg "zip"=none)(hg:Gl X "zip":=by rfl)(hs:YC [a,b] X.env=[(false,abN a X.env),(false,abN b X.env)]:=by rfl)(dG:YC [b] X.env=[(false,abN b X.env)]:=by rfl) :
  DI X G (.Tuple JZ kt tp) (.Call (.Name "zip" p1) [a,b] [] pos) b1 false (Lg ga):=⟨(OS hg hm ha.un hs dG).to λσ H RR h00=>by
 obtain⟨Z,A,ρ,q,f⟩:=h00;unfold Lg at f;cases e1:ga ρ with
 |stk=>rw[e1] at f;exact f.elim
 |exc=>rw[e1] at f;exact f.elim
 |ok y=>
  obtain⟨us,ρ1⟩:=y;rw[e1] at f;dsimp only[L2.R.bind] at f;refine⟨Z,A,ρ,q,?_⟩;rw[e1];intro vs H1 q1 x1 s1 vm;split at f
  ·rename_i VS ρ' e2;split at e2
   ·rename_i u w';split at e2
    ·rename_i as bs ea eb;cases e2;have r:=vm.rps;unfold bf at r;obtain⟨v,vr,rfl,r1,r2⟩:=r;unfold bf at r2;obtain⟨v',vr',rfl,r3,r4⟩:=r2;unfold bf at r4;subst r4;obtain⟨l1,a1,xs,rfl,n1,z1,k1,De⟩:=HH ea r1;obtain⟨l2,a2,ys,rfl,n2,z2,k2,nO⟩:=HH eb r3;refine⟨l1,l2,a1,a2,xs,ys,rfl,k1,k2,f _ H1 q1 x1 s1 ⟨?_,λH2 A' hx Di=>?_⟩⟩
     ·rw[List.length_zipWith];exact Zj (Nat.min_le_left _ _) n1
     ·rw[hU Yd] at hx;have U7:=De H2 hx q1.mu;have U8:=nO H2 hx q1.mu;have w1:=z1.re q1.mu hx Di;have w2:=z2.re q1.mu hx Di;refine⟨λi u hu=>?_,⟨xs,ys,U7,U8,?_⟩⟩
      ·rw[List.getElem?_zipWith] at hu;cases hA:as[i]? with
       |none=>rw[hA] at hu;cases hu
       |some ua=>cases hB:bs[i]? with
        |none=>rw[hA,hB] at hu;cases hu
        |some ub=>
         rw[hA,hB] at hu;cases hu;obtain⟨x,hx1,px⟩:=w1.get hA;obtain⟨y,hy1,py⟩:=w2.get hB;refine⟨⟨xs,ys,x,y,U7,U8,hx1,hy1⟩,λx' H' yl=>?_⟩;obtain⟨T,x2,y2,rfl,hT,rfl,g1,g2⟩:=yl;have ex:x2=x:=by have:=g1 xs U7;rw[hx1] at this;cases this;rfl
         have ey:y2=y:=by have:=g2 ys U8;rw[hy1] at this;cases this;rfl
         subst ex ey;have sm:=dF hT (.tup [x2,y2]);refine⟨sm,?_⟩;unfold Rp;exact⟨T,_,rfl,dg,by have:Yf=16777216:=rfl;rw[this];simp,bf.cons (px.same sm) (bf.cons (py.same sm) bf.nil)⟩
      ·rw[List.length_zipWith,←z1.length,←z2.length];rcases Nat.le_total as.length bs.length with z|z
       ·exact .inl (by rw[Z4 z];exact Yl _)
       ·exact .inr (by rw[Nat.min_eq_right z];exact Yl _)
    ·cases e2
   ·cases e2
  ·exact f.elim⟩
end
end L2
namespace L2
def nr {α:Sort _}{a b:α}(h:a=b):a=b:=h
noncomputable def look (o:Option (Option U))(ρ:Ev):R (U×Ev):=match o with
 |some (some u)=>.ok (u,ρ)
 |_=>.stk
noncomputable def Vs (u:U)(ρ:Ev):R (Bool×Ev):=match u with
 | .bl c=>.ok (c,ρ)
 |_=>.stk
noncomputable def Ta (o:Option U):R U:=match o with
 |some u=>.ok u
 |none=>.stk
noncomputable def SR.seq (r:SR)(g:Ev->SR):SR:=match r with
 | .nx ρ=>g ρ
 |r=>r
noncomputable def SR.turn (r:SR)(g:Ev->SR):SR:=match r with
 | .nx ρ=>g ρ
 | .ct ρ=>g ρ
 | .bk ρ=>.nx ρ
 |r=>r
noncomputable def Co (m:Md)(r:SR):R U:=match r with
 | .rt u _=>.ok u
 | .nx _=>if m=.S then .ok .non else .stk
 | .exc c u=>.exc c u
 |_=>.stk
noncomputable def io0 (u:U)(o:Option (Option U)):R (U×U):=match o with
 |some (some w)=>.ok (u,w)
 |_=>.stk
noncomputable def FQ (r:SR):R (U×U):=match r with
 | .rt u ρ=>io0 u ρ[0]?
 | .nx ρ=>io0 .non ρ[0]?
 | .exc c u=>.exc c u
 |_=>.stk
section
variable {w:U}{α β:Type}{g g1 g2 g3:Ev->R (U×Ev)}{h h1 h2:Ev->R (Bool×Ev)}{s s1 s2:Ev->SR}{ga:Ev->R (List U×Ev)}{m:Md}{ws:List U}
def Mp:ai i ρ=look ρ[i]? ρ:=nr rfl
def HJ:look (some (some u)) ρ=.ok (u,ρ):=nr rfl
def Vt:gC u ρ=.ok (u,ρ):=nr rfl
def Cp {a:α}{f:α->R β}:(R.ok a).bind f=f a:=nr rfl
def Mq {f:α->R β}:(R.stk:R α).bind f=.stk:=nr rfl
def HK {a:α}{f:α->SR}:SR.of (R.ok a) f=f a:=nr rfl
def Ro {p:U->U->R U}:aK p g1 g2 ρ=(g1 ρ).bind λx=>(g2 x.2).bind λy=>(p x.1 y.1).bind λz=>.ok (z,y.2):=nr rfl
def Vu:gB g ρ=(g ρ).bind λx=>Vs x.1 x.2:=nr rfl
def Mr {c:Bool}:Vs (.bl c) ρ=.ok (c,ρ):=nr rfl
def HL:mK h1 h2 ρ=(h1 ρ).bind λx=>if x.1=true then h2 x.2 else .ok (false,x.2):=nr rfl
def Mt:vY h1 h2 ρ=(h1 ρ).bind λx=>if x.1=true then .ok (true,x.2) else h2 x.2:=nr rfl
def HM:ko h ρ=(h ρ).bind λx=>.ok (!x.1,x.2):=nr rfl
def Mv:mC g1 g2 ρ=(gB g1 ρ).bind λx=>if x.1=true then g2 x.2 else .ok (.bl false,x.2):=nr rfl
def Rq:T_ g1 g2 ρ=(gB g1 ρ).bind λx=>if x.1=true then .ok (.bl true,x.2) else g2 x.2:=nr rfl
def Mw:G_ g ρ=(gB g ρ).bind λx=>.ok (.bl (!x.1),x.2):=nr rfl
def Rr:Ua h g1 g2 ρ=(h ρ).bind λx=>if x.1=true then g1 x.2 else g2 x.2:=nr rfl
noncomputable def Vv (p':U->U->R U)(g3:Ev->R (U×Ev))(y:U×Ev)(z:U):R (U×Ev):=match z with
 | .bl k=>if k=true then (g3 y.2).bind λw=>(p' y.1 w.1).bind λz'=>.ok (z',w.2) else .ok (.bl false,y.2)
 |_=>.stk
def D1 {p p':U->U->R U}:kO p p' g1 g2 g3 ρ=(g1 ρ).bind λx=>(g2 x.2).bind λy=>(p x.1 y.1).bind λz=>Vv p' g3 y z:=nr rfl
def Mx {p':U->U->R U}{y:U×Ev}{k:Bool}:Vv p' g3 y (.bl k)=if k=true then (g3 y.2).bind λw=>(p' y.1 w.1).bind λz'=>.ok (z',w.2) else .ok (.bl false,y.2):=nr rfl
def Rt {p:U->R U}:Qe p g ρ=(g ρ).bind λx=>(p x.1).bind λz=>.ok (z,x.2):=nr rfl
def HN:ak ρ=.ok ([],ρ):=nr rfl
def D2:ae g ga ρ=(g ρ).bind λx=>(ga x.2).bind λy=>.ok (x.1::y.1,y.2):=nr rfl
def HP:az ga ρ=(ga ρ).bind λx=>if x.1.length<=Yf then .ok (.tup x.1,x.2) else .stk:=nr rfl
def HQ:dh ga ρ=(ga ρ).bind λx=>if x.1.length<=Yf then .ok (.lst x.1,x.2) else .stk:=nr rfl
def Ru {p:List U->R U}:dZ p ga ρ=(ga ρ).bind λx=>(p x.1).bind λz=>.ok (z,x.2):=nr rfl
def Rv {f:List U->R U}:iE n f ga ρ=(ga ρ).bind λx=>(B8 n f x.1).bind λz=>.ok (z,x.2):=nr rfl
def My {f:List U->R α}(h:us.length=n):B8 n f us=f us:=hV h
noncomputable def Vw (n:Nat)(f:List U->R (U×U))(us:List U)(i:Nat)(ρ:Ev)(o:Option (Option U)):R (U×Ev):=match o with
 |some (some u0)=>(B8 n f (u0::us)).bind λz=>.ok (z.1,ρ.set i (some z.2))
 |_=>.stk
def Mz {f:List U->R (U×U)}:Vw n f us i ρ (some (some u))=(B8 n f (u::us)).bind λz=>.ok (z.1,ρ.set i (some z.2)):=nr rfl
noncomputable def D3 (o:Option (Option U)):Bool:=match o with
 |some (some _)=>true
 |_=>false
def D4:D3 (some (some u))=true:=nr rfl
def Rx {f:List U->R (U×U)}:iY n i f ga ρ=if D3 ρ[i]? = true then (ga ρ).bind λx=>Vw n f x.1 i x.2 x.2[i]? else .stk:=nr rfl
noncomputable def Um (i:Nat)(p:U->List U->R (U×U))(us:List U)(ρ:Ev)(o:Option (Option U)):R (U×Ev):=match o with
 |some (some u0)=>(p u0 us).bind λz=>.ok (z.1,ρ.set i (some z.2))
 |_=>.stk
def MA {p:U->List U->R (U×U)}:Um i p us ρ (some (some u))=(p u us).bind λz=>.ok (z.1,ρ.set i (some z.2)):=nr rfl
noncomputable def Vx (T:String)(i:Nat)(p:U->List U->R (U×U))(ga:Ev->R (List U×Ev))(ρ:Ev)(o:Option (Option U)):R (U×Ev):=match o with
 |some (some u1)=>if Fs u1 T=true then (ga ρ).bind λx=>Um i p x.1 x.2 x.2[i]? else .stk
 |_=>.stk
def MB {T:String}{p:U->List U->R (U×U)}:Vx T i p ga ρ (some (some u))=if Fs u T=true then (ga ρ).bind λx=>Um i p x.1 x.2 x.2[i]? else .stk:=nr rfl
def Vy {T:String}{p:U->List U->R (U×U)}:gM T i p ga ρ=Vx T i p ga ρ ρ[i]? := nr rfl
def HU:Fs (.lst us) "list"=true:=nr rfl
def D5:cV ρ=.ok (none,ρ):=nr rfl
noncomputable def Vz (u:U)(ρ:Ev):R (Option Int×Ev):=match u with
 | .int i=>.ok (some i,ρ)
 |_=>.stk
def MC {k:Int}:Vz (.int k) ρ=.ok (some k,ρ):=nr rfl
def D6:cE g ρ=(g ρ).bind λx=>Vz x.1 x.2:=nr rfl
def Ry {p:U->Option Int->Option Int->R U}{lo hi:Ev->R (Option Int×Ev)}:mG p g lo hi ρ=(g ρ).bind λx=>(lo x.2).bind λl=>(hi l.2).bind λh=>(p x.1 l.1 h.1).bind λz=>.ok (z,h.2):=nr rfl
noncomputable def kX (T:String)(u:U)(ρ:Ev):R (U×Ev):=if Qf u="script" then .stk else .ok (.bl (kh (Qf u) T),ρ)
def HV {T:String}:fF T g ρ=(g ρ).bind λx=>kX T x.1 x.2:=nr rfl
def HW:bx ρ=.nx ρ:=nr rfl
def D7:OE ρ=.bk ρ:=nr rfl
def HX:Ri ρ=.ct ρ:=nr rfl
def D8:aO s1 s2 ρ=(s1 ρ).seq s2:=nr rfl
def yf:(SR.nx ρ).seq s=s ρ:=nr rfl
def HY:(SR.rt u ρ).seq s=.rt u ρ:=nr rfl
def HZ:(SR.bk ρ).seq s=.bk ρ:=nr rfl
def H0:(SR.ct ρ).seq s=.ct ρ:=nr rfl
def H9:lq g ρ=SR.of (g ρ) λx=>.nx x.2:=nr rfl
def MD:bA g ρ=SR.of (g ρ) λx=>.rt x.1 x.2:=nr rfl
def ME:bK i g ρ=SR.of (g ρ) λx=>.nx (x.2.set i (some x.1)):=nr rfl
def MF {sg:U->Ev->R Ev}:Ue sg g ρ=SR.of (g ρ) λx=>SR.of (sg x.1 x.2) .nx:=nr rfl
def MG:iB h s1 s2 ρ=SR.of (h ρ) λx=>if x.1=true then s1 x.2 else s2 x.2:=nr rfl
noncomputable def VA (i j:Nat)(ρ:Ev)(o:Option (Option U)):SR:=match o with
 |some (some u)=>.nx ((ρ.set j none).set i (some u))
 |_=>.stk
def H_:zJ i j ρ=VA i j ρ ρ[j]? := nr rfl
def MJ:VA i j ρ (some (some u))=.nx ((ρ.set j none).set i (some u)):=nr rfl
noncomputable def Rz (i j:Nat)(us:List U)(ρ:Ev):SR:=match us with
 | [u,w]=>.nx ((ρ.set i (some u)).set j (some w))
 |_=>.stk
def MK:Ug i j ga ρ=SR.of (ga ρ) λx=>Rz i j x.1 x.2:=nr rfl
def Ia:Rz i j [u,w] ρ=.nx ((ρ.set i (some u)).set j (some w)):=nr rfl
noncomputable def Tb (i:Nat)(v k:U)(ρ:Ev)(o:Option (Option U)):SR:=match k with
 | .int k=>match o with
  |some (some (.lst us))=>match Gn us.length k with
   |some j=>.nx (ρ.set i (some (.lst (us.set j v))))
   |none=>.stk
  |_=>.stk
 |_=>.stk
def Ib:Dz i g1 g2 ρ=SR.of (g1 ρ) λx=>if D3 x.2[i]? = true then SR.of (g2 x.2) λy=>Tb i x.1 y.1 y.2 y.2[i]? else .stk:=nr rfl
def RA {k:Int}(h:Gn us.length k=some j):Tb i w (.int k) ρ (some (some (.lst us)))=.nx (ρ.set i (some (.lst (us.set j w)))):=by
 unfold Tb;dsimp only;rw[h]
noncomputable def RB (i:Nat)(p:U->U->R U)(g:Ev->R (U×Ev))(ρ:Ev)(o:Option (Option U)):SR:=match o with
 |some (some u)=>SR.of (g ρ) λy=>SR.of (p u y.1) λz=>.nx (y.2.set i (some z))
 |_=>.stk
def ML {p:U->U->R U}:Hm i p g ρ=RB i p g ρ ρ[i]? := nr rfl
def Ic {p:U->U->R U}:RB i p g ρ (some (some u))=SR.of (g ρ) λy=>SR.of (p u y.1) λz=>.nx (y.2.set i (some z)):=nr rfl
def MM {gi:Ev->R (List U×Ev)}{sg:U->Ev->R Ev}:qK gi sg s ρ=SR.of (gi ρ) λx=>kA sg s x.1 x.2:=nr rfl
def yg {sg:U->Ev->R Ev}:kA sg s [] ρ=.nx ρ:=nr rfl
def Ah:kA sg s (u::us) ρ=SR.of (sg u ρ) λρ1=>(s ρ1).turn (kA sg s us):=nr rfl
def D9:(SR.nx ρ).turn s=s ρ:=nr rfl
def D_:(SR.ct ρ).turn s=s ρ:=nr rfl
def Ea:(SR.bk ρ).turn s=.nx ρ:=nr rfl
def Eb:(SR.rt u ρ).turn s=.rt u ρ:=nr rfl
def pU:iF h s (n+1) ρ=SR.of (h ρ) λx=>if x.1=true then (s x.2).turn (iF h s n) else .nx x.2:=nr rfl
noncomputable def Lh (u:U)(ρ:Ev):R (List U×Ev):=match u with
 | .lst us=>.ok (us,ρ)
 | .tup us=>.ok (us,ρ)
 | .scr us=>.ok (us,ρ)
 |_=>.stk
def Ie:eW g ρ=(g ρ).bind λx=>Lh x.1 x.2:=nr rfl
def Ig:Lh (.lst us) ρ=.ok (us,ρ):=nr rfl
def Ih:Lh (.tup us) ρ=.ok (us,ρ):=nr rfl
def Ii:Lh (.scr us) ρ=.ok (us,ρ):=nr rfl
noncomputable def Li (us:List U)(ρ:Ev):R (List U×Ev):=match us with
 | [.int j]=>if -1000000<=j/\j<=1000000 then .ok (aX 0 j.toNat,ρ) else .stk
 |_=>.stk
def Ij:iZ ga ρ=(ga ρ).bind λx=>Li x.1 x.2:=nr rfl
def OU {k:Int}:Li [.int k] ρ=if -1000000<=k/\k<=1000000 then .ok (aX 0 k.toNat,ρ) else .stk:=nr rfl
noncomputable def Ik (us:List U)(ρ:Ev):R (U×Ev):=match us with
 | [.int j]=>if z9 0 j=true then .ok (.lst (aX 0 (j-0).toNat),ρ) else .stk
 |_=>.stk
noncomputable def Il (us:List U)(ρ:Ev):R (U×Ev):=match us with
 | [.int j]=>if z9 0 j=true then .ok (.tup (aX 0 (j-0).toNat),ρ) else .stk
 |_=>.stk
def Im:DK ga ρ=(ga ρ).bind λx=>Ik x.1 x.2:=nr rfl
def Io:Hr ga ρ=(ga ρ).bind λx=>Il x.1 x.2:=nr rfl
theorem MN {k:Int}(h0:0<=k)(h1:k<=1000000):z9 0 k=true:=by
 unfold z9;simp only[Ys,decide_eq_true_eq];lia
theorem Ec (n:Nat)(h:n<=1000000):Ik [.int n] ρ=.ok (.lst (aX 0 n),ρ):=by
 unfold Ik;dsimp only;rw[hV (MN (by lia) (by lia)),show ((n:Int)-0).toNat=n by lia]
theorem pV (n:Nat)(h:n<=1000000):Il [.int n] ρ=.ok (.tup (aX 0 n),ρ):=by
 unfold Il;dsimp only;rw[hV (MN (by lia) (by lia)),show ((n:Int)-0).toNat=n by lia]
theorem kY (n:Nat)(h:n<=1000000):Li [.int n] ρ=.ok (aX 0 n,ρ):=by
 rw[OU,hV (by lia)];rfl
def MO {gi:Ev->R (List U×Ev)}{js:List (Option Nat)}{sg:U->Ev->R Ev}:eX gi js sg h g ρ=(gi ρ).bind λx=>(lr (nq js sg h g x.2) x.1).bind λys=>.ok (.lst ys,x.2):=nr rfl
def MP {G:Gm}{gi:Ev->R (List U×Ev)}{js:List (Option Nat)}{sg:U->Ev->R Ev}:xZ G gi js sg h g ρ=(gi ρ).bind λx=>(qM G js sg h g x.1 x.2).bind λy=>.ok (.lst y.1,y.2):=nr rfl
def MQ {js:List (Option Nat)}{sg:U->Ev->R Ev}:nq js sg h g ρ u=(sg u (kq js ρ)).bind λρi=>(h ρi).bind λc=>if c.1=true then (g ρi).bind λy=>.ok (some y.1) else .ok none:=nr rfl
def Iq {G:Gm}{js:List (Option Nat)}{sg:U->Ev->R Ev}:qM G js sg h g [] ρ=.ok ([],ρ):=nr rfl
def OV {G:Gm}:qM G js sg h g (u::us) ρ=(sg u (kq js ρ)).bind λρi=>(h ρi).bind λc=>if c.1=true then (g c.2).bind λy=>(qM G js sg h g us (wb G js y.2 ρ)).bind λr=>.ok (y.1::r.1,r.2) else qM G js sg h g us (wb G js c.2 ρ):=nr rfl
def Ir:cb ρ=.ok (true,ρ):=nr rfl
def MR:df i u ρ=.ok (ρ.set i (some u)):=nr rfl
def RC:Wq ρ=.ok (.dct [] [],ρ):=nr rfl
def Iu:fB m n s us=Co m (s (bg n us)):=nr rfl
def Ed:Co m (.rt u ρ)=.ok u:=nr rfl
def Cq:kQ n s us=FQ (s (bg n us)):=nr rfl
def Ee:FQ (.rt u ρ)=io0 u ρ[0]? := nr rfl
def MS:io0 u (some (some w))=.ok (u,w):=nr rfl
def Ai {ρ:Ev}:kq [] ρ=[]:=nr rfl
def xk {js:List (Option Nat)}:kq (none::js) ρ=none::kq js ρ:=nr rfl
theorem xl {js:List (Option Nat)}:kq (some j::js) ρ=(ρ[j]?).getD none::kq js ρ:=by
 unfold kq;rw[Yp];congr 1;dsimp only;cases ρ[j]? <;> rfl
end
section
variable {i j k:Int}{ws:List U}{w:U}{lo hi:Option Int}
def Iv:bM (.int i) (.int j)=.ok (.int (i+j)):=nr rfl
def kZ:bM (.tup us) (.tup ws)=if us.length+ws.length<=Yf then .ok (.tup (us++ws)) else .stk:=nr rfl
def qU:bM (.lst us) (.lst ws)=if us.length+ws.length<=Yf then .ok (.lst (us++ws)) else .stk:=nr rfl
def MT:sV (.int i) (.int j)=.ok (.int (i-j)):=nr rfl
def MU:og (.int i) (.int j)=if pO i j=true then .ok (.int (i*j)) else .stk:=nr rfl
def Iw:zP (.int i) (.int j)=if Ca i j=true then .ok (.int (i / j)) else .stk:=nr rfl
def MV:zQ (.int i) (.int j)=if decide (0<j)=true then .ok (.int (i % j)) else .stk:=nr rfl
def MW:K5 (.int i) (.int j)=if K4 i j=true then .ok (.int (i ^ j.toNat)) else .stk:=nr rfl
def MX:Cb (.int i)=.ok (.int (-i)):=nr rfl
def RD:Gs (.int i) (.int j)=.ok (.bl (decide (i<j))):=nr rfl
def RE:Gu (.int i) (.int j)=.ok (.bl (decide (i<=j))):=nr rfl
def nW:J7 (.int i) (.int j)=.ok (.bl (decide (j<i))):=nr rfl
def RF:Ui (.int i) (.int j)=.ok (.bl (decide (j<=i))):=nr rfl
theorem MY:cO (.lst us) (.int i)=Ta (lM us i):=by show (match lM us i with|some z=>R.ok z|none=>.stk)=_;cases lM us i<;>rfl
theorem MZ:cO (.tup us) (.int i)=Ta (lM us i):=by show (match lM us i with|some z=>R.ok z|none=>.stk)=_;cases lM us i<;>rfl
theorem M3:cO (.scr us) (.int i)=Ta (lM us i):=by show (match lM us i with|some z=>R.ok z|none=>.stk)=_;cases lM us i<;>rfl
def M4:Ta (some u)=.ok u:=nr rfl
def M5:lQ (.lst us) lo hi=.ok (.lst (ju us lo hi)):=nr rfl
def M6:lQ (.tup us) lo hi=.ok (.tup (ju us lo hi)):=nr rfl
def M7:lQ (.scr us) lo hi=.ok (.lst (ju us lo hi)):=nr rfl
def Iy:dI [.lst us]=.ok (.int us.length):=nr rfl
def Iz:dI [.tup us]=.ok (.int us.length):=nr rfl
def IA:dI [.scr us]=.ok (.int us.length):=nr rfl
def IB:fO [.lst us]=.ok (.tup us):=nr rfl
def IC:fO [.tup us]=.ok (.tup us):=nr rfl
def ID:w_ [.lst us]=.ok (.lst us):=nr rfl
def IE:w_ [.tup us]=.ok (.lst us):=nr rfl
def M8 {a b:Bool}{f:Bool->Bool}:Uj f (.bl a) (.bl b)=.ok (.bl (f (decide (a=b)))):=nr rfl
def M9 {f:Bool->Bool}:zT f u .non=.ok (.bl (f (w9 u))):=nr rfl
def IF:zW [.int i,.int j]=.ok (.int (if j<i then j else i)):=nr rfl
def IG:DJ [.int i,.int j]=.ok (.int (if j>i then j else i)):=nr rfl
def RG {f:Bool->Bool}:lB f u w=(kR u w).bind λb=>.ok (.bl (f b)):=nr rfl
theorem mR (n:Nat):lM us (n:Int)=us[n]? := by
 unfold lM Gn;by_cases h:n<us.length
 ·rw[hV (by lia),hV (by lia)];rfl
 ·rw[hV (by lia),hU (by lia)];rw[Z2.mpr (by lia)];rfl
def M_:lM us 0=us[0]? := mR 0
def Na:lM us 1=us[1]? := mR 1
def Nb:lM us 2=us[2]? := mR 2
theorem RH (h:0<us.length):Gn us.length 0=some 0:=by unfold Gn;rw[hV (by lia),hV (by lia)];rfl
def yi (h0:0<j)(h1:j<18446744073709551616):Ca i j=true:=by unfold Ca;simp[h0,h1]
theorem qV (h0:0<=i)(h1:i<18446744073709551616):pO i j=true:=by
 unfold pO;simp only[abh,Ys,decide_eq_true_eq];exact .inl ⟨by lia,by lia⟩
theorem OW (h0:0<=j)(h1:j<18446744073709551616):pO i j=true:=by
 unfold pO;simp only[abh,Ys,decide_eq_true_eq];exact .inr ⟨by lia,by lia⟩
end
end L2
namespace L2
theorem Ef {i:Nat}{w u:U}{us:List U}{ρ:Ev}:Tb i w (.int 0) ρ (some (some (.lst (u::us))))=.nx (ρ.set i (some (.lst (w::us)))):=by
 rw[RA (j:=0) (RH (by rw[X_];lia))];rfl
def Eg {ρ:Ev}:FQ (.nx ρ)=io0 .non ρ[0]? := rfl
theorem lC {G:Gm}{js:List (Option Nat)}{sg:U->Ev->R Ev}{ge:Ev->R (U×Ev)}{σ:Type}(ev:σ->Ev)(N:Nat)(I:List U->σ->Prop)
  (step:∀done u s,done.length<N->I done s->∃ρi y ρi' s',sg u (kq js (ev s))=.ok ρi/\ge ρi=.ok (y,ρi')/\wb G js ρi' (ev s)=ev s'/\I (done++[y]) s') :
  ∀(us done:List U) (s:σ),done.length+us.length<=N->I done s->∃ys s',qM G js sg cb ge us (ev s)=.ok (ys,ev s')/\ys.length=us.length/\I (done++ys) s'
 | [],done,s,_,h=>⟨[],s,rfl,rfl,by rw[YV];exact h⟩
 |u::us,done,s,hl,h=>by
  rw[X_] at hl;obtain⟨ρi,y,ρi',s',e1,e2,e3,h'⟩:=step done u s (by lia) h;obtain⟨ys,NC,e4,e5,h''⟩:=lC ev N I step us (done++[y]) s' (by rw[Yc,YA];lia) h';refine⟨y::ys,NC,?_,by rw[X_,X_,e5],by rw[YB] at h'';exact h''⟩;rw[OV,e1,Cp,Ir,Cp,hV rfl,e2,Cp,e3,e4,Cp]
theorem fw {s:Ev->SR}(I:Nat->Ev->Prop)(step:∀(i:Nat) (u:U) (ρ:Ev),us[i]? = some u->I i ρ->∃ρ1 ρ2,sg u ρ=.ok ρ1/\(s ρ1=.nx ρ2\/s ρ1=.ct ρ2)/\I (i+1) ρ2)(h:I 0 ρ) :
  ∃ρ',kA sg s us ρ=.nx ρ'/\I us.length ρ':=by
 have gen:∀(n i:Nat) (ρ:Ev),i+n=us.length->I i ρ->∃ρ',kA sg s (us.drop i) ρ=.nx ρ'/\I us.length ρ':=by
  intro n
  induction n with
  |zero=>
   intro i ρ hi h;have:i=us.length:=by lia
   subst this;rw[aby];exact⟨ρ,rfl,h⟩
  |succ n ih=>
   intro i ρ hi h;have Dd:i<us.length:=by lia
   obtain⟨ρ1,ρ2,e1,e2,h2⟩:=step i us[i] ρ (X7 Dd) h;obtain⟨ρ',e3,h3⟩:=ih (i+1) ρ2 (by lia) h2;refine⟨ρ',?_,h3⟩;rw[Z1 Dd,Ah,e1,HK];rcases e2 with e2|e2<;>(rw[e2];exact e3)
 have:=gen us.length 0 ρ (by lia) h
 rwa [acg] at this
theorem gR {f:U->R (Option U)}{g:U->U}:∀{us:List U},(∀u∈us,f u=.ok (some (g u)))->lr f us=.ok (us.map g)
 | [],_=>rfl
 |u::us,h=>by
  unfold lr;rw[h u Yb,Cp,gR λw hw=>h w (Ya _ hw)];rfl
def vP (u:U):Prop:=∃d,fu u=some d/\cT d<=20
theorem uH:∀{us:List U},(∀u∈us,vP u)->∃ds,d9 us=some ds/\gH ds<=20/\ds.length=us.length
 | [],_=>⟨[],by unfold d9;rfl,by unfold gH;lia,rfl⟩
 |u::us,h=>by
  obtain⟨d,e,l⟩:=h u Yb;obtain⟨ds,e',l',n⟩:=uH λw hw=>h w (Ya _ hw);refine⟨d::ds,by unfold d9;rw[e,e'];rfl,?_,by rw[X_,X_,n]⟩;unfold gH;exact Nat.max_le.mpr ⟨l,l'⟩
theorem qW (ns:List Int):d9 (ns.map .int)=some (ns.map .int):=by
 induction ns with
 |nil=>unfold d9;rfl
 |cons n ns ih=>rw[Yp];unfold d9;rw[ih];unfold fu;rfl
theorem oJ (ns:List Int):gH (ns.map .int)=0:=by
 induction ns with
 |nil=>unfold gH;rfl
 |cons n ns ih=>rw[Yp];unfold gH;rw[ih];unfold cT;rfl
theorem nE:∀(ns ms:List Int),k_ (ns.map .int) (ms.map .int)=decide (ns=ms)
 | [],[]=>by unfold k_;simp
 | [],m::ms=>by simp[k_]
 |n::ns,[]=>by simp[k_]
 |n::ns,m::ms=>by
  rw[Yp,Yp];unfold k_ iP;rw[nE ns ms,aap];simp
theorem Lj (ns ms:List Int):kR (.lst (ns.map .int)) (.lst (ms.map .int))=.ok (decide (ns=ms)):=by
 unfold kR;have e1:∀ns:List Int,fu (.lst (ns.map .int))=some (.lst (ns.map .int)):=λns=>by unfold fu;rw[qW];rfl
 rw[e1,e1];dsimp only;rw[hV (by unfold cT;rw[oJ];lia)];unfold iP;rw[nE]
theorem IH (ns ms:List Int):kR (.tup (ns.map .int)) (.tup (ms.map .int))=.ok (decide (ns=ms)):=by
 unfold kR;have e1:∀ns:List Int,fu (.tup (ns.map .int))=some (.tup (ns.map .int)):=λns=>by unfold fu;rw[qW];rfl
 rw[e1,e1];dsimp only;rw[hV (by unfold cT;rw[oJ];lia)];unfold iP;rw[nE]
theorem Eh (a b:Bool):kR (.bl a) (.bl b)=.ok (a==b):=by
 unfold kR fu;dsimp only;rw[hV (by unfold cT;lia)];unfold iP;rfl
theorem aR (a b:Int):kR (.int a) (.int b)=.ok (a==b):=by
 unfold kR fu;dsimp only;rw[hV (by unfold cT;lia)];unfold iP;rfl
noncomputable def bj (n:Nat):List Int:=(YS n).map λi=>(i:Nat)
def jO (n:Nat):aX 0 n=(bj n).map .int:=by
 unfold aX bj;rw[Y9];exact aam λi _=>by show U.int (0+(i:Int))=.int _;rw[Int.zero_add]
def e_ (n:Nat):(bj n).length=n:=by unfold bj;rw[X8,Zh]
theorem lV {x:Int}:x∈bj n↔0<=x/\x<n:=by
 unfold bj;rw[Yz];constructor
 ·rintro⟨i,h,rfl⟩;have:=Zi.mp h;lia
 ·intro h;exact⟨x.toNat,Zi.mpr (by lia),by lia⟩
def b9 (us:List U)(c:U->Bool):mN [.lst (us.map λu=>.bl (c u))]=.ok (.bl (us.all c)):=by
 have e:us.map (λu=>U.bl (c u))=(us.map c).map .bl:=by rw[Y9];rfl
 unfold mN;dsimp only;rw[e,Fw];dsimp only;rw[acW];rfl
def FR (h:ns.length<64):uC [.tup (ns.map .int)]=.ok (.lst ((mO ns).map .int)):=by
 unfold uC;dsimp only;rw[fE];dsimp only;rw[hV h]
end L2
namespace L2
def inb (s:String){T:String}{u:U}{ρ:Ev}{b:Bool}(h:Qf u=s)(h1:¬s="script")(h2:kh s T=b):kX T u ρ=.ok (.bl b,ρ):=by unfold kX;rw[h,hU h1,h2]
def rP {ρ:Ev}:kX "bool" (.non) ρ=.ok (.bl false,ρ):=inb "NoneType" rfl (by decide) (by decide)
def uI {ρ:Ev}:kX "int" (.non) ρ=.ok (.bl false,ρ):=inb "NoneType" rfl (by decide) (by decide)
def uJ {ρ:Ev}:kX "str" (.non) ρ=.ok (.bl false,ρ):=inb "NoneType" rfl (by decide) (by decide)
def rQ {ρ:Ev}:kX "list" (.non) ρ=.ok (.bl false,ρ):=inb "NoneType" rfl (by decide) (by decide)
def pW {ρ:Ev}:kX "tuple" (.non) ρ=.ok (.bl false,ρ):=inb "NoneType" rfl (by decide) (by decide)
def rR {ρ:Ev}:kX "dict" (.non) ρ=.ok (.bl false,ρ):=inb "NoneType" rfl (by decide) (by decide)
def uK {b:Bool}{ρ:Ev}:kX "bool" (.bl b) ρ=.ok (.bl true,ρ):=inb "bool" rfl (by decide) (by decide)
def xm {b:Bool}{ρ:Ev}:kX "int" (.bl b) ρ=.ok (.bl true,ρ):=inb "bool" rfl (by decide) (by decide)
def xn {b:Bool}{ρ:Ev}:kX "str" (.bl b) ρ=.ok (.bl false,ρ):=inb "bool" rfl (by decide) (by decide)
def uL {b:Bool}{ρ:Ev}:kX "list" (.bl b) ρ=.ok (.bl false,ρ):=inb "bool" rfl (by decide) (by decide)
def rS {b:Bool}{ρ:Ev}:kX "tuple" (.bl b) ρ=.ok (.bl false,ρ):=inb "bool" rfl (by decide) (by decide)
def uM {b:Bool}{ρ:Ev}:kX "dict" (.bl b) ρ=.ok (.bl false,ρ):=inb "bool" rfl (by decide) (by decide)
def rT {i:Int}{ρ:Ev}:kX "bool" (.int i) ρ=.ok (.bl false,ρ):=inb "int" rfl (by decide) (by decide)
def uN {i:Int}{ρ:Ev}:kX "int" (.int i) ρ=.ok (.bl true,ρ):=inb "int" rfl (by decide) (by decide)
def uO {i:Int}{ρ:Ev}:kX "str" (.int i) ρ=.ok (.bl false,ρ):=inb "int" rfl (by decide) (by decide)
def rV {i:Int}{ρ:Ev}:kX "list" (.int i) ρ=.ok (.bl false,ρ):=inb "int" rfl (by decide) (by decide)
def pX {i:Int}{ρ:Ev}:kX "tuple" (.int i) ρ=.ok (.bl false,ρ):=inb "int" rfl (by decide) (by decide)
def rW {i:Int}{ρ:Ev}:kX "dict" (.int i) ρ=.ok (.bl false,ρ):=inb "int" rfl (by decide) (by decide)
def rX {x:Str}{ρ:Ev}:kX "bool" (.str x) ρ=.ok (.bl false,ρ):=inb "str" rfl (by decide) (by decide)
def uP {x:Str}{ρ:Ev}:kX "int" (.str x) ρ=.ok (.bl false,ρ):=inb "str" rfl (by decide) (by decide)
def uQ {x:Str}{ρ:Ev}:kX "str" (.str x) ρ=.ok (.bl true,ρ):=inb "str" rfl (by decide) (by decide)
def rY {x:Str}{ρ:Ev}:kX "list" (.str x) ρ=.ok (.bl false,ρ):=inb "str" rfl (by decide) (by decide)
def pY {x:Str}{ρ:Ev}:kX "tuple" (.str x) ρ=.ok (.bl false,ρ):=inb "str" rfl (by decide) (by decide)
def rZ {x:Str}{ρ:Ev}:kX "dict" (.str x) ρ=.ok (.bl false,ρ):=inb "str" rfl (by decide) (by decide)
def r6 {us:List U}{ρ:Ev}:kX "bool" (.tup us) ρ=.ok (.bl false,ρ):=inb "tuple" rfl (by decide) (by decide)
def uR {us:List U}{ρ:Ev}:kX "int" (.tup us) ρ=.ok (.bl false,ρ):=inb "tuple" rfl (by decide) (by decide)
def uS {us:List U}{ρ:Ev}:kX "str" (.tup us) ρ=.ok (.bl false,ρ):=inb "tuple" rfl (by decide) (by decide)
def r9 {us:List U}{ρ:Ev}:kX "list" (.tup us) ρ=.ok (.bl false,ρ):=inb "tuple" rfl (by decide) (by decide)
def pZ {us:List U}{ρ:Ev}:kX "tuple" (.tup us) ρ=.ok (.bl true,ρ):=inb "tuple" rfl (by decide) (by decide)
def r_ {us:List U}{ρ:Ev}:kX "dict" (.tup us) ρ=.ok (.bl false,ρ):=inb "tuple" rfl (by decide) (by decide)
def sd {us:List U}{ρ:Ev}:kX "bool" (.lst us) ρ=.ok (.bl false,ρ):=inb "list" rfl (by decide) (by decide)
def uT {us:List U}{ρ:Ev}:kX "int" (.lst us) ρ=.ok (.bl false,ρ):=inb "list" rfl (by decide) (by decide)
def uU {us:List U}{ρ:Ev}:kX "str" (.lst us) ρ=.ok (.bl false,ρ):=inb "list" rfl (by decide) (by decide)
def se {us:List U}{ρ:Ev}:kX "list" (.lst us) ρ=.ok (.bl true,ρ):=inb "list" rfl (by decide) (by decide)
def p0 {us:List U}{ρ:Ev}:kX "tuple" (.lst us) ρ=.ok (.bl false,ρ):=inb "list" rfl (by decide) (by decide)
def sf {us:List U}{ρ:Ev}:kX "dict" (.lst us) ρ=.ok (.bl false,ρ):=inb "list" rfl (by decide) (by decide)
def sh {ρ:Ev}:kX "bool" (.dct [] []) ρ=.ok (.bl false,ρ):=inb "dict" rfl (by decide) (by decide)
def uW {ρ:Ev}:kX "int" (.dct [] []) ρ=.ok (.bl false,ρ):=inb "dict" rfl (by decide) (by decide)
def uX {ρ:Ev}:kX "str" (.dct [] []) ρ=.ok (.bl false,ρ):=inb "dict" rfl (by decide) (by decide)
def su {ρ:Ev}:kX "list" (.dct [] []) ρ=.ok (.bl false,ρ):=inb "dict" rfl (by decide) (by decide)
def p6 {ρ:Ev}:kX "tuple" (.dct [] []) ρ=.ok (.bl false,ρ):=inb "dict" rfl (by decide) (by decide)
def sv {ρ:Ev}:kX "dict" (.dct [] []) ρ=.ok (.bl true,ρ):=inb "dict" rfl (by decide) (by decide)
def RI (u:U):Prop:=match u with
 | .scr _=>False
 |_=>True
noncomputable def Aj (u:U):Bool:=match u with
 | .int _=>true
 |_=>false
noncomputable def sW (lo hi:Int)(u:U):Bool:=match u with
 | .int i=>decide (lo<=i)&&decide (i<=hi)
 |_=>false
theorem cZ (h:vP u):RI u:=by
 obtain⟨d,e,_⟩:=h;cases u<;>first|trivial|(unfold fu at e;cases e)
theorem Lk (i:Int):vP (.int i):=⟨.int i,by unfold fu;rfl,by unfold cT;lia⟩
theorem bN (i:Str):vP (.str i):=⟨.str i,by unfold fu;rfl,by unfold cT;lia⟩
theorem yj:∀{us:List U},us.all Aj=true->∃ns:List Int,us=ns.map .int
 | [],_=>⟨[],rfl⟩
 |u::us,h=>by
  rw[ZU,Ys] at h;obtain⟨ns,e⟩:=yj h.2;cases u<;>first|(cases h.1;done)|skip
  rename_i i;exact⟨i::ns,by rw[e];rfl⟩
theorem Ll (h:sW lo hi u=true):Aj u=true:=by cases u<;>first|rfl|cases h
def Ei {α:Type}{us:List α}{lo hi:Option Int}{x:α}(h:x∈ju us lo hi):x∈us:=Zr (Zd h)
def au:type_of% @Mp/\type_of% @HJ/\type_of% @Vt/\type_of% @Cp/\type_of% @Mq/\type_of% @HK/\type_of% @Ro/\type_of% @Vu/\type_of% @Mr/\type_of% @HL/\type_of% @Mt/\type_of% @HM/\type_of% @Mv/\type_of% @Rq/\type_of% @Mw/\type_of% @Rr/\type_of% @D1/\type_of% @Rt/\type_of% @HN/\type_of% @D2/\type_of% @HP/\type_of% @HQ/\type_of% @Ru/\type_of% @Rv/\type_of% @Mz/\type_of% @D4/\type_of% @Rx/\type_of% @MA/\type_of% @MB/\type_of% @Vy/\type_of% @HU/\type_of% @D5/\type_of% @MC/\type_of% @D6/\type_of% @Ry/\type_of% @HV/\type_of% @HW/\type_of% @D7/\type_of% @HX/\type_of% @D8/\type_of% @yf/\type_of% @HY/\type_of% @HZ/\type_of% @H0/\type_of% @H9/\type_of% @MD/\type_of% @ME/\type_of% @MF/\type_of% @MG/\type_of% @H_/\type_of% @MJ/\type_of% @MK/\type_of% @Ia/\type_of% @Ib/\type_of% @ML/\type_of% @Ic/\type_of% @MM/\type_of% @yg/\type_of% @D9/\type_of% @D_/\type_of% @Ea/\type_of% @Eb/\type_of% @Ie/\type_of% @Ig/\type_of% @Ih/\type_of% @Ii/\type_of% @Ij/\type_of% @Im/\type_of% @Io/\type_of% @MO/\type_of% @MP/\type_of% @MQ/\type_of% @Iq/\type_of% @Ir/\type_of% @MR/\type_of% @RC/\type_of% @Iu/\type_of% @Ed/\type_of% @Cq/\type_of% @Ee/\type_of% @MS/\type_of% @Ai/\type_of% @xk/\type_of% @xl/\type_of% @Iv/\type_of% @kZ/\type_of% @qU/\type_of% @MT/\type_of% @MU/\type_of% @Iw/\type_of% @MV/\type_of% @MW/\type_of% @MX/\type_of% @RD/\type_of% @RE/\type_of% @nW/\type_of% @RF/\type_of% @MY/\type_of% @MZ/\type_of% @M3/\type_of% @M4/\type_of% @M5/\type_of% @M6/\type_of% @M7/\type_of% @Iy/\type_of% @Iz/\type_of% @IA/\type_of% @IB/\type_of% @IC/\type_of% @ID/\type_of% @IE/\type_of% @M8/\type_of% @M9/\type_of% @IF/\type_of% @IG/\type_of% @RG/\type_of% @M_/\type_of% @Na/\type_of% @Nb/\type_of% @Mx/\type_of% @rP/\type_of% @uI/\type_of% @uJ/\type_of% @rQ/\type_of% @pW/\type_of% @rR/\type_of% @uK/\type_of% @xm/\type_of% @xn/\type_of% @uL/\type_of% @rS/\type_of% @uM/\type_of% @rT/\type_of% @uN/\type_of% @uO/\type_of% @rV/\type_of% @pX/\type_of% @rW/\type_of% @rX/\type_of% @uP/\type_of% @uQ/\type_of% @rY/\type_of% @pY/\type_of% @rZ/\type_of% @r6/\type_of% @uR/\type_of% @uS/\type_of% @r9/\type_of% @pZ/\type_of% @r_/\type_of% @sd/\type_of% @uT/\type_of% @uU/\type_of% @se/\type_of% @p0/\type_of% @sf/\type_of% @sh/\type_of% @uW/\type_of% @uX/\type_of% @su/\type_of% @p6/\type_of% @sv/\type_of% @Ef/\type_of% @Eg:=
 ⟨@Mp,@HJ,@Vt,@Cp,@Mq,@HK,@Ro,@Vu,@Mr,@HL,@Mt,@HM,@Mv,@Rq,@Mw,@Rr,@D1,@Rt,@HN,@D2,@HP,@HQ,@Ru,@Rv,@Mz,@D4,@Rx,@MA,@MB,@Vy,@HU,@D5,@MC,@D6,@Ry,@HV,@HW,@D7,@HX,@D8,@yf,@HY,@HZ,@H0,@H9,@MD,@ME,@MF,@MG,@H_,@MJ,@MK,@Ia,@Ib,@ML,@Ic,@MM,@yg,@D9,@D_,@Ea,@Eb,@Ie,@Ig,@Ih,@Ii,@Ij,@Im,@Io,@MO,@MP,@MQ,@Iq,@Ir,@MR,@RC,@Iu,@Ed,@Cq,@Ee,@MS,@Ai,@xk,@xl,@Iv,@kZ,@qU,@MT,@MU,@Iw,@MV,@MW,@MX,@RD,@RE,@nW,@RF,@MY,@MZ,@M3,@M4,@M5,@M6,@M7,@Iy,@Iz,@IA,@IB,@IC,@ID,@IE,@M8,@M9,@IF,@IG,@RG,@M_,@Na,@Nb,@Mx,@rP,@uI,@uJ,@rQ,@pW,@rR,@uK,@xm,@xn,@uL,@rS,@uM,@rT,@uN,@uO,@rV,@pX,@rW,@rX,@uP,@uQ,@rY,@pY,@rZ,@r6,@uR,@uS,@r9,@pZ,@r_,@sd,@uT,@uU,@se,@p0,@sf,@sh,@uW,@uX,@su,@p6,@sv,@Ef,@Eg⟩
end L2
namespace Hc.Ts
noncomputable def iT:Bool->YI->Array YI->Nat->Nat->Nat->StateT YH Sem (Option Nat):=sortPriv% PySem.Builtin.gallop
noncomputable def jv (left:Bool)(key:YI)(arr:Array YI)(base i:Nat):StateT YH Sem (Option Bool):=do
 let x ←ac8 arr (base+i)
 if left then lt' x key else return (←lt' key x).map (!·)
def Cr (left:Bool)(key:YI)(arr:Array YI)(base n hint:Nat):iT left key arr base n hint=(do
 let mut lastofs:=0
 let mut ofs:=1
 let mut lo:=0
 let mut hi:=0
 let some right ←jv left key arr base hint|return none
 if right then
  let maxofs:=n-hint
  for _ in [0:n] do
   if ofs≥maxofs then break
   let some more ←jv left key arr base (hint+ofs)|return none
   if !more then break
   lastofs:=ofs
   ofs:=2*ofs+1
  lo:=hint+lastofs+1
  hi:=hint+min ofs maxofs
 else
  let maxofs:=hint+1
  for _ in [0:n] do
   if ofs≥maxofs then break
   let some found ←jv left key arr base (hint-ofs)|return none
   if found then break
   lastofs:=ofs
   ofs:=2*ofs+1
  lo:=hint+1-min ofs maxofs
  hi:=hint-lastofs
 for _ in [0:n] do
  if lo≥hi then break
  let m:=lo+(hi-lo) / 2
  let some more ←jv left key arr base m|return none
  if more then lo:=m+1 else hi:=m
 return some hi):=rfl
section
variable {A:Zk}
noncomputable def Lm (left:Bool)(key:YI)(arr:Array YI)(base n W4 U9:Nat):StateT YH Sem (Option Nat):=do
 let mut lo:=W4
 let mut hi:=U9
 for _ in [0:n] do
  if lo≥hi then break
  let m:=lo+(hi-lo) / 2
  let some more ←jv left key arr base m|return none
  if more then lo:=m+1 else hi:=m
 return some hi
theorem Ej {left:Bool}{key:YI}{base lo hi:Nat}{st:YH}{Q:Option Nat->YH->Prop}(b:Nat->Bool)(hb:∀i,i<n->∀Q:Option Bool->YH->Prop,Q (some (b i)) st->wpS M A E s (jv left key arr base i) Q st)(mono:∀i j,i<=j->j<n->b j=true->b i=true)(h1:lo<=hi)(h2:hi<=n)(hl:∀i,i<lo->b i=true)(hr:∀i,hi<=i->i<n->b i=false)(h:∀k,k<=n->(∀i,i<k->b i=true)->(∀i,k<=i->i<n->b i=false)->Q (some k) st):wpS M A E s (Lm left key arr base n lo hi) Q st:=by
 unfold Lm;refine Yt (aaS (ZO (I:=λx c bb=>bb=st/\∃l r,c=(none,l,r)/\l<=r/\r<=n/\r-l<=n-x/\(∀i,i<l->b i=true)/\∀i,r<=i->i<n->b i=false)
  (Q:=λc bb=>bb=st/\∃k,c=(none,k,k)/\k<=n/\(∀i,i<k->b i=true)/\∀i,k<=i->i<n->b i=false) ?step ?fin ⟨rfl,lo,hi,rfl,h1,h2,by lia,hl,hr⟩) ?post)
 case fin=>
  rintro c bb ⟨rfl,l,r,rfl,a1,a2,a3,a4,a5⟩;have:l=r:=by lia
  subst this;exact⟨rfl,l,rfl,a2,a4,a5⟩
 case step=>
  rintro x c bb _ hx ⟨rfl,l,r,rfl,a1,a2,a3,a4,a5⟩;dsimp only;by_cases c:l≥r
  ·rw[hV c];have:l=r:=by lia
   subst this;exact YD ⟨rfl,l,rfl,a2,a4,a5⟩
  ·rw[hU c];refine Yt (hb _ (by lia) _ ?_);dsimp only;cases e:b (l+(r-l) / 2) with
   |true=>
    rw[hV rfl];exact YD ⟨rfl,_,r,rfl,by lia,a2,by lia,λi hi=>mono i _ (by lia) (by lia) e,a5⟩
   |false=>
    rw[hU Yd];refine YD ⟨rfl,l,_,rfl,by lia,by lia,by lia,a4,λi h1 h2=>?_⟩;cases e2:b i with
    |false=>rfl
    |true=>rw[mono _ i h1 h2 e2] at e;cases e
 case post=>
  rintro c bb ⟨rfl,k,rfl,a1,a2,a3⟩;exact YD (h k a1 a2 a3)
theorem xo {left:Bool}{key:YI}{base hint:Nat}{st:YH}{Q:Option Nat->YH->Prop}(b:Nat->Bool)(hb:∀i,i<n->∀Q:Option Bool->YH->Prop,Q (some (b i)) st->wpS M A E s (jv left key arr base i) Q st)(mono:∀i j,i<=j->j<n->b j=true->b i=true)(hh:hint<n)(h:∀k,k<=n->(∀i,i<k->b i=true)->(∀i,k<=i->i<n->b i=false)->Q (some k) st):wpS M A E s (iT left key arr base n hint) Q st:=by
 have low:∀i j,i<=j->j<n->b i=false->b j=false:=λi j h1 h2 e=>by
  cases e2:b j with
  |false=>rfl
  |true=>rw[mono i j h1 h2 e2] at e;cases e
 rw[Cr];refine Yt (hb hint hh _ ?_);dsimp only;cases e0:b hint with
 |true=>
  rw[hV rfl];refine Yt (aaS (ZO (I:=λx c bb=>bb=st/\∃l o,c=(none,l,o)/\l<o/\x+1<=o/\hint+l<n/\b (hint+l)=true)
   (Q:=λc bb=>bb=st/\∃l o,c=(none,l,o)/\l<o/\hint+l<n/\b (hint+l)=true/\(o≥n-hint\/b (hint+o)=false)) ?step ?fin ⟨rfl,0,1,rfl,by lia,by lia,hh,e0⟩) ?post)
  case fin=>
   rintro c bb ⟨rfl,l,o,rfl,a1,a2,a3,a4⟩;exact⟨rfl,l,o,rfl,a1,a3,a4,.inl (by lia)⟩
  case step=>
   rintro x c bb _ hx ⟨rfl,l,o,rfl,a1,a2,a3,a4⟩;dsimp only;by_cases c:o≥n-hint
   ·rw[hV c];exact YD ⟨rfl,l,o,rfl,a1,a3,a4,.inl c⟩
   ·rw[hU c];refine Yt (hb _ (by lia) _ ?_);dsimp only;cases e:b (hint+o) with
    |true=>
     rw[hU (by decide)];exact YD ⟨rfl,o,_,rfl,by lia,by lia,by lia,e⟩
    |false=>
     rw[hV (by decide)];exact YD ⟨rfl,l,o,rfl,a1,a3,a4,.inr e⟩
  case post=>
   rintro c bb ⟨rfl,l,o,rfl,a1,a3,a4,a5⟩;show wpS _ _ _ _ (Lm left key arr base n (hint+l+1) (hint+min o (n-hint))) _ _;refine Ej b hb mono (by lia) (by lia) (λi hi=>mono i _ (by lia) a3 a4) (λi h1 h2=>?_) h;rcases a5 with a5|a5
   ·lia
   ·by_cases c:o<=n-hint
    ·rw[Z4 c] at h1;exact low _ i h1 h2 a5
    ·lia
 |false=>
  rw[hU Yd];refine Yt (aaS (ZO (I:=λx c bb=>bb=st/\∃l o,c=(none,l,o)/\l<o/\x+1<=o/\l<=hint/\b (hint-l)=false)
   (Q:=λc bb=>bb=st/\∃l o,c=(none,l,o)/\l<o/\l<=hint/\b (hint-l)=false/\(o≥hint+1\/b (hint-o)=true)) ?step ?fin ⟨rfl,0,1,rfl,by lia,by lia,by lia,e0⟩) ?post)
  case fin=>
   rintro c bb ⟨rfl,l,o,rfl,a1,a2,a3,a4⟩;exact⟨rfl,l,o,rfl,a1,a3,a4,.inl (by lia)⟩
  case step=>
   rintro x c bb _ hx ⟨rfl,l,o,rfl,a1,a2,a3,a4⟩;dsimp only;by_cases c:o≥hint+1
   ·rw[hV c];exact YD ⟨rfl,l,o,rfl,a1,a3,a4,.inl c⟩
   ·rw[hU c];refine Yt (hb _ (by lia) _ ?_);dsimp only;cases e:b (hint-o) with
    |true=>
     rw[hV rfl];exact YD ⟨rfl,l,o,rfl,a1,a3,a4,.inr e⟩
    |false=>
     rw[hU Yd];exact YD ⟨rfl,o,_,rfl,by lia,by lia,by lia,e⟩
  case post=>
   rintro c bb ⟨rfl,l,o,rfl,a1,a3,a4,a5⟩;show wpS _ _ _ _ (Lm left key arr base n (hint+1-min o (hint+1)) (hint-l)) _ _;refine Ej b hb mono (by lia) (by lia) (λi hi=>?_) (λi h1 h2=>low _ i h1 h2 a4) h;rcases a5 with a5|a5
   ·lia
   ·by_cases c:o<=hint+1
    ·rw[Z4 c] at hi;exact mono i _ (by lia) (by lia) a5
    ·lia
end
end Hc.Ts
namespace Hc.Ts
section
variable {O:adp}(key:YI->O.α)
def ki (l:List YI):Prop:=l.Pairwise λx y=>O.kle (key x) (key y)
structure MI (T o ra rb:List YI):Prop where
 perm:(o++(ra++rb)).Perm T
 so:ki key o
 sa:ki key ra
 sb:ki key rb
 oa:∀x∈o,∀y∈ra,O.kle (key x) (key y)
 ob:∀x∈o,∀y∈rb,O.kle (key x) (key y)
structure MH (T ra rb o:List YI):Prop where
 perm:((ra++rb)++o).Perm T
 so:ki key o
 sa:ki key ra
 sb:ki key rb
 oa:∀x∈ra,∀y∈o,O.kle (key x) (key y)
 ob:∀x∈rb,∀y∈o,O.kle (key x) (key y)
variable {key}
def cw {r:List YI}:ki key (l++r)↔ki key l/\ki key r/\∀x∈l,∀y∈r,O.kle (key x) (key y):=List.pairwise_append
theorem MI.stepA {x:List YI}(h:MI key T o (x++ra) rb)(hx:∀a∈x,∀b∈rb,O.kle (key a) (key b)):MI key T (o++x) ra rb:=by
 obtain⟨s1,s2,s3⟩:=cw.mp h.sa;refine⟨?_,cw.mpr ⟨h.so,s1,λa ha b hb=>h.oa a ha b (ZY _ hb)⟩,s2,h.sb,λa ha b hb=>?_,λa ha b hb=>?_⟩
 ·have e:o++x++(ra++rb)=o++(x++ra++rb):=by simp[YB]
  rw[e];exact h.perm
 ·rcases Yx.mp ha with ha|ha
  ·exact h.oa a ha b (YM _ hb)
  ·exact s3 a ha b hb
 ·rcases Yx.mp ha with ha|ha
  ·exact h.ob a ha b hb
  ·exact hx a ha b hb
theorem MI.stepB (h:MI key T o ra (y++rb))(hy:∀b∈y,∀a∈ra,O.kle (key b) (key a)):MI key T (o++y) ra rb:=by
 obtain⟨s1,s2,s3⟩:=cw.mp h.sb;refine⟨?_,cw.mpr ⟨h.so,s1,λa ha b hb=>h.ob a ha b (ZY _ hb)⟩,h.sa,s2,λa ha b hb=>?_,λa ha b hb=>?_⟩
 ·refine List.Perm.trans ?_ h.perm;have e:o++y++(ra++rb)=o++((y++ra)++rb):=by simp[YB]
  have e2:o++(ra++(y++rb))=o++((ra++y)++rb):=by simp[YB]
  rw[e,e2];exact Zz o (ZL rb ZA)
 ·rcases Yx.mp ha with ha|ha
  ·exact h.oa a ha b hb
  ·exact hy a ha b hb
 ·rcases Yx.mp ha with ha|ha
  ·exact h.ob a ha b (YM _ hb)
  ·exact s3 a ha b hb
def MI.endA (h:MI key T o ra []):(o++ra).Perm T/\ki key (o++ra):=by
 refine⟨?_,cw.mpr ⟨h.so,h.sa,h.oa⟩⟩;have:=h.perm;rw[YV] at this;exact this
def MI.endB (h:MI key T o [] rb):(o++rb).Perm T/\ki key (o++rb):=⟨h.perm,cw.mpr ⟨h.so,h.sb,h.ob⟩⟩
theorem MI.last (h:MI key T o ra rb)(hl:∀b∈rb,∀a∈ra,O.kle (key b) (key a)):(o++(rb++ra)).Perm T/\ki key (o++(rb++ra)):=
 ⟨(Zz o ZA).trans h.perm,cw.mpr ⟨h.so,cw.mpr ⟨h.sb,h.sa,hl⟩,λa ha b hb=>by
  rcases Yx.mp hb with hb|hb
  ·exact h.ob a ha b hb
  ·exact h.oa a ha b hb⟩⟩
theorem MH.stepA {x:List YI}(h:MH key T (ra++x) rb o)(hx:∀b∈rb,∀a∈x,O.kle (key b) (key a)):MH key T ra rb (x++o):=by
 obtain⟨s1,s2,s3⟩:=cw.mp h.sa;refine⟨?_,cw.mpr ⟨s2,h.so,λa ha b hb=>h.oa a (YM _ ha) b hb⟩,s1,h.sb,λa ha b hb=>?_,λa ha b hb=>?_⟩
 ·refine List.Perm.trans ?_ h.perm;have e:ra++rb++(x++o)=(ra++(rb++x))++o:=by simp[YB]
  have e2:ra++x++rb++o=(ra++(x++rb))++o:=by simp[YB]
  rw[e,e2];exact ZL o (Zz ra ZA)
 ·rcases Yx.mp hb with hb|hb
  ·exact s3 a ha b hb
  ·exact h.oa a (ZY _ ha) b hb
 ·rcases Yx.mp hb with hb|hb
  ·exact hx a ha b hb
  ·exact h.ob a ha b hb
theorem MH.stepB (h:MH key T ra (rb++y) o)(hy:∀a∈ra,∀b∈y,O.kle (key a) (key b)):MH key T ra rb (y++o):=by
 obtain⟨s1,s2,s3⟩:=cw.mp h.sb;refine⟨?_,cw.mpr ⟨s2,h.so,λa ha b hb=>h.ob a (YM _ ha) b hb⟩,h.sa,s1,λa ha b hb=>?_,λa ha b hb=>?_⟩
 ·have e:ra++rb++(y++o)=ra++(rb++y)++o:=by simp[YB]
  rw[e];exact h.perm
 ·rcases Yx.mp hb with hb|hb
  ·exact hy a ha b hb
  ·exact h.oa a ha b hb
 ·rcases Yx.mp hb with hb|hb
  ·exact s3 a ha b hb
  ·exact h.ob a (ZY _ ha) b hb
def MH.endB (h:MH key T [] rb o):(rb++o).Perm T/\ki key (rb++o):=⟨h.perm,cw.mpr ⟨h.sb,h.so,h.ob⟩⟩
def MH.endA (h:MH key T ra [] o):(ra++o).Perm T/\ki key (ra++o):=by
 refine⟨?_,cw.mpr ⟨h.sa,h.so,h.oa⟩⟩;have:=h.perm;rw[YV] at this;exact this
theorem MH.first (h:MH key T ra rb o)(hl:∀b∈rb,∀a∈ra,O.kle (key b) (key a)):((rb++ra)++o).Perm T/\ki key ((rb++ra)++o):=
 ⟨(ZL o ZA).trans h.perm,cw.mpr ⟨cw.mpr ⟨h.sb,h.sa,hl⟩,h.so,λa ha b hb=>by
  rcases Yx.mp ha with ha|ha
  ·exact h.ob a ha b hb
  ·exact h.oa a ha b hb⟩⟩
end
structure oq (M:Model)(A:Zk)(E:Yj->Yv->Prop)(s:Yv)(O:adp)(key:YI->O.α)(knd:abz)(D:YI->Prop):Prop where
 lt:∀(x y:YI) (st:YH) (Q:Option Bool->YH->Prop),D x->D y->ZM st=knd->Q (some (O.blt (key x) (key y))) st->wpS M A E s (lt' x y) Q st
section
variable {A:Zk}{O:adp}{key:YI->O.α}{knd:abz}{D:YI->Prop}
def cI {x:YI}{st:YH}{Q:YI->YH->Prop}(h:arr.toList[i]? = some x)(q:Q x st):wpS M A E s (ac8 arr i) Q st:=by
 have h:arr[i]? = some x:=by rw[←YJ];exact h
 rw[elem'_eq,h];exact YD q
theorem oK (C:oq M A E s O key knd D){kx:YI}{base hint:Nat}{seg:List YI}{st:YH}{Q:Option Nat->YH->Prop}(Qa:∀i x,seg[i]? = some x->arr.toList[base+i]? = some x)(hs:ki key seg)(hD:∀x∈seg,D x)(hk:D kx)(kd:ZM st=knd)(hh:hint<seg.length)(h:∀k,k<=seg.length->(∀x∈seg.take k,O.kle (key x) (key kx))->(∀x∈seg.drop k,O.klt (key kx) (key x))->Q (some k) st):wpS M A E s (iT false kx arr base seg.length hint) Q st:=by
 have at_:∀i,(hi:i<seg.length)->seg[i]? = some seg[i]:=λi hi=>X7 hi;refine xo (λi=> !(match seg[i]? with|some x=>O.blt (key kx) (key x)|none=>false)) (λi hi Q q=>?_) (λi j BB hj e=>?_) hh λk Gy h1 h2=>h k Gy (λx hx=>?_) λx hx=>?_
 ·rw[at_ i hi] at q;unfold jv;refine Yt (cI (Qa i _ (at_ i hi)) ?_);rw[hU Yd];exact Yt (C.lt _ _ st _ hk (hD _ (Za hi)) kd (YD q))
 ·have hi:i<seg.length:=by lia
  simp only[at_ i hi,at_ j hj,Bool.not_eq_true'] at e ⊢;by_cases c:i=j
  ·subst c;exact e
  ·have:=aaU.mp hs i j hi hj (by lia);exact Y3 this e
 ·obtain⟨i,hi,rfl⟩:=aay.mp hx;rw[Yy] at hi;have:=h1 i (by lia);simp only[at_ i (by lia),Bool.not_eq_true'] at this;rw[ace];exact this
 ·obtain⟨i,hi,rfl⟩:=aay.mp hx;rw[YO] at hi;have:=h2 (k+i) (by lia) (by lia);simp only[at_ (k+i) (by lia),Bool.not_eq_false'] at this;rw[List.getElem_drop];exact this
theorem oM (C:oq M A E s O key knd D){kx:YI}{base hint:Nat}{seg:List YI}{st:YH}{Q:Option Nat->YH->Prop}(Qa:∀i x,seg[i]? = some x->arr.toList[base+i]? = some x)(hs:ki key seg)(hD:∀x∈seg,D x)(hk:D kx)(kd:ZM st=knd)(hh:hint<seg.length)(h:∀k,k<=seg.length->(∀x∈seg.take k,O.klt (key x) (key kx))->(∀x∈seg.drop k,O.kle (key kx) (key x))->Q (some k) st):wpS M A E s (iT true kx arr base seg.length hint) Q st:=by
 have at_:∀i,(hi:i<seg.length)->seg[i]? = some seg[i]:=λi hi=>X7 hi;refine xo (λi=>match seg[i]? with|some x=>O.blt (key x) (key kx)|none=>false) (λi hi Q q=>?_) (λi j BB hj e=>?_) hh λk Gy h1 h2=>h k Gy (λx hx=>?_) λx hx=>?_
 ·rw[at_ i hi] at q;unfold jv;refine Yt (cI (Qa i _ (at_ i hi)) ?_);rw[hV rfl];exact C.lt _ _ st _ (hD _ (Za hi)) hk kd q
 ·have hi:i<seg.length:=by lia
  simp only[at_ i hi,at_ j hj] at e ⊢;by_cases c:i=j
  ·subst c;exact e
  ·have:=aaU.mp hs i j hi hj (by lia);exact KeyOrd.klt_of_kle_of_klt this e
 ·obtain⟨i,hi,rfl⟩:=aay.mp hx;rw[Yy] at hi;have:=h1 i (by lia);simp only[at_ i (by lia)] at this;rw[ace];exact this
 ·obtain⟨i,hi,rfl⟩:=aay.mp hx;rw[YO] at hi;have:=h2 (k+i) (by lia) (by lia);simp only[at_ (k+i) (by lia)] at this;rw[List.getElem_drop];exact this
end
end Hc.Ts
namespace Hc.Ts
noncomputable abbrev eK (st:YH)(g:Nat):YH:=SortSt.mk' (ZM st) (Y8 st) (Y0 st) g (abA st)
noncomputable def dj (g:Nat):StateT YH Sem Unit:=modify λs=>eK s g
noncomputable def uY:Array YI->Array YI->StateT YH Sem (Array YI):=sortPriv% PySem.Builtin.mergeLo
noncomputable abbrev Nc:=Option (Array YI)×Array YI×Nat×Nat×Nat×Nat×Nat
noncomputable abbrev Qi:=Option (Array YI)×Array YI×Nat×Nat×Nat×Nat
noncomputable abbrev Tc:=Option (Array YI)×Array YI×Nat×Nat×Nat
noncomputable def jh (a b out:Array YI)(ia ib:Nat):Array YI:=out++a.extract ia a.size++b.extract ib b.size
noncomputable def oN (a b out:Array YI)(ia ib:Nat):Array YI:=out++b.extract ib b.size++a.extract ia a.size
noncomputable def Ln (a b out:Array YI)(ia ib g k k1:Nat):StateT YH Sem (ForInStep Nc):=do
 let x ←ac8 a ia
 if (ia+1+1==a.size)=true then pure (.done (some (oN a b (out.push x) (ia+1) ib),out.push x,ia+1,ib,g,k,k1))
 else if (decide (k<7)&&decide (k1<7))=true then pure (.done (none,out.push x,ia+1,ib,g,k,k1))
 else pure (.yield (none,out.push x,ia+1,ib,g,k,k1))
noncomputable def Lo (a b out:Array YI)(ia ib g k bc:Nat):StateT YH Sem (ForInStep Nc):=do
 let y ←ac8 b ib
 if (ib+1==b.size)=true then pure (.done (some (jh a b (out.push y) ia (ib+1)),out.push y,ia,ib+1,g,k,bc))
 else do
  let x ←ac8 a ia
  let some k1 ←iT true x b (ib+1) (b.size-(ib+1)) 0|pure (.done (some (jh a b (out.push y) ia (ib+1)),out.push y,ia,ib+1,g,k,bc))
  if k1>0 then
   if (ib+1+k1==b.size)=true then pure (.done (some (jh a b (out.push y++b.extract (ib+1) (ib+1+k1)) ia (ib+1+k1)),out.push y++b.extract (ib+1) (ib+1+k1),ia,ib+1+k1,g,k,k1))
   else Ln a b (out.push y++b.extract (ib+1) (ib+1+k1)) ia (ib+1+k1) g k k1
  else Ln a b (out.push y) ia (ib+1) g k k1
noncomputable def Lp (a b out:Array YI)(ia ib g ac bc:Nat):StateT YH Sem (ForInStep Nc):=do
 dj g
 let y ←ac8 b ib
 let some k ←iT false y a ia (a.size-ia) 0|pure (.done (some (jh a b out ia ib),out,ia,ib,g,ac,bc))
 if k>0 then
  if (ia+k+1==a.size)=true then pure (.done (some (oN a b (out++a.extract ia (ia+k)) (ia+k) ib),out++a.extract ia (ia+k),ia+k,ib,g,k,bc))
  else if (ia+k==a.size)=true then pure (.done (some (jh a b (out++a.extract ia (ia+k)) (ia+k) ib),out++a.extract ia (ia+k),ia+k,ib,g,k,bc))
  else Lo a b (out++a.extract ia (ia+k)) (ia+k) ib g k bc
 else Lo a b out ia ib g k bc
noncomputable def Uo (a b:Array YI)(_:Nat)(c:Nc):StateT YH Sem (ForInStep Nc):=
 if c.2.2.2.2.1>1 then Lp a b c.2.1 c.2.2.1 c.2.2.2.1 (c.2.2.2.2.1-1) c.2.2.2.2.2.1 c.2.2.2.2.2.2
 else Lp a b c.2.1 c.2.2.1 c.2.2.2.1 c.2.2.2.2.1 c.2.2.2.2.2.1 c.2.2.2.2.2.2
noncomputable def Up (a b:Array YI)(g:Nat)(_:Nat)(c:Qi):StateT YH Sem (ForInStep Qi):=do
 let y ←ac8 b c.2.2.2.1
 let x ←ac8 a c.2.2.1
 let some bWins ←lt' y x|pure (.done (some (jh a b c.2.1 c.2.2.1 c.2.2.2.1),c.2.1,c.2.2.1,c.2.2.2.1,c.2.2.2.2.1,c.2.2.2.2.2))
 if bWins=true then do
   let y ←ac8 b c.2.2.2.1
   if (c.2.2.2.1+1==b.size)=true then pure (.done (some (jh a b (c.2.1.push y) c.2.2.1 (c.2.2.2.1+1)),c.2.1.push y,c.2.2.1,c.2.2.2.1+1,0,c.2.2.2.2.2+1))
   else if c.2.2.2.2.2+1≥g then pure (.done (none,c.2.1.push y,c.2.2.1,c.2.2.2.1+1,0,c.2.2.2.2.2+1))
   else pure (.yield (none,c.2.1.push y,c.2.2.1,c.2.2.2.1+1,0,c.2.2.2.2.2+1))
 else do
   let x ←ac8 a c.2.2.1
   if (c.2.2.1+1+1==a.size)=true then pure (.done (some (oN a b (c.2.1.push x) (c.2.2.1+1) c.2.2.2.1),c.2.1.push x,c.2.2.1+1,c.2.2.2.1,c.2.2.2.2.1+1,0))
   else if c.2.2.2.2.1+1≥g then pure (.done (none,c.2.1.push x,c.2.2.1+1,c.2.2.2.1,c.2.2.2.2.1+1,0))
   else pure (.yield (none,c.2.1.push x,c.2.2.1+1,c.2.2.2.1,c.2.2.2.2.1+1,0))
noncomputable def Uq (a b:Array YI)(_:Nat)(c:Tc):StateT YH Sem (ForInStep Tc):=do
 let d ←forIn [0:a.size+b.size] (none,c.2.1,c.2.2.1,c.2.2.2.1,0,0) (Up a b c.2.2.2.2)
 match d.1 with
 |some r=>pure (.done (some r,d.2.1,d.2.2.1,d.2.2.2.1,c.2.2.2.2))
 |none=>do
  liftM (rule "list.sort.gallop")
  let e ←forIn [0:a.size+b.size] (none,d.2.1,d.2.2.1,d.2.2.2.1,c.2.2.2.2+1,d.2.2.2.2.1,d.2.2.2.2.2) (Uo a b)
  match e.1 with
  |some r=>pure (.done (some r,e.2.1,e.2.2.1,e.2.2.2.1,e.2.2.2.2.1))
  |none=>do
   dj (e.2.2.2.2.1+1)
   pure (.yield (none,e.2.1,e.2.2.1,e.2.2.2.1,e.2.2.2.2.1+1))
theorem yk (a b:Array YI):uY a b=(do
  liftM (rule "list.sort.merge-lo")
  let y ←ac8 b 0
  if (1==b.size)=true then pure (jh a b #[y] 0 1)
  else if (0+1==a.size)=true then pure (oN a b #[y] 0 1)
  else do
   let st ←get
   let c ←forIn [0:a.size+b.size] ((none,#[y],0,1,ac0 st):Tc) (Uq a b)
   match c.1 with
   |some r=>pure r
   |none=>liftM (abF "internal:list.sort.merge-bound")):=by kernel_rfl
section
variable {A:Zk}{O:adp}{key:YI->O.α}{knd:abz}{D:YI->Prop}
def tR (a:Array YI)(i:Nat):(a.extract i a.size).toList=a.toList.drop i:=by
 rw[aaY,aaW];exact ZZ (by simp)
def ym (a:Array YI)(i k:Nat):(a.extract i (i+k)).toList=(a.toList.drop i).take k:=by
 rw[aaY,aaW,aad]
def Ak (a b out:Array YI)(ia ib:Nat):(jh a b out ia ib).toList=out.toList++(a.toList.drop ia++b.toList.drop ib):=by
 unfold jh;rw[Zo,Zo,tR,tR,YB]
def II (a b out:Array YI)(ia ib:Nat):(oN a b out ia ib).toList=out.toList++(b.toList.drop ib++a.toList.drop ia):=by
 unfold oN;rw[Zo,Zo,tR,tR,YB]
def nF (h:i<l.length):l.drop i=[l[i]]++l.drop (i+1):=Z1 h
def uZ (i k:Nat):l.drop i=(l.drop i).take k++l.drop (i+k):=by rw[←ac9,Y_]
def tT (key:YI->O.α)(T:List YI)(r:Array YI):Prop:=r.toList.Perm T/\ki key r.toList
structure LI (key:YI->O.α)(T:List YI)(a b out:Array YI)(ia ib:Nat):Prop where
 ha:ia+1<a.size
 hb:ib<b.size
 mi:MI key T out.toList (a.toList.drop ia) (b.toList.drop ib)
structure LR (key:YI->O.α)(D:YI->Prop)(a b:Array YI):Prop where
 da:∀x∈a.toList,D x
 db:∀x∈b.toList,D x
 last:∀i,i+1=a.size->∀y∈b.toList,∀x,a.toList[i]? = some x->O.kle (key y) (key x)
variable {a b out:Array YI}{ia ib:Nat}
theorem LR.fin (R:LR key D a b)(h:MI key T out.toList (a.toList.drop ia) (b.toList.drop ib))(e:ia+1=a.size):tT key T (oN a b out ia ib):=by
 unfold tT;rw[II];refine h.last λy hy x hx=>?_;have hl:ia<a.toList.length:=by rw[Yi];lia
 have hn:a.toList.drop (ia+1)=[]:=aa_ (by rw[Yi];lia);rw[nF hl,hn,YV,Yw] at hx;subst hx;exact R.last ia e y (Zr hy) _ (X7 hl)
theorem Ek (h:MI key T out.toList (a.toList.drop ia) (b.toList.drop ib))(e:ib=b.size):tT key T (jh a b out ia ib):=by
 have hn:b.toList.drop ib=[]:=aa_ (by rw[Yi];lia);unfold tT;rw[Ak];rw[hn] at h ⊢;rw[YV];exact h.endA
theorem RJ (h:MI key T out.toList (a.toList.drop ia) (b.toList.drop ib))(e:ia=a.size):tT key T (jh a b out ia ib):=by
 have hn:a.toList.drop ia=[]:=aa_ (by rw[Yi];lia);unfold tT;rw[Ak];rw[hn] at h ⊢;rw[Zx];exact h.endB
theorem mS (h:ki key (l.drop i))(hl:i<l.length):∀x∈l.drop i,O.kle (key l[i]) (key x):=by
 intro x hx;rw[nF hl] at h hx;rcases Yx.mp hx with hx|hx
 ·rw[Yw] at hx;subst hx;exact Z5 _
 ·exact (cw.mp h).2.2 _ (by simp) x hx
theorem Nf (h:MI key T out.toList (a.toList.drop ia) (b.toList.drop ib))(hl:ia<a.toList.length)(hx:∀y∈b.toList.drop ib,O.kle (key a.toList[ia]) (key y)):MI key T (out.push a.toList[ia]).toList (a.toList.drop (ia+1)) (b.toList.drop ib):=by
 rw[aa2];rw[nF hl] at h;exact h.stepA λx vQ y hy=>by rw[Yw] at vQ;subst vQ;exact hx y hy
theorem IJ (h:MI key T out.toList (a.toList.drop ia) (b.toList.drop ib))(hl:ib<b.toList.length)(hx:∀x∈a.toList.drop ia,O.kle (key b.toList[ib]) (key x)):MI key T (out.push b.toList[ib]).toList (a.toList.drop ia) (b.toList.drop (ib+1)):=by
 rw[aa2];rw[nF hl] at h;exact h.stepB λx vQ y hy=>by rw[Yw] at vQ;subst vQ;exact hx y hy
def GE (key:YI->O.α)(T:List YI)(a b:Array YI)(n:Nat)(dM:YH)(c:Nc)(st:YH):Prop:=
 (∃g,st=eK dM g)/\((∃r,c.1=some r/\tT key T r)\/(c.1=none/\LI key T a b c.2.1 c.2.2.1 c.2.2.2.1/\n<=c.2.2.1+c.2.2.2.1))
def GS (key:YI->O.α)(T:List YI)(a b:Array YI)(n:Nat)(dM:YH)(r:ForInStep Nc)(st:YH):Prop:=
 match r with
 | .done c=>GE key T a b n dM c st
 | .yield c=>GE key T a b n dM c st/\c.1=none
theorem El (R:LR key D a b){k1:Nat}{st dM:YH}(kK:∃g,st=eK dM g)(h:LI key T a b out ia ib)(hn:n<=ia+ib)(hx:∀(hl:ia<a.toList.length),∀y∈b.toList.drop ib,O.kle (key a.toList[ia]) (key y)) :
  wpS M A E s (Ln a b out ia ib g k k1) (GS key T a b n dM) st:=by
 have hl:ia<a.toList.length:=by have:=h.ha;rw[Yi];lia
 have m:=Nf h.mi hl (hx hl);unfold Ln;refine Yt (cI (X7 hl) ?_);by_cases c:ia+1+1=a.size
 ·rw[hV (by simpa using c)];exact YD ⟨kK,.inl ⟨_,rfl,R.fin m c⟩⟩
 ·rw[hU (by simpa using c)];have L:LI key T a b (out.push a.toList[ia]) (ia+1) ib:=⟨by have:=h.ha;lia,h.hb,m⟩;by_cases c2:(decide (k<7)&&decide (k1<7))=true
  ·rw[hV c2];exact YD ⟨kK,.inr ⟨rfl,L,by simp only;lia⟩⟩
  ·rw[hU c2];exact YD ⟨⟨kK,.inr ⟨rfl,L,by simp only;lia⟩⟩,rfl⟩
theorem Em (C:oq M A E s O key knd D)(R:LR key D a b){st dM:YH}(kK:∃g,st=eK dM g)(kd:ZM dM=knd)(h:LI key T a b out ia ib)(hn:n<=ia+ib)(hx:∀(hl:ib<b.toList.length),∀x∈a.toList.drop ia,O.kle (key b.toList[ib]) (key x)) :
  wpS M A E s (Lo a b out ia ib g k bc) (GS key T a b n dM) st:=by
 have o_:ib<b.toList.length:=by have:=h.hb;rw[Yi];lia
 have tF:ia<a.toList.length:=by have:=h.ha;rw[Yi];lia
 have m:=IJ h.mi o_ (hx o_);have J0:ZM st=knd:=by obtain⟨g,rfl⟩:=kK;exact kd
 unfold Lo;refine Yt (cI (X7 o_) ?_);by_cases c:ib+1=b.size
 ·rw[hV (by simpa using c)];exact YD ⟨kK,.inl ⟨_,rfl,Ek m c⟩⟩
 ·rw[hU (by simpa using c)];refine Yt (cI (X7 tF) ?_);have cW:b.size-(ib+1)=(b.toList.drop (ib+1)).length:=by rw[YO,Yi]
  rw[cW];refine Yt (oM C (seg:=b.toList.drop (ib+1)) (λi x e=>by rw[abT] at e;exact e) m.sb (λx hx=>R.db x (Zr hx)) (R.da _ (Za tF)) J0 (by rw[←cW];have:=h.hb;lia) λk1 Gy p1 p2=>?_);dsimp only;by_cases c1:k1>0
  ·rw[hV c1];have m2:MI key T (out.push b.toList[ib]++b.extract (ib+1) (ib+1+k1)).toList (a.toList.drop ia) (b.toList.drop (ib+1+k1)):=by
    rw[Zo,ym];have m':=m;rw[uZ (l:=b.toList) (ib+1) k1] at m';exact m'.stepB λy hy x vQ=>Y3 (Zm (p1 y hy)) (mS h.mi.sa tF x vQ)
   by_cases c2:ib+1+k1=b.size
   ·rw[hV (by simpa using c2)];exact YD ⟨kK,.inl ⟨_,rfl,Ek m2 c2⟩⟩
   ·rw[hU (by simpa using c2)];have:k1<=b.size-(ib+1):=by rw[cW];exact Gy
    refine El R kK ⟨h.ha,by have:=h.hb;lia,m2⟩ (by lia) λhl y hy=>?_;rw[←ac9] at hy;exact p2 y hy
  ·rw[hU c1];have:k1=0:=by lia
   subst this;refine El R kK ⟨h.ha,by have:=h.hb;lia,m⟩ (by lia) λhl y hy=>p2 y hy
theorem En (C:oq M A E s O key knd D)(R:LR key D a b){ac:Nat}{st dM:YH}(kK:∃g,st=eK dM g)(kd:ZM dM=knd)(h:LI key T a b out ia ib)(hn:n<=ia+ib) :
  wpS M A E s (Lp a b out ia ib g ac bc) (GS key T a b n dM) st:=by
 have o_:ib<b.toList.length:=by have:=h.hb;rw[Yi];lia
 have tF:ia<a.toList.length:=by have:=h.ha;rw[Yi];lia
 unfold Lp dj;have BC:∃g',eK st g=eK dM g':=by obtain⟨g0,rfl⟩:=kK;exact⟨g,rfl⟩
 have J0:ZM (eK st g)=knd:=by obtain⟨g0,rfl⟩:=kK;exact kd
 refine Yt (abI ?_);refine Yt (cI (X7 o_) ?_);have cW:a.size-ia=(a.toList.drop ia).length:=by rw[YO,Yi]
 rw[cW];refine Yt (oK C (seg:=a.toList.drop ia) (λi x e=>by rw[abT] at e;exact e) h.mi.sa (λx hx=>R.da x (Zr hx)) (R.db _ (Za o_)) J0 (by rw[←cW];have:=h.ha;lia) λk hk p1 p2=>?_);dsimp only;by_cases c1:k>0
 ·rw[hV c1];have m2:MI key T (out++a.extract ia (ia+k)).toList (a.toList.drop (ia+k)) (b.toList.drop ib):=by
   rw[Zo,ym];have m':=h.mi;rw[uZ (l:=a.toList) ia k] at m';exact m'.stepA λx hx y hy=>Y3 (p1 x hx) (mS h.mi.sb o_ y hy)
  by_cases c2:ia+k+1=a.size
  ·rw[hV (by simpa using c2)];exact YD ⟨BC,.inl ⟨_,rfl,R.fin m2 c2⟩⟩
  ·rw[hU (by simpa using c2)];by_cases c3:ia+k=a.size
   ·rw[hV (by simpa using c3)];exact YD ⟨BC,.inl ⟨_,rfl,RJ m2 c3⟩⟩
   ·rw[hU (by simpa using c3)];have:k<=a.size-ia:=by rw[cW];exact hk
    refine Em C R BC kd ⟨by have:=h.ha;lia,h.hb,m2⟩ (by lia) λhl x hx=>?_;rw[←ac9] at hx;exact Zm (p2 x hx)
 ·rw[hU c1];have:k=0:=by lia
  subst this;exact Em C R BC kd h hn λhl x hx=>Zm (p2 x hx)
theorem OX (C:oq M A E s O key knd D)(R:LR key D a b){c:Nc}{st dM:YH}(kK:∃g,st=eK dM g)(kd:ZM dM=knd)(h:LI key T a b c.2.1 c.2.2.1 c.2.2.2.1)(hn:n<=c.2.2.1+c.2.2.2.1) :
  wpS M A E s (Uo a b i c) (GS key T a b n dM) st:=by
 unfold Uo;split
 ·exact En C R kK kd h hn
 ·exact En C R kK kd h hn
theorem OY (C:oq M A E s O key knd D)(R:LR key D a b){c:Qi}{st:YH}{Q:ForInStep Qi->YH->Prop}(kd:ZM st=knd)(h:LI key T a b c.2.1 c.2.2.1 c.2.2.2.1)(h1:∀d:Qi,(∃r,d.1=some r/\tT key T r)\/(d.1=none/\LI key T a b d.2.1 d.2.2.1 d.2.2.2.1/\c.2.2.1+c.2.2.2.1+1=d.2.2.1+d.2.2.2.1)->Q (.done d) st)(h2:∀d:Qi,d.1=none->LI key T a b d.2.1 d.2.2.1 d.2.2.2.1->c.2.2.1+c.2.2.2.1+1=d.2.2.1+d.2.2.2.1->Q (.yield d) st) :
  wpS M A E s (Up a b g i c) Q st:=by
 obtain⟨r0,out,ia,ib,ac,bc⟩:=c;dsimp only at h h1 h2 ⊢;have o_:ib<b.toList.length:=by have:=h.hb;rw[Yi];lia
 have tF:ia<a.toList.length:=by have:=h.ha;rw[Yi];lia
 unfold Up;dsimp only;refine Yt (cI (X7 o_) ?_);refine Yt (cI (X7 tF) ?_);refine Yt (C.lt _ _ st _ (R.db _ (Za o_)) (R.da _ (Za tF)) kd ?_);dsimp only;cases e:O.blt (key b.toList[ib]) (key a.toList[ia]) with
 |true=>
  rw[hV rfl];have m:=IJ h.mi o_ λx hx=>Y3 (Zm e) (mS h.mi.sa tF x hx);refine Yt (cI (X7 o_) ?_);by_cases c:ib+1=b.size
  ·rw[hV (by simpa using c)];exact YD (h1 _ (.inl ⟨_,rfl,Ek m c⟩))
  ·rw[hU (by simpa using c)];have L:LI key T a b (out.push b.toList[ib]) ia (ib+1):=⟨h.ha,by have:=h.hb;lia,m⟩;split
   ·exact YD (h1 _ (.inr ⟨rfl,L,by simp only;lia⟩))
   ·exact YD (h2 _ rfl L (by simp only;lia))
 |false=>
  rw[hU Yd];have m:=Nf h.mi tF λy hy=>Y3 (show O.kle _ _ from e) (mS h.mi.sb o_ y hy);refine Yt (cI (X7 tF) ?_);by_cases c:ia+1+1=a.size
  ·rw[hV (by simpa using c)];exact YD (h1 _ (.inl ⟨_,rfl,R.fin m c⟩))
  ·rw[hU (by simpa using c)];have L:LI key T a b (out.push a.toList[ia]) (ia+1) ib:=⟨by have:=h.ha;lia,h.hb,m⟩;split
   ·exact YD (h1 _ (.inr ⟨rfl,L,by simp only;lia⟩))
   ·exact YD (h2 _ rfl L (by simp only;lia))
theorem OZ (C:oq M A E s O key knd D)(R:LR key D a b){c:Tc}{st dM:YH}(kK:∃g,st=eK dM g)(kd:ZM dM=knd)(h:LI key T a b c.2.1 c.2.2.1 c.2.2.2.1) :
  wpS M A E s (Uq a b i c) (λr bb=>(∃g,bb=eK dM g)/\match r with
   | .done d=>∃r,d.1=some r/\tT key T r
   | .yield d=>d.1=none/\LI key T a b d.2.1 d.2.2.1 d.2.2.2.1/\c.2.2.1+c.2.2.2.1+1<=d.2.2.1+d.2.2.2.1) st:=by
 obtain⟨r0,out,ia,ib,g0⟩:=c;dsimp only at h ⊢;have J0:ZM st=knd:=by obtain⟨g,rfl⟩:=kK;exact kd
 unfold Uq;dsimp only;have hs:1<=a.size+b.size:=by have:=h.hb;lia
 refine Yt (aaS (ZO (I:=λx d bb=>bb=st/\d.1=none/\LI key T a b d.2.1 d.2.2.1 d.2.2.2.1/\ia+ib+x=d.2.2.1+d.2.2.2.1)
  (Q:=λd bb=>bb=st/\((∃r,d.1=some r/\tT key T r)\/(d.1=none/\LI key T a b d.2.1 d.2.2.1 d.2.2.2.1/\ia+ib+1<=d.2.2.1+d.2.2.2.1))) ?step ?fin ⟨rfl,rfl,h,by simp only;lia⟩) ?post)
 case fin=>
  rintro d bb ⟨rfl,e1,e2,e3⟩;exact⟨rfl,.inr ⟨e1,e2,by lia⟩⟩
 case step=>
  rintro x d bb _ hx ⟨rfl,e1,e2,e3⟩;refine OY C R J0 e2 (λd' hd=>?_) λd' p1 p2 p3=>?_
  ·rcases hd with hd|⟨p1,p2,p3⟩
   ·exact⟨rfl,.inl hd⟩
   ·exact⟨rfl,.inr ⟨p1,p2,by lia⟩⟩
  ·exact⟨rfl,p1,p2,by lia⟩
 case post=>
  rintro d bb ⟨rfl,hd⟩;obtain⟨dr,dout,dia,dib,dac,dbc⟩:=d;dsimp only at hd ⊢;rcases hd with⟨r,rfl,hr⟩|⟨rfl,hL,hn⟩
  ·exact YD ⟨kK,r,rfl,hr⟩
  ·dsimp only;refine Yt (wpS_lift (aa8 ⟨rfl,?_⟩));refine Yt (aaS (ZO (I:=λx d bb=>GE key T a b (ia+ib+1) dM d bb/\d.1=none)
    (Q:=λd bb=>GE key T a b (ia+ib+1) dM d bb) ?_ (λd bb h=>h.1) ⟨⟨kK,.inr ⟨rfl,hL,hn⟩⟩,rfl⟩) ?_)
   ·rintro x d bb _ hx ⟨⟨hs',hd⟩,e1⟩;rcases hd with⟨r,e2,_⟩|⟨_,e3,e4⟩
    ·rw[e1] at e2;cases e2
    ·refine aaS (OX C R hs' kd e3 e4) λr Qb hr=>?_;cases r with
     |done d'=>exact hr
     |yield d'=>exact hr
   ·rintro d bb ⟨hs',hd⟩;obtain⟨er,eout,eia,eib,eg,eac,ebc⟩:=d;dsimp only at hd ⊢;rcases hd with⟨r,rfl,hr⟩|⟨rfl,hL2,Qq⟩
    ·exact YD ⟨hs',r,rfl,hr⟩
    ·dsimp only;unfold dj;refine Yt (abI (YD ⟨?_,rfl,hL2,Qq⟩));obtain⟨g,rfl⟩:=hs';exact⟨_,rfl⟩
theorem Cs (C:oq M A E s O key knd D)(R:LR key D a b){st:YH}{Q:Array YI->YH->Prop}(kd:ZM st=knd)(sa:ki key a.toList)(sb:ki key b.toList)(ha:0<a.size)(hb:0<b.size)
  (first:∀y,b.toList[0]? = some y->∀x∈a.toList,O.kle (key y) (key x))
  (h:∀r g,r.toList.Perm (a.toList++b.toList)->ki key r.toList->Q r (eK st g)):wpS M A E s (uY a b) Q st:=by
 have o_:0<b.toList.length:=by rw[Yi];exact hb
 have m:MI key (a.toList++b.toList) (#[b.toList[0]]:Array YI).toList (a.toList.drop 0) (b.toList.drop 1):=by
  have m0:MI key (a.toList++b.toList) (#[]:Array YI).toList (a.toList.drop 0) (b.toList.drop 0):=
   ⟨by simp,List.Pairwise.nil,sa,sb,λx hx=>absurd hx (by simp),λx hx=>absurd hx (by simp)⟩
  exact IJ m0 o_ (λx hx=>first _ (X7 o_) x hx)
 have fin:∀r g,tT key (a.toList++b.toList) r->Q r (eK st g):=λr g hr=>h r g hr.1 hr.2;rw[yk];refine Yt (wpS_lift (aa8 ⟨rfl,?_⟩));refine Yt (cI (X7 o_) ?_);by_cases c:1=b.size
 ·rw[hV (by simpa using c)];exact YD (fin _ (ac0 st) (Ek m c))
 ·rw[hU (by simpa using c)];by_cases c2:0+1=a.size
  ·rw[hV (by simpa using c2)];exact YD (fin _ (ac0 st) (R.fin m c2))
  ·rw[hU (by simpa using c2)];refine Yt (ac_ ?_);refine Yt (aaS (ZO (I:=λx d bb=>(∃g,bb=eK st g)/\d.1=none/\LI key (a.toList++b.toList) a b d.2.1 d.2.2.1 d.2.2.2.1/\x<=d.2.2.1+d.2.2.2.1)
    (Q:=λd bb=>(∃g,bb=eK st g)/\∃r,d.1=some r/\tT key (a.toList++b.toList) r) ?step ?fin ⟨⟨ac0 st,rfl⟩,rfl,⟨by simp only;lia,by simp only;lia,m⟩,by simp only;lia⟩) ?post)
   case fin=>
    rintro d bb ⟨hs',e1,e2,e3⟩;have:=e2.ha;have:=e2.hb;lia
   case step=>
    rintro x d bb _ hx ⟨hs',e1,e2,e3⟩;refine aaS (OZ C R hs' kd e2) λr Qb hr=>?_;obtain⟨dG,hr⟩:=hr;cases r with
    |done d'=>exact⟨dG,hr⟩
    |yield d'=>exact⟨dG,hr.1,hr.2.1,by have:=hr.2.2;lia⟩
   case post=>
    rintro d bb ⟨⟨g,rfl⟩,r,e,hr⟩;obtain⟨dr,d'⟩:=d;dsimp only at e ⊢;subst e;exact YD (fin r g hr)
end
end Hc.Ts
namespace Hc.Ts
noncomputable def u3:Array YI->Array YI->StateT YH Sem (Array YI):=sortPriv% PySem.Builtin.mergeHi
noncomputable abbrev Ng:=Option (Array YI)×Nat×Nat×Array YI×Nat×Nat×Nat
noncomputable abbrev Qj:=Option (Array YI)×Nat×Nat×Array YI×Nat×Nat
noncomputable abbrev Td:=Option (Array YI)×Nat×Nat×Array YI×Nat
noncomputable def ji (a b out:Array YI)(na nb:Nat):Array YI:=a.extract 0 na++b.extract 0 nb++out.reverse
noncomputable def lW (a b out:Array YI)(na nb:Nat):Array YI:=b.extract 0 nb++a.extract 0 na++out.reverse
noncomputable def Lq (a b out:Array YI)(na nb g k k1:Nat):StateT YH Sem (ForInStep Ng):=do
 let x ←ac8 a (na-1)
 if (na-1==0)=true then pure (.done (some (ji a b (out.push x) (na-1) nb),na-1,nb,out.push x,g,k,k1))
 else if (decide (k<7)&&decide (k1<7))=true then pure (.done (none,na-1,nb,out.push x,g,k,k1))
 else pure (.yield (none,na-1,nb,out.push x,g,k,k1))
noncomputable def Lr (a b out:Array YI)(na nb g k bc:Nat):StateT YH Sem (ForInStep Ng):=do
 let y ←ac8 b (nb-1)
 if (nb-1==1)=true then pure (.done (some (lW a b (out.push y) na (nb-1)),na,nb-1,out.push y,g,k,bc))
 else do
  let x ←ac8 a (na-1)
  let some iC ←iT true x b 0 (nb-1) (nb-1-1)|pure (.done (some (ji a b (out.push y) na (nb-1)),na,nb-1,out.push y,g,k,bc))
  if nb-1-iC>0 then
   if (iC==1)=true then pure (.done (some (lW a b (out.push y++(b.extract iC (nb-1)).reverse) na iC),na,iC,out.push y++(b.extract iC (nb-1)).reverse,g,k,nb-1-iC))
   else if (iC==0)=true then pure (.done (some (ji a b (out.push y++(b.extract iC (nb-1)).reverse) na iC),na,iC,out.push y++(b.extract iC (nb-1)).reverse,g,k,nb-1-iC))
   else Lq a b (out.push y++(b.extract iC (nb-1)).reverse) na iC g k (nb-1-iC)
  else Lq a b (out.push y) na (nb-1) g k (nb-1-iC)
noncomputable def Lu (a b out:Array YI)(na nb g ac bc:Nat):StateT YH Sem (ForInStep Ng):=do
 dj g
 let y ←ac8 b (nb-1)
 let some dX ←iT false y a 0 na (na-1)|pure (.done (some (ji a b out na nb),na,nb,out,g,ac,bc))
 if na-dX>0 then
  if (dX==0)=true then pure (.done (some (ji a b (out++(a.extract dX na).reverse) dX nb),dX,nb,out++(a.extract dX na).reverse,g,na-dX,bc))
  else Lr a b (out++(a.extract dX na).reverse) dX nb g (na-dX) bc
 else Lr a b out na nb g (na-dX) bc
noncomputable def Ur (a b:Array YI)(_:Nat)(c:Ng):StateT YH Sem (ForInStep Ng):=
 if c.2.2.2.2.1>1 then Lu a b c.2.2.2.1 c.2.1 c.2.2.1 (c.2.2.2.2.1-1) c.2.2.2.2.2.1 c.2.2.2.2.2.2
 else Lu a b c.2.2.2.1 c.2.1 c.2.2.1 c.2.2.2.2.1 c.2.2.2.2.2.1 c.2.2.2.2.2.2
noncomputable def Us (a b:Array YI)(g:Nat)(_:Nat)(c:Qj):StateT YH Sem (ForInStep Qj):=do
 let y ←ac8 b (c.2.2.1-1)
 let x ←ac8 a (c.2.1-1)
 let some aWins ←lt' y x|pure (.done (some (ji a b c.2.2.2.1 c.2.1 c.2.2.1),c.2.1,c.2.2.1,c.2.2.2.1,c.2.2.2.2.1,c.2.2.2.2.2))
 if aWins=true then do
  let x ←ac8 a (c.2.1-1)
  if (c.2.1-1==0)=true then pure (.done (some (ji a b (c.2.2.2.1.push x) (c.2.1-1) c.2.2.1),c.2.1-1,c.2.2.1,c.2.2.2.1.push x,c.2.2.2.2.1+1,0))
  else if c.2.2.2.2.1+1≥g then pure (.done (none,c.2.1-1,c.2.2.1,c.2.2.2.1.push x,c.2.2.2.2.1+1,0))
  else pure (.yield (none,c.2.1-1,c.2.2.1,c.2.2.2.1.push x,c.2.2.2.2.1+1,0))
 else do
  let y ←ac8 b (c.2.2.1-1)
  if (c.2.2.1-1==1)=true then pure (.done (some (lW a b (c.2.2.2.1.push y) c.2.1 (c.2.2.1-1)),c.2.1,c.2.2.1-1,c.2.2.2.1.push y,0,c.2.2.2.2.2+1))
  else if c.2.2.2.2.2+1≥g then pure (.done (none,c.2.1,c.2.2.1-1,c.2.2.2.1.push y,0,c.2.2.2.2.2+1))
  else pure (.yield (none,c.2.1,c.2.2.1-1,c.2.2.2.1.push y,0,c.2.2.2.2.2+1))
noncomputable def Ut (a b:Array YI)(_:Nat)(c:Td):StateT YH Sem (ForInStep Td):=do
 let d ←forIn [0:a.size+b.size] (none,c.2.1,c.2.2.1,c.2.2.2.1,0,0) (Us a b c.2.2.2.2)
 match d.1 with
 |some r=>pure (.done (some r,d.2.1,d.2.2.1,d.2.2.2.1,c.2.2.2.2))
 |none=>do
  liftM (rule "list.sort.gallop")
  let e ←forIn [0:a.size+b.size] (none,d.2.1,d.2.2.1,d.2.2.2.1,c.2.2.2.2+1,d.2.2.2.2.1,d.2.2.2.2.2) (Ur a b)
  match e.1 with
  |some r=>pure (.done (some r,e.2.1,e.2.2.1,e.2.2.2.1,e.2.2.2.2.1))
  |none=>do
   dj (e.2.2.2.2.1+1)
   pure (.yield (none,e.2.1,e.2.2.1,e.2.2.2.1,e.2.2.2.2.1+1))
theorem yn (a b:Array YI):u3 a b=(do
  liftM (rule "list.sort.merge-hi")
  let x ←ac8 a (a.size-1)
  if (a.size-1==0)=true then pure (ji a b #[x] (a.size-1) b.size)
  else if (b.size==1)=true then pure (lW a b #[x] (a.size-1) b.size)
  else do
   let st ←get
   let c ←forIn [0:a.size+b.size] ((none,a.size-1,b.size,#[x],ac0 st):Td) (Ut a b)
   match c.1 with
   |some r=>pure r
   |none=>liftM (abF "internal:list.sort.merge-bound")):=by kernel_rfl
section
variable {A:Zk}{O:adp}{key:YI->O.α}{knd:abz}{D:YI->Prop}
def yo (a:Array YI)(n:Nat):(a.extract 0 n).toList=a.toList.take n:=by
 rw[aaY,aaW];rfl
def yp (a:Array YI)(i n:Nat):(a.extract i n).toList=(a.toList.take n).drop i:=by
 rw[aaY,aaW,List.drop_take]
def Al (a b out:Array YI)(na nb:Nat):(ji a b out na nb).toList=(a.toList.take na++b.toList.take nb)++out.toList.reverse:=by
 unfold ji;rw[Zo,Zo,yo,yo,abt]
def FT (a b out:Array YI)(na nb:Nat):(lW a b out na nb).toList=(b.toList.take nb++a.toList.take na)++out.toList.reverse:=by
 unfold lW;rw[Zo,Zo,yo,yo,abt]
theorem qX (h0:0<n)(h:n-1<l.length):l.take n=l.take (n-1)++[l[n-1]]:=by
 obtain⟨m,rfl⟩:∃m,n=m+1:=⟨n-1,by lia⟩;simp only[ac1] at h ⊢;exact aag h
def u4 (h:k<=n):l.take n=l.take k++(l.take n).drop k:=by
 conv=>lhs;rw[←Y_ k (l.take n)]
 rw[List.take_take,Z4 h]
structure HI (key:YI->O.α)(T:List YI)(a b out:Array YI)(na nb:Nat):Prop where
 a0:0<na
 a1:na<=a.size
 b0:1<nb
 b1:nb<=b.size
 mh:MH key T (a.toList.take na) (b.toList.take nb) out.toList.reverse
structure HR (key:YI->O.α)(D:YI->Prop)(a b:Array YI):Prop where
 da:∀x∈a.toList,D x
 db:∀x∈b.toList,D x
 first:∀y,b.toList[0]? = some y->∀x∈a.toList,O.kle (key y) (key x)
variable {a b out:Array YI}{na nb:Nat}
theorem HR.fin (R:HR key D a b)(h:MH key T (a.toList.take na) (b.toList.take nb) out.toList.reverse)(e:nb=1):tT key T (lW a b out na nb):=by
 unfold tT;rw[FT];refine h.first λy hy x hx=>?_
 subst e;cases hb:b.toList with
 |nil=>rw[hb] at hy;cases hy
 |cons z r=>
  rw[hb] at hy;have:y=z:=by simpa using hy
  subst this;exact R.first y (by rw[hb];rfl) x (Zd hx)
theorem yq (h:MH key T (a.toList.take na) (b.toList.take nb) out.toList.reverse)(e:na=0):tT key T (ji a b out na nb):=by
 subst e;unfold tT;rw[Al];rw[List.take_zero] at h ⊢;rw[Zx];exact h.endB
theorem O0 (h:MH key T (a.toList.take na) (b.toList.take nb) out.toList.reverse)(e:nb=0):tT key T (ji a b out na nb):=by
 subst e;unfold tT;rw[Al];rw[List.take_zero] at h ⊢;rw[YV];exact h.endA
theorem jP (h:ki key (l.take n))(h0:0<n)(hl:n-1<l.length):∀x∈l.take n,O.kle (key x) (key l[n-1]):=by
 intro x hx;rw[qX h0 hl] at h hx;rcases Yx.mp hx with hx|hx
 ·exact (cw.mp h).2.2 x hx _ (by simp)
 ·rw[Yw] at hx;subst hx;exact Z5 _
theorem Ct (h:MH key T (a.toList.take na) (b.toList.take nb) out.toList.reverse)(h0:0<na)(hl:na-1<a.toList.length)(hx:∀y∈b.toList.take nb,O.kle (key y) (key a.toList[na-1])):MH key T (a.toList.take (na-1)) (b.toList.take nb) (out.push a.toList[na-1]).toList.reverse:=by
 rw[aa2,abG];rw[qX h0 hl] at h;exact h.stepA λy hy x vQ=>by rw[Yw] at vQ;subst vQ;exact hx y hy
theorem IK (h:MH key T (a.toList.take na) (b.toList.take nb) out.toList.reverse)(h0:0<nb)(hl:nb-1<b.toList.length)(hx:∀x∈a.toList.take na,O.kle (key x) (key b.toList[nb-1])):MH key T (a.toList.take na) (b.toList.take (nb-1)) (out.push b.toList[nb-1]).toList.reverse:=by
 rw[aa2,abG];rw[qX h0 hl] at h;exact h.stepB λx vQ y hy=>by rw[Yw] at hy;subst hy;exact hx x vQ
def HE (key:YI->O.α)(T:List YI)(a b:Array YI)(n:Nat)(dM:YH)(c:Ng)(st:YH):Prop:=
 (∃g,st=eK dM g)/\((∃r,c.1=some r/\tT key T r)\/(c.1=none/\HI key T a b c.2.2.2.1 c.2.1 c.2.2.1/\c.2.1+c.2.2.1<=n))
def HS (key:YI->O.α)(T:List YI)(a b:Array YI)(n:Nat)(dM:YH)(r:ForInStep Ng)(st:YH):Prop:=
 match r with
 | .done c=>HE key T a b n dM c st
 | .yield c=>HE key T a b n dM c st/\c.1=none
theorem Eo (R:HR key D a b){k1:Nat}{st dM:YH}(kK:∃g,st=eK dM g)(h:HI key T a b out na nb)(hn:na+nb<=n)(hx:∀(hl:na-1<a.toList.length),∀y∈b.toList.take nb,O.kle (key y) (key a.toList[na-1])) :
  wpS M A E s (Lq a b out na nb g k k1) (HS key T a b n dM) st:=by
 have hl:na-1<a.toList.length:=by have:=h.a0;have:=h.a1;rw[Yi];lia
 have m:=Ct h.mh h.a0 hl (hx hl);unfold Lq;refine Yt (cI (X7 hl) ?_);by_cases c:na-1=0
 ·rw[hV (by simpa using c)];exact YD ⟨kK,.inl ⟨_,rfl,yq m c⟩⟩
 ·rw[hU (by simpa using c)];have L:HI key T a b (out.push a.toList[na-1]) (na-1) nb:=⟨by lia,by have:=h.a1;lia,h.b0,h.b1,m⟩;by_cases c2:(decide (k<7)&&decide (k1<7))=true
  ·rw[hV c2];exact YD ⟨kK,.inr ⟨rfl,L,by simp only;lia⟩⟩
  ·rw[hU c2];exact YD ⟨⟨kK,.inr ⟨rfl,L,by simp only;lia⟩⟩,rfl⟩
theorem Ep (C:oq M A E s O key knd D)(R:HR key D a b){st dM:YH}(kK:∃g,st=eK dM g)(kd:ZM dM=knd)(h:HI key T a b out na nb)(hn:na+nb<=n)(hx:∀(hl:nb-1<b.toList.length),∀x∈a.toList.take na,O.kle (key x) (key b.toList[nb-1])) :
  wpS M A E s (Lr a b out na nb g k bc) (HS key T a b n dM) st:=by
 have o_:nb-1<b.toList.length:=by have:=h.b0;have:=h.b1;rw[Yi];lia
 have tF:na-1<a.toList.length:=by have:=h.a0;have:=h.a1;rw[Yi];lia
 have b0:=h.b0;have b1:=h.b1;have a0:=h.a0;have a1:=h.a1;have m:=IK h.mh (by lia) o_ (hx o_);have J0:ZM st=knd:=by obtain⟨g,rfl⟩:=kK;exact kd
 unfold Lr;refine Yt (cI (X7 o_) ?_);by_cases c:nb-1=1
 ·rw[hV (by simpa using c)];exact YD ⟨kK,.inl ⟨_,rfl,R.fin m c⟩⟩
 ·rw[hU (by simpa using c)];refine Yt (cI (X7 tF) ?_);have cW:(b.toList.take (nb-1)).length=nb-1:=by rw[Yy,Yi];lia
  have J1:=λQ=>oM C (Q:=Q) (kx:=a.toList[na-1]) (arr:=b) (base:=0) (hint:=nb-1-1) (seg:=b.toList.take (nb-1)) (st:=st) (λi x e=>by
   rw[aaA];rw[abX] at e;split at e
   ·exact e
   ·cases e) m.sb (λx hx=>R.db x (Zd hx)) (R.da _ (Za tF)) J0 (by rw[cW];lia)
  rw[cW] at J1;refine Yt (J1 _ λiC Gy p1 p2=>?_);dsimp only;rw[List.take_take,Z4 Gy] at p1;by_cases c1:nb-1-iC>0
  ·rw[hV c1];have m2:MH key T (a.toList.take na) (b.toList.take iC) (out.push b.toList[nb-1]++(b.extract iC (nb-1)).reverse).toList.reverse:=by
    rw[Zo,abt,abG,List.reverse_reverse,yp];have m':=m;rw[u4 (l:=b.toList) (n:=nb-1) (k:=iC) (by lia)] at m';exact m'.stepB λx vQ y hy=>Y3 (jP h.mh.sa a0 tF x vQ) (p2 y hy)
   by_cases c2:iC=1
   ·rw[hV (by simpa using c2)];exact YD ⟨kK,.inl ⟨_,rfl,R.fin m2 c2⟩⟩
   ·rw[hU (by simpa using c2)];by_cases c3:iC=0
    ·rw[hV (by simpa using c3)];exact YD ⟨kK,.inl ⟨_,rfl,O0 m2 c3⟩⟩
    ·rw[hU (by simpa using c3)];refine Eo R kK ⟨a0,a1,by lia,by lia,m2⟩ (by lia) λhl y hy=>Zm (p1 y hy)
  ·rw[hU c1];have:iC=nb-1:=by lia
   subst this;refine Eo R kK ⟨a0,a1,by lia,by lia,m⟩ (by lia) λhl y hy=>Zm (p1 y hy)
theorem Er (C:oq M A E s O key knd D)(R:HR key D a b){ac:Nat}{st dM:YH}(kK:∃g,st=eK dM g)(kd:ZM dM=knd)(h:HI key T a b out na nb)(hn:na+nb<=n) :
  wpS M A E s (Lu a b out na nb g ac bc) (HS key T a b n dM) st:=by
 have o_:nb-1<b.toList.length:=by have:=h.b0;have:=h.b1;rw[Yi];lia
 have tF:na-1<a.toList.length:=by have:=h.a0;have:=h.a1;rw[Yi];lia
 have b0:=h.b0;have b1:=h.b1;have a0:=h.a0;have a1:=h.a1;unfold Lu dj;have BC:∃g',eK st g=eK dM g':=by obtain⟨g0,rfl⟩:=kK;exact⟨g,rfl⟩
 have J0:ZM (eK st g)=knd:=by obtain⟨g0,rfl⟩:=kK;exact kd
 refine Yt (abI ?_);refine Yt (cI (X7 o_) ?_);have cW:(a.toList.take na).length=na:=by rw[Yy,Yi];lia
 have J1:=λQ=>oK C (Q:=Q) (kx:=b.toList[nb-1]) (arr:=a) (base:=0) (hint:=na-1) (seg:=a.toList.take na) (st:=eK st g) (λi x e=>by
   rw[aaA];rw[abX] at e;split at e
   ·exact e
   ·cases e) h.mh.sa (λx hx=>R.da x (Zd hx)) (R.db _ (Za o_)) J0 (by rw[cW];lia)
 rw[cW] at J1;refine Yt (J1 _ λdX hk p1 p2=>?_);dsimp only;rw[List.take_take,Z4 hk] at p1;by_cases c1:na-dX>0
 ·rw[hV c1];have m2:MH key T (a.toList.take dX) (b.toList.take nb) (out++(a.extract dX na).reverse).toList.reverse:=by
   rw[Zo,abt,abG,List.reverse_reverse,yp];have m':=h.mh;rw[u4 (l:=a.toList) (n:=na) (k:=dX) (by lia)] at m';exact m'.stepA λy hy x hx=>Y3 (jP h.mh.sb (by lia) o_ y hy) (Zm (p2 x hx))
  by_cases c2:dX=0
  ·rw[hV (by simpa using c2)];exact YD ⟨BC,.inl ⟨_,rfl,yq m2 c2⟩⟩
  ·rw[hU (by simpa using c2)];exact Ep C R BC kd ⟨by lia,by lia,b0,b1,m2⟩ (by lia) λhl x hx=>p1 x hx
 ·rw[hU c1];have:dX=na:=by lia
  subst this;exact Ep C R BC kd h hn λhl x hx=>p1 x hx
theorem O1 (C:oq M A E s O key knd D)(R:HR key D a b){c:Ng}{st dM:YH}(kK:∃g,st=eK dM g)(kd:ZM dM=knd)(h:HI key T a b c.2.2.2.1 c.2.1 c.2.2.1)(hn:c.2.1+c.2.2.1<=n) :
  wpS M A E s (Ur a b i c) (HS key T a b n dM) st:=by
 unfold Ur;split
 ·exact Er C R kK kd h hn
 ·exact Er C R kK kd h hn
theorem O2 (C:oq M A E s O key knd D)(R:HR key D a b){c:Qj}{st:YH}{Q:ForInStep Qj->YH->Prop}(kd:ZM st=knd)(h:HI key T a b c.2.2.2.1 c.2.1 c.2.2.1)(h1:∀d:Qj,(∃r,d.1=some r/\tT key T r)\/(d.1=none/\HI key T a b d.2.2.2.1 d.2.1 d.2.2.1/\c.2.1+c.2.2.1=d.2.1+d.2.2.1+1)->Q (.done d) st)(h2:∀d:Qj,d.1=none->HI key T a b d.2.2.2.1 d.2.1 d.2.2.1->c.2.1+c.2.2.1=d.2.1+d.2.2.1+1->Q (.yield d) st) :
  wpS M A E s (Us a b g i c) Q st:=by
 obtain⟨r0,na,nb,out,ac,bc⟩:=c;dsimp only at h h1 h2 ⊢;have o_:nb-1<b.toList.length:=by have:=h.b0;have:=h.b1;rw[Yi];lia
 have tF:na-1<a.toList.length:=by have:=h.a0;have:=h.a1;rw[Yi];lia
 have b0:=h.b0;have b1:=h.b1;have a0:=h.a0;have a1:=h.a1;unfold Us;dsimp only;refine Yt (cI (X7 o_) ?_);refine Yt (cI (X7 tF) ?_);refine Yt (C.lt _ _ st _ (R.db _ (Za o_)) (R.da _ (Za tF)) kd ?_);dsimp only;cases e:O.blt (key b.toList[nb-1]) (key a.toList[na-1]) with
 |true=>
  rw[hV rfl];have m:=Ct h.mh a0 tF λy hy=>Y3 (jP h.mh.sb (by lia) o_ y hy) (Zm e);refine Yt (cI (X7 tF) ?_);by_cases c:na-1=0
  ·rw[hV (by simpa using c)];exact YD (h1 _ (.inl ⟨_,rfl,yq m c⟩))
  ·rw[hU (by simpa using c)];have L:HI key T a b (out.push a.toList[na-1]) (na-1) nb:=⟨by lia,by lia,b0,b1,m⟩;split
   ·exact YD (h1 _ (.inr ⟨rfl,L,by simp only;lia⟩))
   ·exact YD (h2 _ rfl L (by simp only;lia))
 |false=>
  rw[hU Yd];have m:=IK h.mh (by lia) o_ λx hx=>Y3 (jP h.mh.sa a0 tF x hx) (show O.kle _ _ from e);refine Yt (cI (X7 o_) ?_);by_cases c:nb-1=1
  ·rw[hV (by simpa using c)];exact YD (h1 _ (.inl ⟨_,rfl,R.fin m c⟩))
  ·rw[hU (by simpa using c)];have L:HI key T a b (out.push b.toList[nb-1]) na (nb-1):=⟨a0,a1,by lia,by lia,m⟩;split
   ·exact YD (h1 _ (.inr ⟨rfl,L,by simp only;lia⟩))
   ·exact YD (h2 _ rfl L (by simp only;lia))
theorem O3 (C:oq M A E s O key knd D)(R:HR key D a b){c:Td}{st dM:YH}(kK:∃g,st=eK dM g)(kd:ZM dM=knd)(h:HI key T a b c.2.2.2.1 c.2.1 c.2.2.1) :
  wpS M A E s (Ut a b i c) (λr bb=>(∃g,bb=eK dM g)/\match r with
   | .done d=>∃r,d.1=some r/\tT key T r
   | .yield d=>d.1=none/\HI key T a b d.2.2.2.1 d.2.1 d.2.2.1/\d.2.1+d.2.2.1+1<=c.2.1+c.2.2.1) st:=by
 obtain⟨r0,na,nb,out,g0⟩:=c;dsimp only at h ⊢;have J0:ZM st=knd:=by obtain⟨g,rfl⟩:=kK;exact kd
 have b0:=h.b0;have b1:=h.b1;have a0:=h.a0;have a1:=h.a1;unfold Ut;dsimp only;have hs:1<=a.size+b.size:=by lia
 refine Yt (aaS (ZO (I:=λx d bb=>bb=st/\d.1=none/\HI key T a b d.2.2.2.1 d.2.1 d.2.2.1/\na+nb=d.2.1+d.2.2.1+x)
  (Q:=λd bb=>bb=st/\((∃r,d.1=some r/\tT key T r)\/(d.1=none/\HI key T a b d.2.2.2.1 d.2.1 d.2.2.1/\d.2.1+d.2.2.1+1<=na+nb))) ?step ?fin ⟨rfl,rfl,h,by simp only;lia⟩) ?post)
 case fin=>
  rintro d bb ⟨rfl,e1,e2,e3⟩;exact⟨rfl,.inr ⟨e1,e2,by lia⟩⟩
 case step=>
  rintro x d bb _ hx ⟨rfl,e1,e2,e3⟩;refine O2 C R J0 e2 (λd' hd=>?_) λd' p1 p2 p3=>?_
  ·rcases hd with hd|⟨p1,p2,p3⟩
   ·exact⟨rfl,.inl hd⟩
   ·exact⟨rfl,.inr ⟨p1,p2,by lia⟩⟩
  ·exact⟨rfl,p1,p2,by lia⟩
 case post=>
  rintro d bb ⟨rfl,hd⟩;obtain⟨dr,dna,dnb,dout,dac,dbc⟩:=d;dsimp only at hd ⊢;rcases hd with⟨r,rfl,hr⟩|⟨rfl,hL,hn⟩
  ·exact YD ⟨kK,r,rfl,hr⟩
  ·dsimp only;refine Yt (wpS_lift (aa8 ⟨rfl,?_⟩));refine Yt (aaS (ZO (I:=λx d bb=>HE key T a b (na+nb-1) dM d bb/\d.1=none)
    (Q:=λd bb=>HE key T a b (na+nb-1) dM d bb) ?_ (λd bb h=>h.1) ⟨⟨kK,.inr ⟨rfl,hL,by simp only;lia⟩⟩,rfl⟩) ?_)
   ·rintro x d bb _ hx ⟨⟨hs',hd⟩,e1⟩;rcases hd with⟨r,e2,_⟩|⟨_,e3,e4⟩
    ·rw[e1] at e2;cases e2
    ·refine aaS (O1 C R hs' kd e3 e4) λr Qb hr=>?_;cases r with
     |done d'=>exact hr
     |yield d'=>exact hr
   ·rintro d bb ⟨hs',hd⟩;obtain⟨er,ena,enb,eout,eg,eac,ebc⟩:=d;dsimp only at hd ⊢;rcases hd with⟨r,rfl,hr⟩|⟨rfl,hL2,Qq⟩
    ·exact YD ⟨hs',r,rfl,hr⟩
    ·dsimp only;unfold dj;refine Yt (abI (YD ⟨?_,rfl,hL2,by simp only;lia⟩));obtain⟨g,rfl⟩:=hs';exact⟨_,rfl⟩
theorem Cu (C:oq M A E s O key knd D)(R:HR key D a b){st:YH}{Q:Array YI->YH->Prop}(kd:ZM st=knd)(sa:ki key a.toList)(sb:ki key b.toList)(ha:0<a.size)(hb:0<b.size)
  (last:∀i,i+1=a.size->∀y∈b.toList,∀x,a.toList[i]? = some x->O.kle (key y) (key x))
  (h:∀r g,r.toList.Perm (a.toList++b.toList)->ki key r.toList->Q r (eK st g)):wpS M A E s (u3 a b) Q st:=by
 have tF:a.size-1<a.toList.length:=by rw[Yi];lia
 have ta:a.toList.take a.size=a.toList:=ZZ (by simp);have tb:b.toList.take b.size=b.toList:=ZZ (by simp);have m:MH key (a.toList++b.toList) (a.toList.take (a.size-1)) (b.toList.take b.size) (#[a.toList[a.size-1]]:Array YI).toList.reverse:=by
  have m0:MH key (a.toList++b.toList) (a.toList.take a.size) (b.toList.take b.size) (#[]:Array YI).toList.reverse:=by
   rw[ta,tb];exact⟨by simp,List.Pairwise.nil,sa,sb,λx _ y hy=>absurd hy (by simp),λx _ y hy=>absurd hy (by simp)⟩
  exact Ct m0 ha tF (λy hy=>last (a.size-1) (by lia) y (Zd hy) _ (X7 tF))
 have fin:∀r g,tT key (a.toList++b.toList) r->Q r (eK st g):=λr g hr=>h r g hr.1 hr.2;rw[yn];refine Yt (wpS_lift (aa8 ⟨rfl,?_⟩));refine Yt (cI (X7 tF) ?_);by_cases c:a.size-1=0
 ·rw[hV (by simpa using c)];exact YD (fin _ (ac0 st) (yq m c))
 ·rw[hU (by simpa using c)];by_cases c2:b.size=1
  ·rw[hV (by simpa using c2)];exact YD (fin _ (ac0 st) (R.fin m c2))
  ·rw[hU (by simpa using c2)];refine Yt (ac_ ?_);refine Yt (aaS (ZO (I:=λx d bb=>(∃g,bb=eK st g)/\d.1=none/\HI key (a.toList++b.toList) a b d.2.2.2.1 d.2.1 d.2.2.1/\d.2.1+d.2.2.1+x<=a.size+b.size)
    (Q:=λd bb=>(∃g,bb=eK st g)/\∃r,d.1=some r/\tT key (a.toList++b.toList) r) ?step ?fin ⟨⟨ac0 st,rfl⟩,rfl,⟨by simp only;lia,by simp only;lia,by simp only;lia,by simp only;lia,m⟩,by simp only;lia⟩) ?post)
   case fin=>
    rintro d bb ⟨hs',e1,e2,e3⟩;have:=e2.a0;have:=e2.b0;lia
   case step=>
    rintro x d bb _ hx ⟨hs',e1,e2,e3⟩;refine aaS (O3 C R hs' kd e2) λr Qb hr=>?_;obtain⟨dG,hr⟩:=hr;cases r with
    |done d'=>exact⟨dG,hr⟩
    |yield d'=>exact⟨dG,hr.1,hr.2.1,by have:=hr.2.2;lia⟩
   case post=>
    rintro d bb ⟨⟨g,rfl⟩,r,e,hr⟩;obtain⟨dr,d'⟩:=d;dsimp only at e ⊢;subst e;exact YD (fin r g hr)
end
end Hc.Ts
namespace Hc.Ts
noncomputable def nG (l:List YI)(sa:Nat)(a:Array YI):Array YI:=l.zipIdx.foldl (λa (p,j)=>a.setIfInBounds (sa+j) p) a
noncomputable def O4 (x y:Array YI)(sa na nb:Nat):StateT YH Sem Bool:=do
 let merged ←if na<=nb then uY x y else u3 x y
 modify λs=>setArr s (nG merged.toList sa (Y8 s))
 let s ←get
 pure (abA s).isNone
def Am (i:Nat):mergeAt' i=(do
 let st ←get
 let (some (p,n,pw),some (q,m,_)):=((Y0 st)[i]?,(Y0 st)[i+1]?)|abF "internal:list.sort.pending"
 set (setPending st (((Y0 st).setIfInBounds i (p,n+m,pw)).eraseIdxIfInBounds (i+1)))
 let some k ←iT false (←ac8 (Y8 st) q) (Y8 st) p n 0|return false
 let (p,n):=(p+k,n-k)
 if n==0 then return true
 let some m ←iT true (←ac8 (Y8 st) (p+n-1)) (Y8 st) q m (m-1)|return false
 if m==0 then return true
 O4 ((Y8 st).extract p q) ((Y8 st).extract q (q+m)) p n m):=by kernel_rfl
section
variable {A:Zk}{O:adp}{key:YI->O.α}{knd:abz}{D:YI->Prop}
theorem u5:∀(l m P S:List YI) (n sa:Nat) (a:Array YI),m.length=l.length->sa+n=P.length->a.toList=P++(m++S)->((l.zipIdx n).foldl (λa (p,j)=>a.setIfInBounds (sa+j) p) a).toList=P++(l++S)
 | [],m,P,S,n,sa,a,h1,h2,h3=>by
  have:m=[]:=Zv h1;subst this;exact h3
 |p::l,[],P,S,n,sa,a,h1,h2,h3=>by cases h1
 |p::l,q::m,P,S,n,sa,a,h1,h2,h3=>by
  rw[List.zipIdx_cons,abU];have h4:(a.setIfInBounds (sa+n) p).toList=(P++[p])++(m++S):=by
   rw[acP,h3,h2,abB,List.set_append_right _ _ (Yl _),acY,YY];simp
  have:=u5 l m (P++[p]) S (n+1) sa (a.setIfInBounds (sa+n) p) (by simpa using h1) (by rw[Yc,YA];lia) h4;rw[this];simp
theorem FU {m P:List YI}{sa:Nat}{a:Array YI}(h1:m.length=l.length)(h2:sa=P.length)(h3:a.toList=P++(m++S)):(nG l sa a).toList=P++(l++S):=
 u5 l m P S 0 sa a h1 (by lia) h3
theorem Lv (C:oq M A E s O key knd D){P x:List YI}{sa:Nat}{st:YH}{Q:Bool->YH->Prop}{ax ay:Array YI}{na nb:Nat}(ex:ax.toList=x)(ey:ay.toList=y)(hf:abA st=none)(kd:ZM st=knd)(ha:(Y8 st).toList=P++((x++y)++S))(hs:sa=P.length)(dx:∀p∈x,D p)(dy:∀p∈y,D p)(sx:ki key x)(sy:ki key y)(x0:0<x.length)(y0:0<y.length)(first:∀q,y[0]? = some q->∀p∈x,O.kle (key q) (key p))(last:∀i,i+1=x.length->∀q∈y,∀p,x[i]? = some p->O.kle (key q) (key p))(h:∀z g,z.Perm (x++y)->ki key z->Q true (eK (setArr st (P++(z++S)).toArray) g)):wpS M A E s (O4 ax ay sa na nb) Q st:=by
 subst ex;subst ey;have fin:∀(r:Array YI) (g:Nat),r.toList.Perm (ax.toList++ay.toList)->ki key r.toList->wpS M A E s (do
   modify λs=>setArr s (nG r.toList sa (Y8 s))
   let s ←get
   pure (abA s).isNone) Q (eK st g):=by
  intro r g hp hr;refine Yt (abI ?_);refine Yt (ac_ (YD ?_));have e1:nG r.toList sa (Y8 st)=(P++(r.toList++S)).toArray:=by
   apply Array.ext';rw[FU (m:=ax.toList++ay.toList) hp.length_eq.symm hs ha]
  have e2:(abA (setArr (eK st g) (nG r.toList sa (Y8 (eK st g))))).isNone=true:=by
   show (abA st).isNone=true;rw[hf];rfl
  rw[e2];have e3:setArr (eK st g) (nG r.toList sa (Y8 (eK st g)))=eK (setArr st (P++(r.toList++S)).toArray) g:=by
   rw[←e1]
  rw[e3];exact h r.toList g hp hr
 unfold O4;dsimp only;split
 ·refine Yt ?_;exact Cs C ⟨dx,dy,λi hi=>last i (by rw[Yi];exact hi)⟩ kd sx sy (by simpa using x0) (by simpa using y0) first fin
 ·refine Yt ?_;exact Cu C ⟨dx,dy,first⟩ kd sx sy (by simpa using x0) (by simpa using y0) (λi hi=>last i (by rw[Yi];exact hi)) fin
def Lw {σ:Type}{st bb:σ}{Q:PUnit->σ->Prop}(h:Q ⟨⟩ bb):wpS M A E s (set bb:StateT σ Sem PUnit) Q st:=by
 unfold wpS;rw[StateT.run_set];exact Yg ⟨rfl,h⟩
theorem yr {P x R:List YI}(h:l=P++(x++R))(i:Nat)(p:YI)(e:x[i]? = some p):l[P.length+i]? = some p:=by
 have hi:i<x.length:=by
  rcases aaO i x.length with h|h
  ·exact h
  ·rw[List.getElem?_eq_none h] at e;cases e
 rw[h,Zs (Z7 _ _),aad,ZJ hi,e]
noncomputable def xp (p:Array (Nat×Nat×Nat))(i sa n pw:Nat):Array (Nat×Nat×Nat):=(p.setIfInBounds i (sa,n,pw)).eraseIdxIfInBounds (i+1)
theorem Cv (C:oq M A E s O key knd D){P x:List YI}{pw pw2:Nat}{st:YH}{Q:Bool->YH->Prop}(hf:abA st=none)(kd:ZM st=knd)(ha:(Y8 st).toList=P++(x++(y++S)))(h1:(Y0 st)[i]? = some (P.length,x.length,pw))(h2:(Y0 st)[i+1]? = some (P.length+x.length,y.length,pw2))(dx:∀p∈x,D p)(dy:∀p∈y,D p)(sx:ki key x)(sy:ki key y)(x0:0<x.length)(y0:0<y.length)(h:∀z g,z.Perm (x++y)->ki key z->Q true (eK (setArr (setPending st (xp (Y0 st) i P.length (x.length+y.length) pw)) (P++(z++S)).toArray) g)):wpS M A E s (mergeAt' i) Q st:=by
 have all:∀(hz:ki key (x++y)),Q true (setPending st (xp (Y0 st) i P.length (x.length+y.length) pw)):=by
  intro hz;have:=h (x++y) (ac0 st) (Z3 _) hz;have e:(P++(x++y++S)).toArray=Y8 st:=by
   apply Array.ext';rw[ha,YB]
  rw[e] at this;exact this
 have Qu:(Y8 st).toList=(P++x)++(y++S):=by rw[ha,YB]
 rw[Am];refine Yt (ac_ ?_);rw[h1,h2];dsimp only;refine Yt (Lw ?_);have ey:(Y8 st).toList[P.length+x.length]? = some y[0]:=by
  have:=yr Qu 0 y[0] (X7 y0);rw[Yc] at this;exact this
 refine Yt (cI ey ?_);refine Yt (oK C (seg:=x) (λi p e=>yr ha i p e) sx dx (dy _ (Za y0)) kd x0 λk hk p1 p2=>?_);dsimp only;have yh:∀q∈y,O.kle (key y[0]) (key q):=by
  have:=mS (l:=y) (i:=0) (key:=key) (by simpa using sy) y0;simpa using this
 by_cases c:x.length-k=0
 ·rw[hV (by simpa using c)];refine YD (all ?_);have:x.take k=x:=ZZ (by lia);rw[this] at p1;exact cw.mpr ⟨sx,sy,λp hp q hq=>Y3 (p1 p hp) (yh q hq)⟩
 ·rw[hU (by simpa using c)];have To:x.length-1<x.length:=by lia
  have W5:(Y8 st).toList[P.length+k+(x.length-k)-1]? = some x[x.length-1]:=by
   have:=yr ha (x.length-1) _ (X7 To);rw[show P.length+k+(x.length-k)-1=P.length+(x.length-1) by lia];exact this
  refine Yt (cI W5 ?_);refine Yt (oM C (seg:=y) (λi p e=>by have:=yr Qu i p e;rw[Yc] at this;exact this) sy dy (dx _ (Za To)) kd (by lia) λnb W6 q1 q2=>?_);dsimp only;have NN:∀p∈x,O.kle (key p) (key x[x.length-1]):=by
   have:=jP (l:=x) (n:=x.length) (key:=key) (by rw[aax];exact sx) x0 To;rw[aax] at this;exact this
  by_cases c2:nb=0
  ·rw[hV (by simpa using c2)];refine YD (all ?_);subst c2;exact cw.mpr ⟨sx,sy,λp hp q hq=>Y3 (NN p hp) (q2 q hq)⟩
  ·rw[hU (by simpa using c2)];have xs:x=x.take k++x.drop k:=(Y_ k x).symm;have ys:y=y.take nb++y.drop nb:=(Y_ nb y).symm;obtain⟨sx1,sx2,sx3⟩:=cw.mp (xs▸sx);obtain⟨sy1,sy2,sy3⟩:=cw.mp (ys▸sy);refine Lv C (P:=P++x.take k) (x:=x.drop k) (y:=y.take nb) (S:=y.drop nb++S) ?ex ?ey hf kd ?ha ?hs (λp hp=>dx p (Zr hp)) (λp hp=>dy p (Zd hp)) sx2 sy1 (by rw[YO];lia) (by rw[Yy];lia) ?first ?last λz g hz sz=>?_
   case ex=>
    rw[yp,Qu];rw[show P.length+x.length=(P++x).length by rw[Yc]];rw[List.take_left,List.drop_append,aa_ (by lia),aad];rfl
   case ey=>
    rw[ym,Qu];rw[show P.length+x.length=(P++x).length by rw[Yc],List.drop_left,List.take_append_of_le_length W6]
   case ha=>
    show (Y8 st).toList=_;rw[ha]
    conv=>lhs;rw[xs,ys]
    simp only[YB]
   case hs=>rw[Yc,Yy];lia
   case first=>
    intro q hq p hp;have:(y.take nb)[0]? = y[0]? := by rw[abX,hV (by lia)]
    rw[this,X7 y0] at hq;injection hq with hq
    subst hq;exact Zm (p2 p hp)
   case last=>
    intro i hi q hq p hp;rw[YO] at hi;rw[abT,show k+i=x.length-1 by lia,X7 To] at hp;injection hp with hp
    subst hp;exact Zm (q1 q hq)
   have mz:∀r∈z,r∈x.drop k\/r∈y.take nb:=λr hr=>Yx.mp (hz.mem_iff.mp hr);have tG:(x.take k++(z++y.drop nb)).Perm (x++y):=by
    have e:x++y=x.take k++((x.drop k++y.take nb)++y.drop nb):=by
     conv=>lhs;rw[xs,ys]
     simp only[YB]
    rw[e];exact Zz _ (ZL _ hz)
   have W7:ki key (x.take k++(z++y.drop nb)):=by
    refine cw.mpr ⟨sx1,cw.mpr ⟨sz,sy2,λp hp q hq=>?_⟩,λp hp q hq=>?_⟩
    ·rcases mz p hp with hp|hp
     ·exact Y3 (NN p (Zr hp)) (q2 q hq)
     ·exact sy3 p hp q hq
    ·rcases Yx.mp hq with hq|hq
     ·rcases mz q hq with hq|hq
      ·exact sx3 p hp q hq
      ·exact Y3 (p1 p hp) (yh q (Zd hq))
     ·exact Y3 (p1 p hp) (yh q (Zr hq))
   have:=h _ g tG W7;have e:P++(x.take k++(z++y.drop nb)++S)=P++x.take k++(z++(y.drop nb++S)):=by simp only[YB]
   rw[e] at this;exact this
end
end Hc.Ts
namespace Hc.Ts
noncomputable def Es (lo n m:Nat):StateT YH Sem AscSt:=forIn [n:m] ((none,n):AscSt) λ_ c=>do
 let some sm ←ltAt' (lo+c.2) (lo+c.2-1)|pure (.done (some none,c.2))
 if sm=true then pure (.done (none,c.2)) else pure (.yield (none,c.2+1))
noncomputable def Et (lo n m:Nat):StateT YH Sem (Option Nat):=do
 acx lo (lo+n)
 let c ←Es lo n m
 match c.1 with
 |some r=>pure r
 |none=>pure (some c.2)
noncomputable def Nh (lo:Nat)(c:DescSt):StateT YH Sem (ForInStep DescSt):=do
 let some sm ←ltAt' (lo+c.2.1) (lo+c.2.1-1)|pure (.done (some none,c.2.1,c.2.2))
 if sm=true then
  if c.2.2>0 then do
   acx (lo+c.2.1-(c.2.2+1)) (lo+c.2.1)
   pure (.yield (none,c.2.1+1,0))
  else pure (.yield (none,c.2.1+1,0))
 else do
  let some lg ←ltAt' (lo+c.2.1-1) (lo+c.2.1)|pure (.done (some none,c.2.1,c.2.2))
  if lg=true then pure (.done (none,c.2.1,c.2.2)) else pure (.yield (none,c.2.1+1,c.2.2+1))
noncomputable def IL (lo n m:Nat):StateT YH Sem DescSt:=forIn [n:m] ((none,n,0):DescSt) λ_ c=>Nh lo c
noncomputable def Eu (lo n m:Nat):StateT YH Sem (Option Nat):=do
 liftM (rule "list.sort.descending-run")
 let c ←IL lo (n+1) m
 match c.1 with
 |some r=>pure r
 |none=>
  if c.2.2>0 then do
   acx (lo+c.2.1-(c.2.2+1)) (lo+c.2.1)
   Et lo c.2.1 m
  else Et lo c.2.1 m
theorem An (lo m:Nat):countRun' lo m=(do
  let c ←Es lo 1 m
  match c.1 with
  |some r=>pure r
  |none=>
   if (c.2==m)=true then pure (some c.2)
   else if c.2>1 then do
    let some rs ←ltAt' lo (lo+c.2-1)|pure none
    if rs=true then pure (some c.2)
    else do
     acx lo (lo+c.2)
     Eu lo c.2 m
   else Eu lo c.2 m):=by kernel_rfl
section
variable {A:Zk}{O:adp}{key:YI->O.α}{knd:abz}{D:YI->Prop}{lo:Nat}{a0:Array YI}{dM:YH}
noncomputable def kx (key:YI->O.α)(l:Array YI)(i:Nat):O.α:=key ((l[i]?).getD (Value.none,Value.none))
def Ao {l m:Array YI}(h:l[i]? = m[j]?):kx key l i=kx key m j:=by unfold kx;rw[h]
theorem Cw {l:Array YI}(hm:lo+m<=l.size)(k:Nat):kx key (mirror l (lo+n) (lo+m) ((lo+m-(lo+n)) / 2)) (lo+k)=if n<=k/\k<m then kx key l (lo+(n+m-1-k)) else kx key l (lo+k):=by
 have e:=getElem?_mirror_all (i:=lo+n) hm (lo+k);by_cases c:n<=k/\k<m
 ·rw[hV (by lia)] at e;rw[hV c];exact Ao (e.trans (by congr 1;lia))
 ·rw[hU (by lia)] at e;rw[hU c];exact Ao e
theorem i0 {l:Array YI}(hm:lo+m<=l.size)(he:∀k,n<=k->k<m->kx key l (lo+k)=kx key l (lo+m-1))(k:Nat):kx key (mirror l (lo+n) (lo+m) ((lo+m-(lo+n)) / 2)) (lo+k)=kx key l (lo+k):=by
 rw[Cw hm];split
 ·rename_i c;rw[he _ (by lia) (by lia),he k c.1 c.2]
 ·rfl
theorem IM {l:Array YI}{p:Nat}(hp:lo+p<l.size)(hd:d<=p)(k:Nat):kx key (bubble l (lo+p) d) (lo+k)=if k=p-d then kx key l (lo+p) else if p-d<k/\k<=p then kx key l (lo+(k-1)) else kx key l (lo+k):=by
 have e:=getElem?_bubble hp d (by lia) (lo+k);by_cases c:k=p-d
 ·rw[hV (by lia)] at e;rw[hV c];exact Ao e
 ·rw[hU (by lia)] at e;rw[hU c];by_cases c2:p-d<k/\k<=p
  ·rw[hV (by lia)] at e;rw[hV c2];exact Ao (e.trans (by congr 1;lia))
  ·rw[hU (by lia)] at e;rw[hU c2];exact Ao e
def Gv (key:YI->O.α)(lo:Nat)(l:Array YI)(n:Nat):Prop:=∀i j,i<=j->j<n->O.kle (kx key l (lo+i)) (kx key l (lo+j))
def Qk (key:YI->O.α)(lo:Nat)(l:Array YI)(n:Nat):Prop:=∀i j,i<=j->j<n->O.kle (kx key l (lo+j)) (kx key l (lo+i))
structure SB (lo:Nat)(a0:Array YI)(dM st:YH):Prop where
 perm:(Y8 st).Perm a0
 same:∀k,k<lo->(Y8 st)[k]? = a0[k]?
 rest:st=setArr dM (Y8 st)
def SB.size {st:YH}(h:SB lo a0 dM st):(Y8 st).size=a0.size:=h.perm.size_eq
theorem SB.put {st:YH}(h:SB lo a0 dM st){l:Array YI}(hp:l.Perm (Y8 st))(hs:∀k,k<lo->l[k]? = (Y8 st)[k]?):SB lo a0 dM (setArr st l):=by
 refine⟨hp.trans h.perm,λk hk=>(hs k hk).trans (h.same k hk),?_⟩;have:=h.rest;generalize Y8 st=z at this;subst this;rfl
theorem SB.mir {st:YH}(h:SB lo a0 dM st)(hm:lo+m<=a0.size):SB lo a0 dM (setArr st (mirror (Y8 st) (lo+n) (lo+m) ((lo+m-(lo+n)) / 2))):=by
 refine h.put (mirror_perm _ _ _ _) λk hk=>?_;rw[getElem?_mirror_all (by rw[h.size];exact hm),hU (by lia)]
theorem SB.bub {st:YH}(h:SB lo a0 dM st){p:Nat}(hp:lo+p<a0.size)(hd:d<=p):SB lo a0 dM (setArr st (bubble (Y8 st) (lo+p) d)):=by
 refine h.put (bubble_perm _ _ _) λk hk=>?_;rw[getElem?_bubble (by rw[h.size];exact hp) d (by lia),hU (by lia),hU (by lia)]
def SB.kind {st:YH}(h:SB lo a0 dM st)(kd:ZM dM=knd):ZM st=knd:=by rw[h.rest];exact kd
theorem u6 (C:oq M A E s O key knd D){st:YH}{Q:Option Bool->YH->Prop}(kd:ZM dM=knd)(hD:∀p∈a0.toList,D p)(hB:SB lo a0 dM st)(hi:i<a0.size)(hj:j<a0.size)(h:Q (some (O.blt (kx key (Y8 st) i) (kx key (Y8 st) j))) st):wpS M A E s (ltAt' i j) Q st:=by
 have fd:∀i,i<a0.size->∃p,(Y8 st)[i]? = some p/\D p/\kx key (Y8 st) i=key p:=λi hi=>by
  have Gj:i<(Y8 st).size:=by rw[hB.size];exact hi
  refine⟨(Y8 st)[i],getElem?_pos _ i Gj,hD _ ((acQ.mp hB.perm).mem_iff.mp (by simp)),?_⟩;unfold kx;rw[getElem?_pos _ i Gj];rfl
 obtain⟨p,e1,d1,k1⟩:=fd i hi;obtain⟨q,e2,d2,k2⟩:=fd j hj;rw[k1,k2] at h;rw[ltAt'_eq];refine Yt (ac_ ?_);dsimp only;rw[elem'_eq,elem'_eq,e1,e2];refine Yt (YD (Yt (YD ?_)));exact C.lt p q st Q d1 d2 (hB.kind kd) h
def yt {st:YH}{Q:Unit->YH->Prop}(h:Q () (setArr st (mirror (Y8 st) i j ((j-i) / 2)))):wpS M A E s (acx i j) Q st:=by
 rw[reverseSlice'_eq];exact abI h
theorem Ap (C:oq M A E s O key knd D){st:YH}{Q:AscSt->YH->Prop}(kd:ZM dM=knd)(hD:∀p∈a0.toList,D p)(hm:lo+m<=a0.size)(n1:1<=n)(nm:n<=m)(hB:SB lo a0 dM st)(ha:Gv key lo (Y8 st) n)(h:∀r,n<=r->r<=m->Gv key lo (Y8 st) r->(r=m\/O.klt (kx key (Y8 st) (lo+r)) (kx key (Y8 st) (lo+r-1)))->Q (none,r) st):wpS M A E s (Es lo n m) Q st:=by
 unfold Es;refine ZO (I:=λx c bb=>bb=st/\c=(none,x)/\Gv key lo (Y8 st) x) ?go ?out ⟨rfl,rfl,ha⟩
 case out=>
  rintro c bb ⟨rfl,rfl,Di⟩;have e:max n m=m:=by lia
  rw[e] at Di ⊢;exact h m nm (Yl _) Di (.inl rfl)
 case go=>
  rintro x c bb h1 h2 ⟨rfl,rfl,Di⟩;dsimp only;refine Yt (u6 C kd hD hB (by lia) (by lia) ?_);dsimp only;cases e:O.blt (kx key (Y8 bb) (lo+x)) (kx key (Y8 bb) (lo+x-1)) with
  |true=>
   rw[hV rfl];exact YD (h x h1 (by lia) Di (.inr e))
  |false=>
   rw[hU Yd];refine YD ⟨rfl,rfl,λi j BB hj=>?_⟩;by_cases c1:j<x
   ·exact Di i j BB c1
   ·have:j=x:=by lia
    subst this;by_cases c2:i=j
    ·subst c2;exact Z5 _
    ·have:=Di i (j-1) (by lia) (by lia);rw[show lo+(j-1)=lo+j-1 by lia] at this;exact Y3 this e
theorem Aq (C:oq M A E s O key knd D){st:YH}{Q:Option Nat->YH->Prop}(kd:ZM dM=knd)(hD:∀p∈a0.toList,D p)(hm:lo+m<=a0.size)(n1:1<=n)(nm:n<=m)(hB:SB lo a0 dM st)(hd:Qk key lo (Y8 st) n)(h:∀r bb,SB lo a0 dM bb->1<=r->r<=m->Gv key lo (Y8 bb) r->Q (some r) bb):wpS M A E s (Et lo n m) Q st:=by
 unfold Et;refine Yt (yt ?_);have Qv:=hB.mir (n:=0) (m:=n) (by lia);have hz:lo+n<=(Y8 st).size:=by rw[hB.size];lia
 rw[acZ] at Qv;refine Yt (Ap C kd hD hm n1 nm Qv (λi j BB hj=>?_) λr r1 r2 r3 _=>YD (h r _ Qv (by lia) r2 r3));have e1:=Cw (key:=key) (lo:=lo) (n:=0) hz i;have e2:=Cw (key:=key) (lo:=lo) (n:=0) hz j;rw[acZ,hV (by lia)] at e1 e2;rw[e1,e2];exact hd _ _ (by lia) (by lia)
theorem IP (C:oq M A E s O key knd D){st:YH}{Q:DescSt->YH->Prop}(kd:ZM dM=knd)(hD:∀p∈a0.toList,D p)(hm:lo+m<=a0.size)(n1:1<=n)(nm:n<=m)(hB:SB lo a0 dM st)(hd:Qk key lo (Y8 st) n)(h:∀r q bb,SB lo a0 dM bb->n<=r->r<=m->Qk key lo (Y8 bb) r->q+1<=r->(∀i,r-(q+1)<=i->i<r->kx key (Y8 bb) (lo+i)=kx key (Y8 bb) (lo+r-1))->Q (none,r,q) bb):wpS M A E s (IL lo n m) Q st:=by
 unfold IL;refine ZO (I:=λx c bb=>∃q,c=(none,x,q)/\SB lo a0 dM bb/\Qk key lo (Y8 bb) x/\q+1<=x/\∀i,x-(q+1)<=i->i<x->kx key (Y8 bb) (lo+i)=kx key (Y8 bb) (lo+x-1)) ?go ?out
  ⟨0,rfl,hB,hd,by lia,λi a1 a2=>by congr 1;lia⟩
 case out=>
  rintro c bb ⟨q,rfl,b1,b2,b3,b4⟩;have e:max n m=m:=by lia
  rw[e] at b2 b3 b4 ⊢;exact h m q bb b1 nm (Yl _) b2 b3 b4
 case go=>
  rintro x c bb h1 h2 ⟨q,rfl,b1,b2,b3,b4⟩;have hz:lo+x<=(Y8 bb).size:=by rw[b1.size];lia
  unfold Nh;dsimp only;refine Yt (u6 C kd hD b1 (by lia) (by lia) ?_);dsimp only;cases e:O.blt (kx key (Y8 bb) (lo+x)) (kx key (Y8 bb) (lo+x-1)) with
  |true=>
   rw[hV rfl];have nx:∀l:Array YI,(∀k,kx key l (lo+k)=kx key (Y8 bb) (lo+k))->Qk key lo l (x+1):=by
    intro l hl i j BB hj;rw[hl,hl];by_cases c1:j<x
    ·exact b2 i j BB c1
    ·have:j=x:=by lia
     subst this;by_cases c2:i=j
     ·subst c2;exact Z5 _
     ·have:=b2 i (j-1) (by lia) (by lia);rw[show lo+(j-1)=lo+j-1 by lia] at this;exact Y3 (Zm e) this
   by_cases c:q>0
   ·rw[hV c];refine Yt (yt ?_);have e3:lo+x-(q+1)=lo+(x-(q+1)):=by lia
    rw[e3];refine YD ⟨0,rfl,b1.mir (by lia),nx _ (i0 hz b4),by lia,λi a1 a2=>?_⟩;congr 1;lia
   ·rw[hU c];exact YD ⟨0,rfl,b1,nx _ (λ_=>rfl),by lia,λi a1 a2=>by congr 1;lia⟩
  |false=>
   rw[hU Yd];refine Yt (u6 C kd hD b1 (by lia) (by lia) ?_);dsimp only;cases e2:O.blt (kx key (Y8 bb) (lo+x-1)) (kx key (Y8 bb) (lo+x)) with
   |true=>
    rw[hV rfl];exact YD (h x q bb b1 h1 (by lia) b2 b3 b4)
   |false=>
    rw[hU Yd];have eq:kx key (Y8 bb) (lo+x)=kx key (Y8 bb) (lo+x-1):=KeyOrd.kle_antisymm e2 e;refine YD ⟨q+1,rfl,b1,λi j BB hj=>?_,by lia,λi a1 a2=>?_⟩
    ·by_cases c1:j<x
     ·exact b2 i j BB c1
     ·have:j=x:=by lia
      subst this;by_cases c2:i=j
      ·subst c2;exact Z5 _
      ·rw[eq];have:=b2 i (j-1) (by lia) (by lia);rw[show lo+(j-1)=lo+j-1 by lia] at this;exact this
    ·rw[show lo+(x+1)-1=lo+x by lia];by_cases c1:i=x
     ·subst c1;rfl
     ·rw[eq];exact b4 i (by lia) (by lia)
theorem Ar (C:oq M A E s O key knd D){st:YH}{Q:Option Nat->YH->Prop}(kd:ZM dM=knd)(hD:∀p∈a0.toList,D p)(hm:lo+m<=a0.size)(nm:n+1<=m)(hB:SB lo a0 dM st)(hd:Qk key lo (Y8 st) (n+1))(h:∀r bb,SB lo a0 dM bb->1<=r->r<=m->Gv key lo (Y8 bb) r->Q (some r) bb):wpS M A E s (Eu lo n m) Q st:=by
 unfold Eu;refine Yt (wpS_lift (aa8 ⟨rfl,?_⟩));refine Yt (IP C kd hD hm (by lia) nm hB hd λr q bb b1 r1 r2 b2 b3 b4=>?_);dsimp only;have hz:lo+r<=(Y8 bb).size:=by rw[b1.size];lia
 by_cases c:q>0
 ·rw[hV c];refine Yt (yt ?_);have e3:lo+r-(q+1)=lo+(r-(q+1)):=by lia
  rw[e3];refine Aq C kd hD hm (by lia) r2 (b1.mir (by lia)) (λi j BB hj=>?_) h;have e1:=i0 (key:=key) hz b4 i;have e2:=i0 (key:=key) hz b4 j;rw[e1,e2];exact b2 i j BB hj
 ·rw[hU c];exact Aq C kd hD hm (by lia) r2 b1 b2 h
theorem As (C:oq M A E s O key knd D){st:YH}{Q:Option Nat->YH->Prop}(kd:ZM dM=knd)(hD:∀p∈a0.toList,D p)(hm:lo+m<=a0.size)(m1:1<=m)(hB:SB lo a0 dM st)(h:∀r bb,SB lo a0 dM bb->1<=r->r<=m->Gv key lo (Y8 bb) r->Q (some r) bb):wpS M A E s (countRun' lo m) Q st:=by
 rw[An];refine Yt (Ap C kd hD hm (Yl 1) m1 hB (λi j BB hj=>by rw[show i=j by lia];exact Z5 _) λn n1 n2 ha ho=>?_);dsimp only;by_cases c:n=m
 ·rw[hV (by simpa using c)];exact YD (h n st hB n1 n2 ha)
 ·rw[hU (by simpa using c)];have hl:=ho.resolve_left c;by_cases c2:n>1
  ·rw[hV c2];refine Yt (u6 C kd hD hB (by lia) (by lia) ?_);dsimp only;cases e:O.blt (kx key (Y8 st) lo) (kx key (Y8 st) (lo+n-1)) with
   |true=>
    rw[hV rfl];exact YD (h n st hB n1 n2 ha)
   |false=>
    rw[hU Yd];have hz:lo+n<=(Y8 st).size:=by rw[hB.size];lia
    have al:∀k,0<=k->k<n->kx key (Y8 st) (lo+k)=kx key (Y8 st) (lo+n-1):=by
     intro k _ hk;have p1:=ha 0 k (by lia) hk;have p2:=ha k (n-1) (by lia) (by lia);rw[show lo+(n-1)=lo+n-1 by lia] at p2;exact KeyOrd.kle_antisymm p2 (Y3 (show O.kle _ (kx key (Y8 st) lo) from e) p1)
    refine Yt (yt ?_);have Qv:=hB.mir (n:=0) (m:=n) (by lia);rw[acZ] at Qv;refine Ar C kd hD hm (by lia) Qv (λi j BB hj=>?_) h;have e1:=i0 (key:=key) (n:=0) hz al i;have e2:=i0 (key:=key) (n:=0) hz al j;rw[acZ] at e1 e2;rw[e1,e2];by_cases c3:j<n
    ·rw[al i (by lia) (by lia),al j (by lia) c3];exact Z5 _
    ·have:j=n:=by lia
     subst this;by_cases c4:i=j
     ·subst c4;exact Z5 _
     ·rw[al i (by lia) (by lia)];exact Zm hl
  ·rw[hU c2];have:n=1:=by lia
   subst this;refine Ar C kd hD hm (by lia) hB (λi j BB hj=>?_) h;by_cases c4:i=j
   ·subst c4;exact Z5 _
   ·have U9:i=0:=by lia
    have W8:j=1:=by lia
    subst U9;subst W8;exact Zm hl
theorem Cy (C:oq M A E s O key knd D){st:YH}{ok:Nat}{Q:Bool->YH->Prop}(kd:ZM dM=knd)(hD:∀p∈a0.toList,D p)(hn:lo+n<=a0.size)(hok:ok<=n)(hB:SB lo a0 dM st)(ha:Gv key lo (Y8 st) ok)(h:∀bb,SB lo a0 dM bb->Gv key lo (Y8 bb) n->Q true bb):wpS M A E s (binarySort' lo n ok) Q st:=by
 rw[binarySort'_eq];refine Yt (aaS (ZO (I:=λk c bb=>c=(none,())/\SB lo a0 dM bb/\Gv key lo (Y8 bb) (min k n))
  (Q:=λc bb=>c=(none,())/\SB lo a0 dM bb/\Gv key lo (Y8 bb) n) ?go ?out ?dX) ?end_)
 case end_=>
  rintro c bb ⟨rfl,b1,b2⟩;exact YD (h bb b1 b2)
 case dX=>
  refine⟨rfl,hB,λi j BB hj=>?_⟩;by_cases c:ok=0
  ·rw[show i=j by lia];exact Z5 _
  ·exact ha i j BB (by lia)
 case out=>
  rintro c bb ⟨e,b1,b2⟩;have e2:min (max (max ok 1) n) n=n:=by lia
  rw[e2] at b2;exact⟨e,b1,b2⟩
 case go=>
  rintro k c De Gy V4 ⟨rfl,b1,b2⟩;have e1:min k n=k:=by lia
  rw[e1] at b2;have hk:lo+k<a0.size:=by lia
  refine Yt (aaS (ZO (I:=λx c nO=>nO=De/\∃l r,c=(none,l,r)/\l<=r/\r<=k/\r-l<=k-x/\
    (∀i,i<l->O.kle (kx key (Y8 De) (lo+i)) (kx key (Y8 De) (lo+k)))/\∀i,r<=i->i<k->O.klt (kx key (Y8 De) (lo+k)) (kx key (Y8 De) (lo+i)))
   (Q:=λc nO=>nO=De/\∃l,c=(none,l,l)/\l<=k/\(∀i,i<l->O.kle (kx key (Y8 De) (lo+i)) (kx key (Y8 De) (lo+k)))/\∀i,l<=i->i<k->O.klt (kx key (Y8 De) (lo+k)) (kx key (Y8 De) (lo+i))) ?go2 ?out2 ?tq) ?end2)
  case tq=>exact⟨rfl,0,k,rfl,by lia,by lia,by lia,λi hi=>by lia,λi a1 a2=>by lia⟩
  case out2=>
   rintro c nO ⟨rfl,l,r,rfl,q1,q2,q3,q4,q5⟩;have:l=r:=by lia
   subst this;exact⟨rfl,l,rfl,q2,q4,q5⟩
  case go2=>
   rintro x c nO _ hx ⟨rfl,l,r,rfl,q1,q2,q3,q4,q5⟩;dsimp only;by_cases c:l≥r
   ·rw[hV c];have:l=r:=by lia
    subst this;exact YD ⟨rfl,l,rfl,q2,q4,q5⟩
   ·rw[hU c];refine Yt (u6 C kd hD b1 hk (by lia) ?_);cases e:O.blt (kx key (Y8 nO) (lo+k)) (kx key (Y8 nO) (lo+(l+r) / 2)) with
    |true=>
     simp only[if_true];exact YD ⟨rfl,l,(l+r) / 2,rfl,by lia,by lia,by lia,q4,λi a1 a2=>KeyOrd.klt_of_klt_of_kle e (b2 _ _ a1 a2)⟩
    |false=>
     simp only[Yn,if_false];exact YD ⟨rfl,(l+r) / 2+1,r,rfl,by lia,by lia,by lia,λi a1=>Y3 (b2 i ((l+r) / 2) (by lia) (by lia)) (show O.kle _ _ from e),q5⟩
  case end2=>
   rintro c nO ⟨rfl,l,rfl,q2,q4,q5⟩;dsimp only;rw[moveDown'_eq];have e2:lo+k-(lo+l)=k-l:=by lia
   refine Yt (abI (YD ⟨rfl,?_,?_⟩))
   ·rw[e2];exact b1.bub hk (by lia)
   ·rw[show min (k+1) n=k+1 by lia];have hz:lo+k<(Y8 nO).size:=by rw[b1.size];exact hk
    intro i j BB hj;show O.kle (kx key (bubble (Y8 nO) (lo+k) (lo+k-(lo+l))) (lo+i)) (kx key (bubble (Y8 nO) (lo+k) (lo+k-(lo+l))) (lo+j));rw[e2,IM hz (by lia),IM hz (by lia),show k-(k-l)=l by lia]
    repeat' split
    all_goals first
     | (exfalso;lia)
     |exact Z5 _
     |exact q4 _ (by lia)
     |exact Zm (q5 _ (by lia) (by lia))
     |exact b2 _ _ (by lia) (by lia)
end
end Hc.Ts
namespace Hc.Ts
noncomputable def yu (lo n:Nat):StateT YH Sem (ForInStep (Option Unit×Nat)):=do
 modify λst=>setPending st ((Y0 st).push (lo,n,0))
 pure (.yield (none,lo+n))
noncomputable def Uu (pw:Nat)(_:Nat)(_:Option Unit×Unit):StateT YH Sem (ForInStep (Option Unit×Unit)):=do
 let st ←get
 let some (_,_,old):=(if (Y0 st).size>1 then (Y0 st)[(Y0 st).size-2]? else none)|pure (.done (none,()))
 if old<=pw then pure (.done (none,())) else do
  let r ←mergeAt' ((Y0 st).size-2)
  if (!r)=true then pure (.done (some (),())) else pure (.yield (none,()))
noncomputable def Uv (pw:Nat)(st:YH):YH:=setPending st ((Y0 st).modify ((Y0 st).size-1) λx=>match x with|(p,n,_)=>(p,n,pw))
noncomputable def Ni (size lo n pw:Nat):StateT YH Sem (ForInStep (Option Unit×Nat)):=do
 let c ←forIn [0:size] ((none,()):Option Unit×Unit) (Uu pw)
 match c.1 with
 |some r=>pure (.done (some r,lo))
 |none=>do
  modify (Uv pw)
  yu lo n
noncomputable def Te (size lo n:Nat):StateT YH Sem (ForInStep (Option Unit×Nat)):=do
 let st ←get
 let some (p1,n1,_):=(Y0 st).back? | yu lo n
 Ni size lo n (power' size (2*p1+n1) (2*p1+n1+n1+n) size)
noncomputable def Uw (size rD:Nat)(_:Nat)(c:Option Unit×Nat):StateT YH Sem (ForInStep (Option Unit×Nat)):=
 if c.2≥size then pure (.done (none,c.2)) else do
  let some n ←countRun' c.2 (size-c.2)|pure (.done (some (),c.2))
  if n<rD then do
   liftM (rule "list.sort.binary-insertion")
   let r ←binarySort' c.2 (min (size-c.2) rD) n
   if (!r)=true then pure (.done (some (),c.2)) else Te size c.2 (min (size-c.2) rD)
  else Te size c.2 n
noncomputable def Ux (p:Array (Nat×Nat×Nat)):Nat:=
 if Option.any (λx=>decide (x<(p[p.size-2+1]?).elim 0 λx=>x.2.1)) (if p.size-2>0 then Option.map (λx=>x.2.1) p[p.size-2-1]? else none)=true then p.size-2-1 else p.size-2
noncomputable def VB (_:Nat)(_:Option Unit×Unit):StateT YH Sem (ForInStep (Option Unit×Unit)):=do
 let st ←get
 if (Y0 st).size<=1 then pure (.done (none,())) else do
  let r ←mergeAt' (Ux (Y0 st))
  if (!r)=true then pure (.done (some (),())) else pure (.yield (none,()))
theorem yv:sortRuns'=(do
  let st ←get
  let c ←forIn [0:(Y8 st).size] ((none,0):Option Unit×Nat) (Uw (Y8 st).size (minRun' (Y8 st).size (Y8 st).size 0))
  match c.1 with
  |some r=>pure r
  |none=>do
   let d ←forIn [0:(Y8 st).size] ((none,()):Option Unit×Unit) VB
   match d.1 with
   |some r=>pure r
   |none=>pure ()):=by kernel_rfl
section
variable {A:Zk}{O:adp}{key:YI->O.α}{knd:abz}{D:YI->Prop}
def u7 (key:YI->O.α):Nat->List (List YI)->List (Nat×Nat×Nat)->Prop
 |_,[],[]=>True
 |p,g::gs,e::es=>e.1=p/\e.2.1=g.length/\0<g.length/\ki key g/\u7 key (p+g.length) gs es
 |_,_,_=>False
theorem u7.len:∀{p:Nat} {gs:List (List YI)} {es:List (Nat×Nat×Nat)},u7 key p gs es->gs.length=es.length/\gs.length<=gs.flatten.length
 |_,[],[],_=>⟨rfl,Yl _⟩
 |p,g::gs,e::es,h=>by
  obtain⟨h1,h2⟩:=u7.len h.2.2.2.2;have:=h.2.2.1;rw[Y7,Yc,X_,X_];lia
theorem u7.app:∀{p:Nat} {gs:List (List YI)} {es:List (Nat×Nat×Nat)} {gs2:List (List YI)} {es2:List (Nat×Nat×Nat)},u7 key p gs es->u7 key (p+gs.flatten.length) gs2 es2->u7 key p (gs++gs2) (es++es2)
 |_,[],[],_,_,_,h2=>h2
 |p,g::gs,e::es,gs2,es2,h,h2=>by
  refine⟨h.1,h.2.1,h.2.2.1,h.2.2.2.1,u7.app h.2.2.2.2 ?_⟩;rw[Y7,Yc,←Nat.add_assoc] at h2;exact h2
theorem u7.split:∀{i p:Nat} {gs:List (List YI)} {es:List (Nat×Nat×Nat)},u7 key p gs es->i+1<es.length->∃g1 x y g2 e1 pw pw2 e2,gs=g1++x::y::g2/\es=e1++(p+g1.flatten.length,x.length,pw)::(p+g1.flatten.length+x.length,y.length,pw2)::e2/\e1.length=i/\u7 key p g1 e1/\0<x.length/\ki key x/\0<y.length/\ki key y/\u7 key (p+g1.flatten.length+x.length+y.length) g2 e2
 |0,p,x::y::g2,(a,b,pw)::(c,d,pw2)::e2,h,_=>by
  obtain⟨h1,h2,h3,h4,k1,k2,k3,k4,h5⟩:=h;dsimp only at h1 h2 k1 k2;subst h1;subst h2;subst k1;subst k2;exact⟨[],x,y,g2,[],pw,pw2,e2,rfl,rfl,rfl,trivial,h3,h4,k3,k4,h5⟩
 |0,p,[x],[e],h,hl=>absurd hl (by simp)
 |0,p,[],[],h,hl=>absurd hl (by simp)
 |0,p,[x],_::_::_,h,hl=>h.2.2.2.2.elim
 |0,p,_::_::_,[e],h,hl=>h.2.2.2.2.elim
 |i+1,p,[],[],h,hl=>absurd hl (by simp)
 |i+1,p,g::gs,e::es,h,hl=>by
  obtain⟨g1,x,y,g2,e1,pw,pw2,e2,q1,q2,q3,q4,q5⟩:=u7.split h.2.2.2.2 (i:=i) (by simpa using hl);refine⟨g::g1,x,y,g2,e::e1,pw,pw2,e2,by rw[q1];rfl,?_,by rw[X_,q3],⟨h.1,h.2.1,h.2.2.1,h.2.2.2.1,q4⟩,?_⟩
  ·rw[q2,Y7,Yc,←Nat.add_assoc];rfl
  ·rw[Y7,Yc,←Nat.add_assoc];exact q5
theorem u7.power {f:Nat×Nat×Nat->Nat×Nat×Nat}(hf:∀e,(f e).1=e.1/\(f e).2.1=e.2.1):∀{i p:Nat} {gs:List (List YI)} {es:List (Nat×Nat×Nat)},u7 key p gs es->u7 key p gs (es.modify i f)
 |_,_,[],[],_=>by rw[List.modify_nil];exact trivial
 |0,p,g::gs,e::es,h=>by
  rw[List.modify_zero_cons];exact⟨(hf e).1.trans h.1,(hf e).2.trans h.2.1,h.2.2⟩
 |i+1,p,g::gs,e::es,h=>by
  rw[List.modify_succ_cons];exact⟨h.1,h.2.1,h.2.2.1,h.2.2.2.1,u7.power hf h.2.2.2.2⟩
structure SI (key:YI->O.α)(knd:abz)(a0:Array YI)(lo:Nat)(rest:List YI)(st:YH):Prop where
 failed:abA st=none
 kind:ZM st=knd
 perm:(Y8 st).toList.Perm a0.toList
 segs:∃gs:List (List YI),(Y8 st).toList=gs.flatten++rest/\gs.flatten.length=lo/\u7 key 0 gs (Y0 st).toList
variable {a0:Array YI}{lo:Nat}{rest:List YI}
theorem SI.size {st:YH}(h:SI key knd a0 lo rest st):lo+rest.length=a0.size:=by
 obtain⟨gs,e,l,_⟩:=h.segs;have:=h.perm.length_eq;rw[e,Yc,l,Yi] at this;exact this
theorem SI.few {st:YH}(h:SI key knd a0 lo rest st):(Y0 st).size<=lo:=by
 obtain⟨gs,e,l,p⟩:=h.segs;have h1:=p.len;have h2:(Y0 st).toList.length=(Y0 st).size:=Yi;lia
theorem SI.merge (C:oq M A E s O key knd D)(hD:∀p∈a0.toList,D p){st:YH}(h:SI key knd a0 lo rest st)(hi:i+1<(Y0 st).size){Q:Bool->YH->Prop}(q:∀bb,SI key knd a0 lo rest bb->(Y0 bb).size+1=(Y0 st).size->Q true bb):wpS M A E s (mergeAt' i) Q st:=by
 obtain⟨gs,e,l,p⟩:=h.segs;obtain⟨g1,x,y,g2,e1,pw,pw2,e2,q1,q2,q3,q4,x0,sx,y0,sy,q5⟩:=p.split (i:=i) (by rw[Yi];exact hi);rw[aaA] at q2 q5;subst q3;have ea:(Y8 st).toList=g1.flatten++(x++(y++(g2.flatten++rest))):=by
  rw[e,q1,aaI,Y7,Y7];simp only[YB]
 have mem:∀p∈(Y8 st).toList,D p:=λp hp=>hD p (h.perm.mem_iff.mp hp);refine Cv C (pw:=pw) (pw2:=pw2) h.failed h.kind ea ?_ ?_ (λp hp=>mem p (by rw[ea];simp[hp])) (λp hp=>mem p (by rw[ea];simp[hp])) sx sy x0 y0 λz g hz sz=>q _ ?_ ?_
 ·rw[←YJ,q2,Zs (Yl _),acY];rfl
 ·rw[←YJ,q2,Zs (Z7 _ 1),aad];rfl
 all_goals
  have ep:(xp (Y0 st) e1.length g1.flatten.length (x.length+y.length) pw).toList=e1++(g1.flatten.length,x.length+y.length,pw)::e2:=by
   unfold xp;rw[Array.toList_eraseIdxIfInBounds,acP,q2,List.set_append_right _ _ (Yl _),acY,YY,List.eraseIdx_append_of_length_le (Z7 _ 1),aad];rfl
 ·refine⟨h.failed,h.kind,?_,g1++z::g2,?_,?_,?_⟩
  ·show (g1.flatten++(z++(g2.flatten++rest))).Perm a0.toList;refine List.Perm.trans ?_ h.perm;rw[ea];refine Zz _ ?_;rw[←YB x];exact ZL _ hz
  ·show g1.flatten++(z++(g2.flatten++rest))=_;rw[aaI,Y7];simp only[YB]
  ·rw[←l,q1,aaI,aaI,Y7,Y7,Y7];have:=hz.length_eq;rw[Yc] at this;simp only[Yc];lia
  ·show u7 key 0 _ (xp (Y0 st) e1.length g1.flatten.length (x.length+y.length) pw).toList;have hl:z.length=x.length+y.length:=by rw[hz.length_eq,Yc]
   rw[ep];refine q4.app ⟨by rw[aaA],hl.symm,by rw[hl];lia,sz,?_⟩;rw[aaA,hl,←Nat.add_assoc];exact q5
 ·show (xp (Y0 st) e1.length g1.flatten.length (x.length+y.length) pw).size+1=_;rw[←Yi,ep,←Yi (xs:=Y0 st),q2];simp only[Yc,X_];lia
theorem O5 (C:oq M A E s O key knd D)(hD:∀p∈a0.toList,D p){st:YH}(h:SI key knd a0 lo rest st){pw:Nat}{c:Option Unit×Unit}{Q:ForInStep (Option Unit×Unit)->YH->Prop}(q1:∀bb,SI key knd a0 lo rest bb->Q (.done (none,())) bb)(q2:∀bb,SI key knd a0 lo rest bb->Q (.yield (none,())) bb):wpS M A E s (Uu pw i c) Q st:=by
 unfold Uu;refine Yt (ac_ ?_);by_cases c1:(Y0 st).size>1
 ·rw[hV c1,getElem?_pos (Y0 st) _ (by lia)];obtain⟨a,b,old⟩:=(Y0 st)[(Y0 st).size-2];dsimp only;split
  ·exact YD (q1 st h)
  ·refine Yt (h.merge C hD (by lia) λbb h' _=>?_);rw[hU (by decide)];exact YD (q2 bb h')
 ·rw[hU c1];exact YD (q1 st h)
theorem xq {st:YH}(h:SI key knd a0 lo rest st){Q:ForInStep (Option Unit×Nat)->YH->Prop}(n1:1<=n)(n2:n<=rest.length)(sr:ki key (rest.take n))(q:∀bb,SI key knd a0 (lo+n) (rest.drop n) bb->Q (.yield (none,lo+n)) bb):wpS M A E s (yu lo n) Q st:=by
 unfold yu;refine Yt (abI (YD (q _ ?_)));obtain⟨gs,e,l,p⟩:=h.segs;have hl:(rest.take n).length=n:=by rw[Yy];lia
 refine⟨h.failed,h.kind,h.perm,gs++[rest.take n],?_,?_,?_⟩
 ·show (Y8 st).toList=_;rw[e,aaI,YB];congr 1;rw[Y7,List.flatten_nil,YV,Y_]
 ·rw[aaI,Yc,l,Y7,List.flatten_nil,YV,hl]
 ·show u7 key 0 _ ((Y0 st).push (lo,n,0)).toList;rw[aa2];exact p.app ⟨by rw[aaA,l],hl.symm,by lia,sr,trivial⟩
theorem IQ (C:oq M A E s O key knd D)(hD:∀p∈a0.toList,D p){st:YH}(h:SI key knd a0 lo rest st){size:Nat}{Q:ForInStep (Option Unit×Nat)->YH->Prop}(n1:1<=n)(n2:n<=rest.length)(sr:ki key (rest.take n))(q:∀bb,SI key knd a0 (lo+n) (rest.drop n) bb->Q (.yield (none,lo+n)) bb):wpS M A E s (Te size lo n) Q st:=by
 unfold Te;refine Yt (ac_ ?_);cases e:(Y0 st).back? with
 |none=>exact xq h n1 n2 sr q
 |some v=>
  obtain⟨p1,m1,w⟩:=v;dsimp only;unfold Ni;refine Yt (aaS (ZO (I:=λx c bb=>c=(none,())/\SI key knd a0 lo rest bb) (Q:=λc bb=>c=(none,())/\SI key knd a0 lo rest bb) ?go (λ_ _ z=>z) ⟨rfl,h⟩) ?fin)
  case go=>
   rintro x c bb _ _ ⟨rfl,h'⟩;exact O5 C hD h' (λnO z=>⟨rfl,z⟩) λnO z=>⟨rfl,z⟩
  case fin=>
   rintro c bb ⟨rfl,h'⟩;dsimp only;refine Yt (abI (xq ?_ n1 n2 sr q));obtain⟨gs,e,l,p⟩:=h'.segs;refine⟨h'.failed,h'.kind,h'.perm,gs,e,l,?_⟩;show u7 key 0 gs ((Y0 bb).modify _ _).toList;rw[Array.toList_modify];refine u7.power (λe=>?_) p;exact⟨rfl,rfl⟩
theorem Lx {l:Array YI}{P R:List YI}(e:l.toList=P++R)(h:Gv key P.length l n):ki key (R.take n):=by
 refine aaU.mpr λi j hi hj BB=>?_;rw[Yy] at hi hj;have at_:∀k,(hk:k<R.length)->kx key l (P.length+k)=key R[k]:=λk hk=>by
  unfold kx;rw[←YJ,e,Zs (Z7 _ _),aad,X7 hk];rfl
 have:=h i j (by lia) (by lia);rw[at_ i (by lia),at_ j (by lia)] at this;rw[ace,ace];exact this
theorem SI.run {dM st:YH}(h:SI key knd a0 lo rest dM)(b:SB lo (Y8 dM) dM st):∃r,SI key knd a0 lo r st/\r.length=rest.length/\∀n,Gv key lo (Y8 st) n->ki key (r.take n):=by
 obtain⟨gs,e,l,p⟩:=h.segs;have hp:=acQ.mp b.perm;have hl:lo<=(Y8 st).toList.length:=by rw[hp.length_eq,e,Yc,l];lia
 have ht:(Y8 st).toList.take lo=gs.flatten:=by
  apply adj;intro k;rw[abX];split
  ·rename_i c;rw[YJ,b.same k c,←YJ,e,ZJ (by lia)]
  ·rename_i c;rw[List.getElem?_eq_none (by lia)]
 have e2:(Y8 st).toList=gs.flatten++(Y8 st).toList.drop lo:=by
  conv=>lhs;rw[←Y_ lo (Y8 st).toList,ht]
 refine⟨(Y8 st).toList.drop lo,⟨?_,?_,hp.trans h.perm,gs,e2,l,?_⟩,?_,λn hn=>?_⟩
 ·rw[b.rest];exact h.failed
 ·rw[b.rest];exact h.kind
 ·rw[b.rest];exact p
 ·have:=hp.length_eq;rw[e,Yc,l] at this;rw[YO];lia
 ·subst l;exact Lx e2 hn
theorem O6 (C:oq M A E s O key knd D)(hD:∀p∈a0.toList,D p){st:YH}{rD:Nat}{c:Option Unit×Nat}(h:SI key knd a0 c.2 rest st){Q:ForInStep (Option Unit×Nat)->YH->Prop}(q1:SI key knd a0 a0.size [] st->c.2=a0.size->Q (.done (none,a0.size)) st)(q2:∀n r bb,1<=n->SI key knd a0 (c.2+n) r bb->Q (.yield (none,c.2+n)) bb):wpS M A E s (Uw a0.size rD i c) Q st:=by
 obtain⟨c1,lo⟩:=c;dsimp only at h q1 q2;have hs:=h.size;unfold Uw;dsimp only;by_cases c2:lo≥a0.size
 ·rw[hV c2];have e1:lo=a0.size:=by lia
  have e2:rest=[]:=Zv (by lia);subst e1;subst e2;exact YD (q1 h rfl)
 ·rw[hU c2];have V6:∀p∈(Y8 st).toList,D p:=λp hp=>hD p (h.perm.mem_iff.mp hp);have hz:(Y8 st).size=a0.size:=by have:=h.perm.length_eq;rwa [Yi,Yi] at this
  have b0:SB lo (Y8 st) st st:=⟨Array.Perm.refl _,λ_ _=>rfl,rfl⟩;refine Yt (As C h.kind V6 (by lia) (by lia) b0 λn bb b1 n1 n2 ha=>?_);dsimp only;by_cases c3:n<rD
  ·rw[hV c3];refine Yt (wpS_lift (aa8 ⟨rfl,?_⟩));refine Yt (Cy C h.kind V6 (by lia) (by lia) b1 ha λnO b2 Qu=>?_);rw[hU (by decide)];obtain⟨r,h',hl,hr⟩:=h.run b2;exact IQ C hD h' (by lia) (by lia) (hr _ Qu) λKc h3=>q2 _ _ Kc (by lia) h3
  ·rw[hU c3];obtain⟨r,h',hl,hr⟩:=h.run b1;exact IQ C hD h' n1 (by lia) (hr _ ha) λKc h3=>q2 _ _ Kc n1 h3
theorem O7 {p:Array (Nat×Nat×Nat)}(h:¬p.size<=1):Ux p+1<p.size:=by
 unfold Ux;generalize (Option.any _ _)=z;cases z with
 |true=>rw[hV rfl];lia
 |false=>rw[hU Yd];lia
theorem Au (C:oq M A E s O key knd D)(hD:∀p∈a0.toList,D p){st:YH}(hk:ZM st=knd)(hf:abA st=none)(ha:Y8 st=a0)(hp:Y0 st=#[]){Q:Unit->YH->Prop}
  (q:∀bb,abA bb=none->(Y8 bb).toList.Perm a0.toList->ki key (Y8 bb).toList->Q () bb):wpS M A E s sortRuns' Q st:=by
 rw[yv];refine Yt (ac_ ?_);rw[ha];have h0:SI key knd a0 0 a0.toList st:=⟨hf,hk,by rw[ha],[],by rw[ha];rfl,rfl,by rw[hp];exact trivial⟩;refine Yt (aaS (ZO (I:=λx c bb=>c.1=none/\x<=c.2/\∃r,SI key knd a0 c.2 r bb) (Q:=λc bb=>c.1=none/\SI key knd a0 a0.size [] bb) ?go ?out ⟨rfl,Yl _,_,h0⟩) ?post)
 case out=>
  rintro⟨c1,lo⟩ bb ⟨e,hx,r,h⟩;dsimp only at e hx h;have hs:=h.size;have e1:lo=a0.size:=by lia
  have e2:r=[]:=Zv (by lia);subst e1;subst e2;exact⟨e,h⟩
 case go=>
  rintro x c bb _ hx ⟨e,hx2,r,h⟩;refine O6 C hD h (λh1 h2=>⟨rfl,h1⟩) λn r nO n1 h2=>⟨rfl,?_,r,h2⟩;show x+1<=c.2+n;lia
 case post=>
  rintro⟨c1,lo⟩ bb ⟨e,h⟩;dsimp only at e ⊢;subst e;dsimp only;refine Yt (aaS (ZO (I:=λx c bb=>c=(none,())/\SI key knd a0 a0.size [] bb/\(Y0 bb).size+x<=a0.size) (Q:=λc bb=>c=(none,())/\SI key knd a0 a0.size [] bb/\(Y0 bb).size<=1) ?_ ?_ ⟨rfl,h,by have:=h.few;lia⟩) ?_)
  ·rintro x c nO _ hx ⟨rfl,h2,h3⟩;unfold VB;refine Yt (ac_ ?_);by_cases c:(Y0 nO).size<=1
   ·rw[hV c];exact YD ⟨rfl,h2,c⟩
   ·rw[hU c];refine Yt (h2.merge C hD (O7 c) λKc h4 h5=>?_);rw[hU (by decide)];exact YD ⟨rfl,h4,by lia⟩
  ·rintro c nO ⟨rfl,h2,h3⟩;exact⟨rfl,h2,by lia⟩
  ·rintro c nO ⟨rfl,h2,h3⟩;refine YD (q nO h2.failed h2.perm ?_);obtain⟨gs,e,l,p⟩:=h2.segs;rw[e,YV]
   match gs,(Y0 nO).toList,p,(show (Y0 nO).toList.length<=1 by rw[Yi];exact h3) with
   | [],_,_,_=>exact List.Pairwise.nil
   | [g],[e1],p,_=>
    rw[Y7,List.flatten_nil,YV];exact p.2.2.2.1
   |g::g2::gs,[e1],p,_=>exact p.2.2.2.2.elim
   |g::gs,e1::e2::es,p,hl=>exact absurd hl (by simp)
end
end Hc.Ts
namespace Hc.Ts
section
variable {A:Zk}{O:adp}{key:YI->O.α}{knd:abz}{D:YI->Prop}
theorem lD {vs:List Yj}(h:l.Perm (vs.zip vs)):(l.map (·.2)).Perm vs/\∀p∈l,p=(p.2,p.2):=by
 have e:(vs.zip vs).map (·.2)=vs:=by
  induction vs with
  |nil=>rfl
  |cons v r ih=>rw[aat,Yp,List.map_snd_zip (by simp)]
 refine⟨by have:=h.map (·.2);rwa [e] at this,λp hp=>?_⟩;have hp:=h.mem_iff.mp hp;clear h e
 induction vs with
 |nil=>cases hp
 |cons v r ih=>
  rw[aat,Yk] at hp;rcases hp with hp|hp
  ·subst hp;rfl
  ·exact ih hp
theorem IS {vs:List Yj}{P:Fin->Yv->Prop}(ho:s.heap.get? a=some (acX "list" vs.toArray n))(hz:vs.length<=1000000)(hk:2<=vs.length->∀(h6:aaX) (Q:abz->Yv->Prop),(∀b o,b≠a->s.heap.get? b=some o->h6.get? b=some o)->Q knd {s with heap:=h6}->YE (YQ prog w) A (keyKind' vs.toArray) Q E {s with heap:=h6})(hC:2<=vs.length->∀h6:aaX,(∀b o,b≠a->s.heap.get? b=some o->h6.get? b=some o)->oq (YQ prog w) A E {s with heap:=h6} O key knd D)(hD:∀v∈vs,D (v,v))(h:∀out:List Yj,out.Perm vs->out.Pairwise (λx y=>O.kle (key (x,x)) (key (y,y)))->P (.done (.ret .none)) {s with heap:=sortedHeap s.heap a vs out.toArray}) :
  YE (YQ prog w) A (Builtin.«list.sort» ⟨[.ref a],[]⟩) P E s:=by
 have Qc:vs.length<=Yf:=by rw[aau];lia
 have la:a<s.heap.objs.size:=Yu ho;rw[list_sort_plain];refine X6 (listItems_at ho rfl (X6 (listUpdate_at ho rfl ?_ (hsz:=by rw[Yh];exact Qc))));obtain⟨e1,o1⟩:∃e1,(s.heap.update a (abn λ_=>#[])).get? a=some (acX "list" #[] e1):=⟨_,get?_update_seq ho (λ_=>#[])⟩;refine X6 (seqEpoch_at o1 rfl (X6 (wpAny_newTuple (X6 (wpAny_newList (Z6 ?_))) (by simpa using Qc))));have kp:∀b o,b≠a->s.heap.get? b=some o->(((s.heap.update a (abn λ_=>#[])).push (acX "tuple" vs.toArray 0)).push (acX "list" #[] 0)).get? b=some o:=λb o hb e=>
  X9 _ (X9 _ ((Heap.get?_update_ne _ _ _ _ hb).trans e))
 have o6:(((s.heap.update a (abn λ_=>#[])).push (acX "tuple" vs.toArray 0)).push (acX "list" #[] 0)).get? a=some (acX "list" #[] e1):=X9 _ (X9 _ o1);change YE (YQ prog w) A _ P E {s with heap:=((s.heap.update a (abn λ_=>#[])).push (acX "tuple" vs.toArray 0)).push (acX "list" #[] 0)};dsimp only;have fin:∀bb:YH,abA bb=none->(Y8 bb).toList.Perm (pairsOf vs).toList->ki key (Y8 bb).toList->YE (YQ prog w) A (do
   let touched:=(←seqEpoch a) != e1
   Builtin.List.listUpdate (.ref a) λ_=>(Y8 bb).map (·.2)
   if let some e:=abA bb then rule "list.sort.comparison-raised";throw e
   if touched then rule "list.sort.modified";raiseError "ValueError" "list modified during sort"
   ret .none) P E {s with heap:=((s.heap.update a (abn λ_=>#[])).push (acX "tuple" vs.toArray 0)).push (acX "list" #[] 0)}:=by
  intro bb f1 f2 f3;rw[pairsOf_toList] at f2;obtain⟨m1,m2⟩:=lD f2;refine X6 (seqEpoch_at o6 rfl (X6 (listUpdate_at o6 rfl ?_ (hsz2:=by
   rw[Array.size_map,←Yi,f2.length_eq,List.length_zip,Nat.min_self];lia))))
  rw[f1];simp only[bne_self_eq_false,Yn,if_false];refine Yg ?_;have e:(Y8 bb).map (·.2)=((Y8 bb).toList.map (·.2)).toArray:=by apply Array.ext';simp
  rw[e];refine h _ m1 (Z9.mpr (aa1 (λ{x y} hx hy r=>?_) f3));rw[←m2 x hx,←m2 y hy];exact r
 by_cases h2:vs.length<2
 ·rw[hV (by rw[Yh];exact h2),hV (by rw[Yh];exact h2)];refine X6 (Yg ?_);rw[StateT.run_pure];refine X6 (Yg ?_);refine fin (SortSt.mk' general' (vs.toArray.zip vs.toArray) #[] 7 none) rfl (Z3 _) ?_;change ki key (pairsOf vs).toList;rw[pairsOf_toList]
  match vs,h2 with
  | [],_=>exact List.Pairwise.nil
  | [v],_=>exact List.pairwise_singleton _ _
  |_::_::_,h2=>exact absurd h2 (by simp)
 ·rw[hU (by rw[Yh];exact h2),hU (by rw[Yh];exact h2)];refine X6 (hk (by lia) _ _ kp ?_);refine X6 (ZR (Au (hC (by lia) _ kp) (a0:=pairsOf vs) (λp hp=>?_) (st:=SortSt.mk' knd (vs.toArray.zip vs.toArray) #[] 7 none) rfl rfl rfl rfl
   (Q:=λ_ bb=>abA bb=none/\(Y8 bb).toList.Perm (pairsOf vs).toList/\ki key (Y8 bb).toList) λbb a1 a2 a3=>⟨a1,a2,a3⟩) ?_ λ_ _ e=>e)
  ·rw[pairsOf_toList] at hp;obtain⟨m1,m2⟩:=lD (Z3 (vs.zip vs));rw[m2 p hp];exact hD _ (m1.mem_iff.mp (aaJ hp))
  ·rintro⟨⟨⟩,bb⟩ s' ⟨rfl,f1,f2,f3⟩;exact fin bb f1 f2 f3
end
end Hc.Ts
namespace Hc.Ts
open PySem.W
noncomputable def iH:List Int->List Int->Bool
 | [],[]=>false
 | [],_::_=>true
 |_::_,[]=>false
 |x::xs,y::ys=>if x=y then iH xs ys else decide (x<y)
theorem mT:∀a,iH a a=false
 | []=>rfl
 |x::xs=>by unfold iH;rw[hV rfl];exact mT xs
theorem u9:∀a b c,iH a b=true->iH b c=true->iH a c=true
 | [],[],_,h,_=>by cases h
 | [],_::_,[],_,h=>by cases h
 | [],_::_,_::_,_,_=>rfl
 |_::_,[],_,h,_=>by cases h
 |_::_,_::_,[],_,h=>by cases h
 |x::xs,y::ys,z::zs,h1,h2=>by
  unfold iH at h1 h2 ⊢;by_cases e1:x=y
  ·subst e1;rw[hV rfl] at h1;by_cases e2:x=z
   ·subst e2;rw[hV rfl] at h2 ⊢;exact u9 xs ys zs h1 h2
   ·rw[hU e2] at h2 ⊢;exact h2
  ·rw[hU e1] at h1;have h1:=of_decide_eq_true h1;by_cases e2:y=z
   ·subst e2;rw[hU e1];exact hG h1
   ·rw[hU e2] at h2;have h2:=of_decide_eq_true h2;rw[hU (by lia)];exact hG (by lia)
theorem Av:∀a b c,iH a c=true->iH a b=true\/iH b c=true
 | [],[],_::_,_=>.inr rfl
 | [],_::_,_::_,_=>.inl rfl
 | [],_,[],h=>by cases h
 |_::_,_,[],h=>by cases h
 |_::_,[],_::_,_=>.inr rfl
 |x::xs,y::ys,z::zs,h=>by
  unfold iH at h ⊢;by_cases e:x=z
  ·subst e;rw[hV rfl] at h;by_cases e2:x=y
   ·subst e2;rw[hV rfl,hV rfl];exact Av xs ys zs h
   ·rw[hU e2,hU (λq=>e2 q.symm),decide_eq_true_eq,decide_eq_true_eq];lia
  ·rw[hU e] at h;have h:=of_decide_eq_true h;by_cases e2:x=y
   ·subst e2;exact .inr (by rw[hU e];exact hG h)
   ·by_cases e3:y=z
    ·subst e3;exact .inl (by rw[hU e];exact hG h)
    ·rw[hU e2,hU e3,decide_eq_true_eq,decide_eq_true_eq];lia
theorem oO:∀a b,iH a b=false->iH b a=false->a=b
 | [],[],_,_=>rfl
 | [],_::_,h,_=>by cases h
 |_::_,[],_,h=>by cases h
 |x::xs,y::ys,h1,h2=>by
  unfold iH at h1 h2;by_cases e:x=y
  ·subst e;rw[hV rfl] at h1 h2;rw[oO xs ys h1 h2]
  ·rw[hU e] at h1;rw[hU (λq=>e q.symm)] at h2;have h1:=of_decide_eq_false h1;have h2:=of_decide_eq_false h2;lia
noncomputable def Cz:adp:=⟨List Int,iH,mT,u9,Av,oO⟩
noncomputable def yw (h:aaX)(v:Yj):List Int:=match v with
 | .ref a=>match h.get? a with
  |some o=>match o.data with
   | .seq its _=>its.toList.map numOf
   |_=>[]
  |none=>[]
 |_=>[]
def Aw (h:aaX)(v:Yj):Prop:=∃a its ns,v=.ref a/\h.IsTuple a its/\ZS its.toList ns/\ns≠[]
theorem Ax:∀{vs:List Yj} {ns:List Int},ZS vs ns->vs.map numOf=ns
 |_,_,.nil=>rfl
 |_,_,.cons n t r=>by rw[Yp,Ax r];rfl
theorem p7 {its:Array Yj}(t:h.IsTuple a its)(i:ZS its.toList ns):yw h (.ref a)=ns:=by
 obtain⟨o,e,_,n,d⟩:=t;unfold yw;dsimp only;rw[e];dsimp only;rw[d];exact Ax i
section
variable {A:Zk}{b fin:Bool}{Q:Bool->Yv->Prop}
theorem Ay:∀{xs ys:List Yj} {ns ms:List Int} {i:Nat},ZS xs ns->ZS ys ms->fin=decide (ns.length<ms.length)->Q (iH ns ms) s->KatLex prog w A b fin Q (xs.zip ys) i s
 |_,_,_,_,i,.nil,.nil,hf,h=>by subst hf;exact kat_nil h
 |_,_,_,_,i,.nil,.cons m t r,hf,h=>by subst hf;exact kat_nil (by rw[show decide (([]:List Int).length<(m::_).length)=true from hG (by simp)];exact h)
 |_,_,_,_,i,.cons n t r,.nil,hf,h=>by subst hf;exact kat_nil (by rw[show decide ((n::_).length<([]:List Int).length)=false from hJ (by simp)];exact h)
 |_,_,_,_,i,.cons n t r,.cons m u q,hf,h=>by
  refine kat_cons (wpAny_eqBool_int ?_);unfold iH at h;by_cases e:n=m
  ·subst e;rw[hV rfl] at h;rw[beq_self_eq_true];refine kat_yes (Ay r q ?_ h);rw[hf];simp
  ·rw[hU e] at h;rw[show (n==m)=false from beq_eq_false_iff_ne.mpr e];refine kat_no ?_;cases hb:(b&&i==0) with
   |true=>exact oneLt_int h
   |false=>exact kat_one _ _ (lt_int h)
theorem Ly {hp:aaX}(keep:∀v,Aw hp v->Aw s.heap v/\yw s.heap v=yw hp v):oq (YQ prog w) A E s Cz (λx=>yw hp x.1) (tuples' true) (λx=>Aw hp x.1) where
 lt:=λx y st Q dx dy kd q=>by
  obtain⟨k1,k2⟩:=keep _ dx;obtain⟨k3,k4⟩:=keep _ dy;obtain⟨a,xs,ns,e1,t1,i1,_⟩:=k1;obtain⟨c,ys,ms,e2,t2,i2,_⟩:=k3;rw[←k2,←k4,e1,e2,p7 t1 i1,p7 t2 i2] at q;rw[lt'_eq];refine Yt (ac_ ?_);rw[kd,e1,e2];obtain⟨o1,g1,_,n1,d1⟩:=t1;obtain⟨o2,g2,_,n2,d2⟩:=t2;refine Yt (wpS_lift (abW (kat_lt g1 d1 g2 d2 (Ay i1 i2 ?_ ⟨rfl,?_⟩))))
  ·rw[←i1.length,←i2.length,Yi,Yi]
  ·exact YD q
end
end Hc.Ts
namespace Hc.Dw
open PySem.W PySem.Calls
section
variable {A:Zk}{d r I:YG}{ds:Array DictEntry}
theorem Az {T:String}{P:Nat->Yj->Prop}{OK:aaX->Prop}(K:KdlSrc prog w T r d n P OK)(hh:A.handled=none)(hok:OK s.heap)(hn:n<=Yf){Q:List Yj->Yv->Prop}(q:∀h' tk bX,(∀b o,s.heap.get? b=some o->h'.get? b=some o)->ItemsOf P bX n->Q bX.toList {s with heap:=h',toks:=tk}):YE (YQ prog w) A (collect (.ref r)) Q E s:=by
 have lt:=K.there _ hok;unfold collect;refine X6 (ac4 (aaG PySem.F.entry_proto_collect ?_));rw[aae PySem.F.plain_proto_collect _];change YE _ A.in1 (newList [] >>= λl=>again (.builtin "list.__iadd__" ⟨[l,.ref r],[]⟩)) _ _ s;refine X6 (Zl (Yg ⟨plainId_quiet PySem.F.plain_list_iadd _,aaG PySem.F.entry_list_iadd ?_⟩));rw[aae PySem.F.plain_list_iadd _];have hS:(s.heap.push {cls:=.type "list",data:=.seq ([]:List Yj).toArray}).get? s.heap.objs.size=some {cls:=.type "list",data:=.seq #[] 0}:=Ym _ rfl;change YE _ A.in1 (acE (.ref s.heap.objs.size) (.ref r) (.ref s.heap.objs.size)) _ _ _;refine kdl_extend (A:=A) (R:=λx s'=>match x with
  | .ok (.ret v)=>YE (YQ prog w) A (match v with
   | .ref a=>do match (←load a).data with
    | .seq xs _=>pure xs.toList
    |_=>abF "internal:collect"
   |_=>abF "internal:collect") Q E s'
  | .ok _=>False
  | .error e=>E e s') (s:={s with heap:=s.heap.push {cls:=.type "list",data:=.seq ([]:List Yj).toArray}}) K hh (K.keep _ _ hok λb _ o e=>X9 _ e) _ (abf lt.1) (abf lt.2) _ 0 hS (λh' tk bX c' k' J9 tx=>?_) hn
 change YE _ A (load s.heap.objs.size >>= _) _ _ _;refine X6 (wpAny_load J9 ?_);exact Yg (q h' tk bX (λb o e=>k' b o (YK (Yu e)) (X9 _ e)) tx)
end
end Hc.Dw
namespace Hc.Sy
open PySem.SetTable Hc.Sx
def Ql:Slot "set_iterator" "__next__" "set_iterator.__next__":=by
 refine .of (owner:="set_iterator") (n:="__next__") ?_ (by decide+kernel) (by decide+kernel) (by decide+kernel) ?_ ?_
 ·rw[typeLookup_type,builtinLookup_eq_fast];kernel_rfl
 ·first|exact .inl (by decide+kernel)|exact .inr (by decide+kernel)
 ·rw[isSubtype_type];kernel_rfl
def VC:entryFor table "set_iterator.__next__"=some Builtin.«set_iterator.__next__»:=entryFor_of_tree (by kernel_rfl)
def VD (a:Yj):argsOk "set_iterator.__next__" ⟨[a],[]⟩:=by unfold argsOk;kernel_rfl
def VE:Slot "set_iterator" "__iter__" "set_iterator.__iter__":=by
 refine .of (owner:="set_iterator") (n:="__iter__") ?_ (by decide+kernel) (by decide+kernel) (by decide+kernel) ?_ ?_
 ·rw[typeLookup_type,builtinLookup_eq_fast];kernel_rfl
 ·first|exact .inl (by decide+kernel)|exact .inr (by decide+kernel)
 ·rw[isSubtype_type];kernel_rfl
def Wr:entryFor table "set_iterator.__iter__"=some Builtin.«dict_keyiterator.__iter__»:=entryFor_alias (id':="dict_keyiterator.__iter__") (by kernel_rfl) rfl (by decide+kernel) (by kernel_rfl)
def Ws (a:Yj):argsOk "set_iterator.__iter__" ⟨[a],[]⟩:=by unfold argsOk;kernel_rfl
def Wt:entryFor table "set.__iter__"=some Builtin.«frozenset.__iter__»:=entryFor_alias (id':="frozenset.__iter__") (by kernel_rfl) rfl (by decide+kernel) (by kernel_rfl)
def Wu (a:Yj):argsOk "set.__iter__" ⟨[a],[]⟩:=by unfold argsOk;kernel_rfl
def nX (w:abc)(h:aaX)(a:YG)(es:Array (Int×Yj))(ep:Nat)(t:abx):Prop:=
 ∃o,h.get? a=some o/\o.ExactSet/\o.data=.set es ep t/\t.fits es.size=true/\t.plain=true/\(BH w=true\/t.led=true)/\Rn t.place/\t.place.size=es.size
theorem nX.at (x:nX w h a es ep t)(e:∀o,h.get? a=some o->h'.get? a=some o):nX w h' a es ep t:=by
 obtain⟨o,q,r⟩:=x;exact⟨o,e o q,r⟩
theorem nX.ty (x:nX w s.heap a es ep t):s.TypeIs (.ref a) "set":=by
 obtain⟨o,e,c,_⟩:=x;exact⟨o,e,c.1⟩
theorem nX.lt (x:nX w h a es ep t):a<h.objs.size:=by
 obtain⟨o,e,_⟩:=x;exact Yu e
noncomputable def v3 (w:abc)(a:YG)(ep:Nat)(es:Array (Int×Yj)):Array (Int×Yj):=if BH w=true then adq (w.params.setOrder a ep) es else es
noncomputable def fG (w:abc)(t:abx):Nat->Nat
 |0=>0
 |i+1=>if BH w=true then 0 else t.place.getD i 0+1
noncomputable def O8 (w:abc)(a:YG)(n ep:Nat)(t:abx)(i:Nat):Array Yj:=#[.int (fG w t i:Nat) 0,.int i 0,.ref a,.int n 0,.int ep 0]
def CA (w:abc)(h:aaX)(it a:YG)(n ep:Nat)(t:abx)(i:Nat):Prop:=∃o,h.get? it=some o/\o.cls=.type "set_iterator"/\o.data=.fields (O8 w a n ep t i)
theorem CA.at (x:CA w h it a n ep t i)(e:∀o,h.get? it=some o->h'.get? it=some o):CA w h' it a n ep t i:=by
 obtain⟨o,q,r⟩:=x;exact⟨o,e o q,r⟩
def fP {A:Zk}{α:Type}{b:Bool}{x y:Sem α}{Q:α->Yv->Prop}(h:b=false)(q:YE M A y Q E s):YE M A (if b=true then x else y) Q E s:=by
 rw[h,hU Yd];exact q
section
variable {A:Zk}
theorem RK (x:nX w s.heap a es ep t)(q:Q (.ref s.heap.objs.size) {s with heap:=s.heap.push {cls:=.type "set_iterator",data:=.fields (O8 w a es.size ep t 0)}}):YE (YQ prog w) A (pyIter (.ref a)) Q E s:=by
 have ty:=x.ty;obtain⟨o,e1,e2,e3,e4,e5,e6,e7,e8⟩:=x;refine wpAny_pyIter_slot ty PySem.F.slot_set_iter (ZG PySem.F.slot_set_iter ty Wt ?_ (Wu _));unfold Builtin.«frozenset.__iter__» Builtin.Frozenset.slot0 slotArgs;simp only[abC,Ze,Yn,↓reduceIte,bind_assoc,YN,bne_self_eq_false];unfold Builtin.Frozenset.addrOf Builtin.Frozenset.sizeOf;refine X6 (Yg ?_)
 try dsimp only
 refine X6 (Yg ?_);refine X6 (X6 (acI e1 e3 e4 (Yg ?_)));unfold setDrawn setsByText;refine X6 (X6 (ZK e1 e3 e4 ?_));dsimp only;refine X6 (X6 (aaw (Yg (Yg ?_))));have nd:(!(w.params.followText "set-order")&&(!t.plain&&decide (es.size>1)))=false:=by rw[e5];simp
 refine fP nd ?_;refine X6 (Yg ?_);unfold setEpoch;refine X6 (X6 (ZK e1 e3 e4 (Yg ?_)));refine X6 (Zl (Yg ⟨_,rfl,"set_iterator",_,⟨_,Ym _ rfl,rfl⟩,Ql.lookup,?_⟩));simpa [rawInt,O8,fG] using q
theorem yx {Q:Option (Yj×Nat)->Yv->Prop}(x:nX w s.heap a es ep t)(hi:i<es.size){e:Int×Yj}(he:(v3 w a ep es)[i]? = some e)(q:Q (some (e.2,fG w t (i+1))) s) :
  YE (YQ prog w) A (setNext a (fG w t i) i ep) Q E s:=by
 obtain⟨o,e1,e2,e3,e4,e5,e6,e7,e8⟩:=x;unfold setNext;refine X6 (ZK e1 e3 e4 ?_);dsimp only;unfold setsByText;refine X6 (X6 (aaw (Yg ?_)));unfold v3 at he;by_cases b:BH w=true
 ·rw[hV b] at he;rw[hV (show (YQ prog w).w.params.followText "set-order"=true from b),hU (by simp)];unfold setWalk setsByText;refine X6 (X6 (ZK e1 e3 e4 ?_));dsimp only;refine X6 (X6 (aaw (Yg ?_)));rw[hV (show (YQ prog w).w.params.followText "set-order"=true from b)];refine X6 (aaw (Yg (Yg ?_)));have W9:(adq ((YQ prog w).w.params.setOrder a ep) es)[i]? = some e:=he;rw[W9];have z:fG w t i=0:=by
   cases i with
   |zero=>rfl
   |succ i=>show (if BH w=true then 0 else _)=0;rw[hV b]
  have z':fG w t (i+1)=0:=by show (if BH w=true then 0 else _)=0;rw[hV b]
  rw[z'] at q;rw[z];exact q
 ·rw[hU b] at he;rw[hU (show ¬(YQ prog w).w.params.followText "set-order"=true from b)];have led:t.led=true:=e6.resolve_left b;have nd:(!t.plain&&decide (es.size>1))=false:=by rw[e5];rfl
  refine fP nd ?_;refine X6 (acF (a:=()) (by show (if (!t.led && !es.isEmpty)=true then _ else _)=_;rw[led];rfl) (Yg ?_));have hb:below t.place (fG w t i)=i:=by
   obtain⟨b1,b2,b3⟩:=pR (j:=fG w t i) e7;rcases acb (below t.place (fG w t i)) i with z|z|z
   ·exfalso;cases i with
    |zero=>lia
    |succ i=>
     have hs:fG w t (i+1)=t.place.getD i 0+1:=by show (if BH w=true then 0 else _)=_;rw[hU b]
     have g:t.place.getD i 0=t.place[i]'(by lia):=by simp[aca,show i<t.place.size from by lia]
     have:=b2 i (by lia) (by lia);rw[hs,g] at this;lia
   ·exact z
   ·exfalso;have:=b1 i (by lia) z;cases i with
    |zero=>exact absurd this (Nat.not_lt_zero _)
    |succ i=>
     have hs:fG w t (i+1)=t.place.getD i 0+1:=by show (if BH w=true then 0 else _)=_;rw[hU b]
     have g:t.place.getD i 0=t.place[i]'(by lia):=by simp[aca,show i<t.place.size from by lia]
     have r:=(show t.place[i]'(by lia)<t.place[i+1]'(by lia) from e7 i (i+1) (by lia) (by lia) (by lia));rw[hs,g] at this;lia
  rw[hb,he,getElem?_pos t.place i (by lia)];have hs:fG w t (i+1)=t.place.getD i 0+1:=by show (if BH w=true then 0 else _)=_;rw[hU b]
  have g:t.place.getD i 0=t.place[i]'(by lia):=by simp[aca,show i<t.place.size from by lia]
  rw[hs,g] at q;exact q
theorem RL {Q:Option Yj->Yv->Prop}(k:CA w s.heap it a es.size ep t i)(x:nX w s.heap a es ep t)(ne:it≠a)(hi:i<es.size){e:Int×Yj}(he:(v3 w a ep es)[i]? = some e)
  (q:∀h',CA w h' it a es.size ep t (i+1)->abd it s.heap h'->Q (some e.2) {s with heap:=h'}):YE (YQ prog w) A (pyNext (.ref it)) Q E s:=by
 obtain⟨oi,i1,i2,i3⟩:=k;have ty:s.TypeIs (.ref it) "set_iterator":=⟨oi,i1,i2⟩;have x0:=x;obtain⟨o,e1,e2,e3,e4,e5,e6,e7,e8⟩:=x;unfold pyNext;refine X6 (abW (ZD (name:=Yq "__next__") ty Ql (ZG Ql ty VC ?_ (VD _))));unfold Builtin.«set_iterator.__next__»;refine X6 (Yg ?_);refine X6 (wpAny_fieldsOf i1 i3 ?_);change YE _ _ (setEntries a >>= _) _ _ s;refine X6 (acI e1 e3 e4 ?_);rw[hU (by simp)];change YE _ _ (setNext a (fG w t i:Int).toNat (i:Int).toNat (ep:Int).toNat >>= _) _ _ s;rw[Zu,Zu,Zu];refine X6 (yx x0 hi he ?_);dsimp only;change YE _ _ (setField (.ref it) 0 _ >>= _) _ _ s;refine X6 (aci i1 i3 (by simp[O8]) ?_);have V7:=aaM (Obj.mapFields (·.setIfInBounds 0 (rawInt (fG w t (i+1):Nat)))) i1 (acn (aaQ i3 _));have U_:=aaQ i3 (·.setIfInBounds 0 (rawInt (fG w t (i+1):Nat)));change YE _ _ (setField (.ref it) 1 _ >>= _) _ _ _;refine X6 (aci V7 U_ (by simp[O8]) ?_);refine Yg ⟨_,rfl,Yg (q _ ⟨_,aaM _ V7 (acn (aaQ U_ _)),(adl ..).trans ((adl ..).trans i2),?_⟩ ((aal ..).trans (aal ..)))⟩;rw[aaQ U_];simp[O8,rawInt]
end
end Hc.Sy
namespace Hc.Sy
open PySem.SetTable Hc.Sx PySem.W
section
variable {A:Zk}
theorem Ew {α:Type}(next:Nat->Nat):∀(n k:Nat) (left:List α) (out:Array α),left.length=n->(pickOrder.go next n k left out).toList.Perm (out.toList++left)
 |0,k,left,out,h=>by
  have:left=[]:=Zv h;subst this;unfold pickOrder.go;rw[YV]
 |n+1,k,left,out,h=>by
  have hl:next k % left.length<left.length:=abo _ (by lia)
  unfold pickOrder.go;rw[X7 hl];dsimp only;refine (Ew next n (k+1) _ _ (by rw[List.length_eraseIdx_of_lt hl];lia)).trans ?_;rw[aa2,YB];refine Zz _ ?_;rw[List.eraseIdx_eq_take_drop_succ,List.singleton_append];refine List.perm_middle.symm.trans ?_;rw[←Z1 hl,Y_]
def xr {α:Type}(next:Nat->Nat)(xs:Array α):(adq next xs).toList.Perm xs.toList:=by
 have:=Ew next xs.size 0 xs.toList #[] (by simp)
 simpa [adq] using this
theorem AA:(v3 w a ep es).toList.Perm es.toList:=by
 unfold v3;split
 ·exact xr _ _
 ·exact Z3 _
def AB:(v3 w a ep es).size=es.size:=by
 have:=(AA (w:=w) (a:=a) (ep:=ep) (es:=es)).length_eq;simpa using this
theorem yy {Q:Option (Yj×Nat)->Yv->Prop}(x:nX w s.heap a es ep t)(q:Q none s):YE (YQ prog w) A (setNext a (fG w t es.size) es.size ep) Q E s:=by
 obtain⟨o,e1,e2,e3,e4,e5,e6,e7,e8⟩:=x;unfold setNext;refine X6 (ZK e1 e3 e4 ?_);dsimp only;unfold setsByText;refine X6 (X6 (aaw (Yg ?_)));by_cases b:BH w=true
 ·rw[hV (show (YQ prog w).w.params.followText "set-order"=true from b),hU (by simp)];unfold setWalk setsByText;refine X6 (X6 (ZK e1 e3 e4 ?_));dsimp only;refine X6 (X6 (aaw (Yg ?_)));rw[hV (show (YQ prog w).w.params.followText "set-order"=true from b)];refine X6 (aaw (Yg (Yg ?_)));have hz:(adq ((YQ prog w).w.params.setOrder a ep) es)[es.size]? = none:=by
   have:=(xr ((YQ prog w).w.params.setOrder a ep) es).length_eq;rw[Array.getElem?_eq_none (by simpa using Nat.le_of_eq this)]
  rw[hz];exact q
 ·rw[hU (show ¬(YQ prog w).w.params.followText "set-order"=true from b)];have led:t.led=true:=e6.resolve_left b;have nd:(!t.plain&&decide (es.size>1))=false:=by rw[e5];rfl
  refine fP nd ?_;refine X6 (acF (a:=()) (by show (if (!t.led && !es.isEmpty)=true then _ else _)=_;rw[led];rfl) (Yg ?_));have hb:es.size<=below t.place (fG w t es.size):=by
   obtain⟨b1,b2,b3⟩:=pR (j:=fG w t es.size) e7;rcases aaO (below t.place (fG w t es.size)) es.size with z|z
   ·exfalso;obtain⟨m,hm⟩:∃m,es.size=m+1:=⟨es.size-1,by lia⟩;have hs:fG w t es.size=t.place.getD m 0+1:=by rw[hm];show (if BH w=true then 0 else _)=_;rw[hU b]
    have g:t.place.getD m 0=t.place[m]'(by lia):=by simp[aca,show m<t.place.size from by lia]
    have:=b2 m (by lia) (by lia);rw[hs,g] at this;lia
   ·exact z
  rw[Array.getElem?_eq_none hb];exact q
theorem RM {Q:Option Yj->Yv->Prop}(hh:A.handled=none)(k:CA w s.heap it a es.size ep t es.size)(x:nX w s.heap a es ep t)
  (q:∀h',Heap.ExtBut it s.heap h'->Q none {s with heap:=h'}):YE (YQ prog w) A (pyNext (.ref it)) Q E s:=by
 obtain⟨oi,i1,i2,i3⟩:=k;have ty:s.TypeIs (.ref it) "set_iterator":=⟨oi,i1,i2⟩;have x0:=x;obtain⟨o,e1,e2,e3,e4,e5,e6,e7,e8⟩:=x;unfold pyNext;refine X6 (abW (ZD (name:=Yq "__next__") ty Ql (ZG Ql ty VC ?_ (VD _))));unfold Builtin.«set_iterator.__next__»;refine X6 (Yg ?_);refine X6 (wpAny_fieldsOf i1 i3 ?_);change YE _ _ (setEntries a >>= _) _ _ s;refine X6 (acI e1 e3 e4 ?_);rw[hU (by simp)];change YE _ _ (setNext a (fG w t es.size:Int).toNat (es.size:Int).toNat (ep:Int).toNat >>= _) _ _ s;rw[Zu,Zu,Zu];refine X6 (yy x0 ?_);dsimp only;change YE _ _ (setField (.ref it) 2 .none >>= _) _ _ s;refine X6 (aci i1 i3 (by simp[O8]) ?_);change YE _ _ (newExc (.type "StopIteration") [] >>= _) _ _ _;refine X6 ?_;simp only[newExc,newTuple];refine X6 (Zl (hd:=by size_fits) ?_);refine X6 (m:=ac7 _ _) (acF (a:=Value.none) (by first|rfl|(simp only[ac7];rfl)) (Zl (hd:=by size_fits) ?_));simp only[raiseNew];refine X6 (wpAny_handled ?_);rw[show A.in1.handled=none from hh];refine X6 (Yg (wpAny_throw ?_));refine X6 (wpAny_isInstance (b:=true) (T:="StopIteration") ⟨_,Ym _ rfl,rfl⟩ isSubtype_stop ?_);exact Yg (q _ (((aal ..).extBut.push _).push _))
theorem O9 (hh:A.handled=none)(NL:a≠it):Walks prog w A it [it,a] [it] es.size (λi v=>∃e,(v3 w a ep es)[i]? = some e/\v=e.2) (λi h=>CA w h it a es.size ep t i/\nX w h a es ep t) where
 sub:=λb hb=>by simp at hb;simp[hb]
 frame:=λ_ _ _ st hk=>⟨st.1.at λo e=>hk it (by simp) o e,st.2.at λo e=>hk a (by simp) o e⟩
 item:=λi s Q E hi st hQ=>by
  have Gj:i<(v3 w a ep es).size:=by rw[AB];exact hi
  exact RL st.1 st.2 (Ne.symm NL) hi (getElem?_pos _ i Gj) λh' t' sb=>hQ _ h' s.toks ⟨_,getElem?_pos _ i Gj,rfl⟩ ⟨t',st.2.at λo e=>sb.extBut _ _ NL e⟩ λb o hb e=>sb.extBut b o (λh=>hb (by simp[h])) e
 done:=λs Q E st hQ=>RM hh st.1 st.2 λh' eb=>hQ h' s.toks λb o hb e=>eb b o (λh=>hb (by simp[h])) e
 self:=λi s Q E st hQ=>by
  obtain⟨oi,i1,i2,i3⟩:=st.1;have ty:s.TypeIs (.ref it) "set_iterator":=⟨oi,i1,i2⟩;refine wpAny_pyIter_slot ty VE (ZG VE ty Wr ?_ (Ws _));change YE _ _ (ret (.ref it)) _ _ s;exact Yg ⟨_,rfl,"set_iterator",_,ty,Ql.lookup,hQ⟩
theorem RN {Q:Bool->Yv->Prop}(hT:s.TypeIs (.ref a) "set")(h:Q false s):YE (YQ prog w) A (acJ (.ref a)) Q E s:=by
 unfold acJ;refine X6 (wpAny_specialOf hT PySem.F.slot_set_len.lookup ?_);generalize hid:("set.__len__":String)=id0
 wp_delta
 rw[show splitId id0=some ("set","__len__") from by subst hid;decide+kernel];subst hid;refine X6 (wpAny_isInstance (T:="set") (b:=true) hT (by rw[isSubtype_type];kernel_rfl) ?_);refine wpAny_ite_split (λBA=>absurd BA (by decide)) (λ_=>?_);refine wpAny_ite_split (λ_=>?_) (λBA=>absurd (by decide+kernel) BA);refine X6 (acm hT ?_);exact Yg h
def Uy:KdlSrc prog w "set" a a es.size (λi v=>∃e,(v3 w a ep es)[i]? = some e/\v=e.2) (λh=>nX w h a es ep t) where
 type:=λ_ hm=>hm.ty
 there:=λ_ hm=>⟨hm.lt,hm.lt⟩
 keep:=λ_ _ hm hk=>hm.at λo e=>hk a (.inl rfl) o e
 notList:=by decide
 notTuple:=by decide
 hint:=λ_ _ _ _ hm hq=>RN hm.ty hq
 iter:=λ_ s hh hm=>⟨_,_,(λ_ _ hq=>RK hm hq),O9 hh (YK hm.lt),⟨⟨_,Ym _ rfl,rfl,rfl⟩,hm.at λo e=>X9 _ e⟩⟩
end
end Hc.Sy
namespace Hc.Sy
open PySem.SetTable Hc.Sx PySem.W
noncomputable abbrev tI (prog:aa9)(w:abc):ach prog w (List Int):=tupleKind (ac2 prog w)
section
variable {A:Zk}
theorem u_ {α β:Type}(f:α->β->Sem (ForInStep β))(b:β)(xs:Array α)(h:∀x∈xs.toList,f x b=pure (.yield b)):forIn xs b f=pure b:=by
 rw[←Array.forIn_toList];generalize xs.toList=l at h
 induction l with
 |nil=>rfl
 |cons x l ih=>
  rw[abS,h x Yb,pure_bind];exact ih λy hy=>h y (Ya _ hy)
def Nj {its:Array Yj}{o:Obj}{Q:Option (Array Yj)->Yv->Prop}(e1:s.heap.get? a=some o)(e3:o.data=.seq its n)(q:Q (some its) s):YE (YQ prog w) A (seqItems? (.ref a)) Q E s:=by
 unfold seqItems?;refine X6 (wpAny_load e1 ?_);rw[e3];exact Yg q
theorem va {ks:List Int}{vs:List Yj}(h:ItemsAre (ac2 prog w) ks vs):∀v∈vs,∃n t,v=.int n t:=by
 induction h with
 |nil=>intro v hv;cases hv
 | @cons k v' ks vs h1 _ ih=>
  intro v hv;rcases Yk.mp hv with rfl|hv
  ·obtain⟨t,rfl⟩:=Value.isInt_shape h1;exact⟨k,t,rfl⟩
  ·exact ih v hv
theorem Wv:rM (tI prog w) where
 cls:=λ{A E s k a Q} hk q=>by
  obtain⟨o,its,n,e1,e2,e3,e4⟩:=hk;have ty:s.TypeIs (.ref a) "tuple":=⟨o,e1,e2⟩;unfold ofAClassStatement;refine X6 (acm ty ?_);change YE _ _ (pure true >>= _) _ _ s;refine X6 (Yg ?_);change YE _ _ (seqItems? (.ref a) >>= _) _ _ s;refine X6 (Nj e1 e3 ?_);dsimp only;rw[u_]
  ·exact X6 (Yg (Yg q))
  ·intro x hx;obtain⟨n,t,rfl⟩:=va e4 x hx;rfl
 byv:=λ{A E s k a Q} hk q=>by
  obtain⟨o,its,n,e1,e2,e3,e4⟩:=hk;have ty:s.TypeIs (.ref a) "tuple":=⟨o,e1,e2⟩;unfold hashByValue;refine X6 (wpAny_specialOf ty PySem.F.slot_tuple_hash.lookup ?_);change YE _ _ (seqItems? (.ref a) >>= _) _ _ s;refine X6 (Nj e1 e3 ?_);dsimp only[Option.getD];rw[u_]
  ·exact X6 (Yg (Yg q))
  ·intro x hx;obtain⟨n,t,rfl⟩:=va e4 x hx;rfl
 kept:=λ{h h' k a d o es ep t} hk ho hd hs=>by
  obtain⟨o1,its,n,e1,e2,e3,e4⟩:=hk;have ne:a≠d:=λz=>by
   subst z;rw[e1] at ho;cases ho;rw[e3] at hd;cases hd
  exact⟨o1,its,n,hs.extBut _ _ ne e1,e2,e3,e4⟩
end
end Hc.Sy
namespace L2
open Hc.Dw Hc.Ts
noncomputable def RO:V->Int
 | .int i=>i
 |_=>0
noncomputable def eR (H:Hp)(b:YG):List Int:=match H b with
 |some (.tup xs)=>xs.map RO
 |_=>[]
theorem AD (ns:List Int):(ns.map V.int).map RO=ns:=by
 induction ns with
 |nil=>rfl
 |cons n r ih=>rw[Yp,Yp,ih];rfl
theorem qY:∀{bs:List YG} {its:List Yj},bC (bs.map V.ref) its->its=bs.map Value.ref
 | [],_,.nil=>rfl
 |b::bs,_,.cons r t=>by rw[Yp,qY t];cases r;rfl
theorem xt:∀(bs:List YG),bC (bs.map V.ref) (bs.map Value.ref)
 | []=>.nil
 |b::bs=>.cons rfl (xt bs)
theorem xu {bs:List YG}{out:List Yj}(h:out.Perm (bs.map Value.ref)):∃mF:List YG,out=mF.map Value.ref/\mF.Perm bs:=by
 let g:Yj->YG:=λv=>match v with
  | .ref a=>a
  |_=>0
 refine⟨out.map g,?_,?_⟩
 ·rw[Y9]
  conv=>lhs;rw[←List.map_id out]
  apply aam;intro v hv;obtain⟨b,_,rfl⟩:=Yz.mp (h.mem_iff.mp hv);rfl
 ·have:=h.map g;rw[Y9] at this;have e:bs.map (g∘Value.ref)=bs:=by
   conv=>rhs;rw[←List.map_id bs]
   apply aam;intro b _;rfl
  rw[e] at this;exact this
theorem Lz (I:a_ X pins σ H s)(h:H b=some (.tup (ns.map V.int)))(n:ns≠[]):Aw s.heap (.ref b)/\yw s.heap (.ref b)=eR H b:=by
 obtain⟨_,its,rv,it,_⟩:=I.hok b _ h;have ia:=c_ rv;refine⟨⟨b,its.toArray,ns,rfl,it,by simpa using ia,n⟩,?_⟩;rw[p7 it (by simpa using ia)];unfold eR;rw[h];exact (AD ns).symm
theorem xv {v:Yj}(t:Aw h v)(k:∀b its,h.IsTuple b its->h'.IsTuple b its):Aw h' v/\yw h' v=yw h v:=by
 obtain⟨a,its,ns,rfl,q,i,n⟩:=t;refine⟨⟨a,its,ns,rfl,k a its q,i,n⟩,?_⟩;rw[p7 q i,p7 (k a its q) i]
theorem Ex {h:aaX}:∀{vs:List Yj},(∀v∈vs,Aw h v)->∃fs,PySem.W.KatTups h vs fs/\fs.length=vs.length/\∀f∈fs,∃n t,f=.int n t
 | [],_=>⟨[],.nil,rfl,λf hf=>by cases hf⟩
 |v::vs,hv=>by
  obtain⟨fs,k1,k2,k3⟩:=Ex (vs:=vs) λu hu=>hv u (Ya _ hu);obtain⟨a,its,ns,rfl,⟨o,e,c,n,d⟩,i,ne⟩:=hv v Yb;have:∃m t r,its.toList=.int m t::r:=by
   generalize its.toList=l at i;cases i with
   |nil=>exact absurd rfl ne
   |cons m t r=>exact⟨m,t,_,rfl⟩
  obtain⟨m,t,r,el⟩:=this;refine⟨.int m t::fs,.cons e c d (by rw[←YJ,el];rfl) k1,by rw[X_,X_,k2],λf hf=>?_⟩;rcases Yk.mp hf with rfl|hf
  ·exact⟨m,t,rfl⟩
  ·exact k3 f hf
noncomputable def RP:Yj->YG
 | .ref a=>a
 |_=>0
theorem vb {p:YG}{bs:List YG}{Q:VK}(kf:YG->List Int)(knd:abz)(I:a_ X pins σ H s)(hz:bs.length<=1000000)(hu:X.A.units+64<abg)
  (kk:∀(A:Zk) (E:Yj->Yv->Prop) (nP:List YG) (s6:Yv) (Q6:abz->Yv->Prop),nP.Perm bs->2<=nP.length->(∀b o,s.heap.get? b=some o->s6.heap.get? b=some o)->Q6 knd s6->YE (YQ X.prog X.w) A (keyKind' (nP.map Value.ref).toArray) Q6 E s6)
  (kc:∀(A:Zk) (E:Yj->Yv->Prop) (s6:Yv),A.units<abg->(∀b o,s.heap.get? b=some o->s6.heap.get? b=some o)->oq (YQ X.prog X.w) A E s6 Cz (λx=>kf (RP x.1)) knd (λx=>∃b∈bs,x.1=.ref b))
  (Va:∀(Q:List Yj->Yv->Prop) (E:Yj->Yv->Prop),(∀h1 tk (nP:List YG),nP.Perm bs->(∀b o,s.heap.get? b=some o->h1.get? b=some o)->Q (nP.map Value.ref) {s with heap:=h1,toks:=tk})->YE (YQ X.prog X.w) X.A.in1 (collect (.ref p)) Q E s)
  (q:∀(l:YG) (mF:List YG),H l=none->mF.Perm bs->mF.Pairwise (λx y=>iH (kf y) (kf x)=false)->Q (.ref l) (eY H l (.lst (mF.map V.ref)))) :
  YE (YQ X.prog X.w) X.A (call (.builtin "sorted") [.ref p]) (EP X pins σ Q) X.xe s:=by
 refine ac5 kind_sorted plain_sorted entry_sorted (args_sorted1 _) ?_;unfold Builtin.«sorted»;refine X6 (m:=checkCount "sorted" 1 1 _) (Yg ?_);refine X6 (Va _ _ λh1 tk nP Kd k1=>?_);have hz:nP.length<=1000000:=by rw[Kd.length_eq];exact hz
 have Qc:nP.length<=Yf:=by rw[aau];lia
 have I1:a_ X pins σ H {s with heap:=h1,toks:=tk}:=I.kept (t':=tk) k1;refine X6 (wpAny_newList ?_ (by rw[X8];exact Qc));have P0:(h1.push {cls:=.type "list",data:=.seq (nP.map Value.ref).toArray}).get? h1.objs.size=some (acX "list" (nP.map Value.ref).toArray 0):=Ym _ rfl;have kt:∀(h6:aaX),(∀b o,b≠h1.objs.size->(h1.push {cls:=.type "list",data:=.seq (nP.map Value.ref).toArray}).get? b=some o->h6.get? b=some o)->∀b o,s.heap.get? b=some o->h6.get? b=some o:=λh6 k6 b o e=>
  k6 b o (YK (Yu (k1 b o e))) (X9 _ (k1 b o e))
 refine X6 (Z6 (ZG slot_list_sort ⟨_,P0,rfl⟩ entry_list_sort (IS (s:={s with heap:=h1.push {cls:=.type "list",data:=.seq (nP.map Value.ref).toArray},toks:=tk}) (O:=Cz) (key:=λx=>kf (RP x.1)) (knd:=knd) (D:=λx=>∃b∈bs,x.1=.ref b) P0 (by rw[X8];exact hz)
  (λh2 h6 Q6 k6 q6=>kk _ _ nP _ _ Kd (by rw[X8] at h2;exact h2) (kt h6 k6) q6) (λh2 h6 k6=>kc _ _ _ (by show X.A.units+1+1<abg;lia) (kt h6 k6)) (λv hv=>by
   obtain⟨b,hb,rfl⟩:=Yz.mp hv;exact⟨b,Kd.mem_iff.mp hb,rfl⟩) λout hp hw=>⟨_,rfl,?_⟩) (args_list_sort _)))
 obtain⟨mF,e,BI⟩:=xu hp;subst e;obtain⟨ee,he⟩:=sortedHeap_at (out:=(mF.map Value.ref).toArray) P0;have keep:∀b o,h1.get? b=some o->(sortedHeap (h1.push {cls:=.type "list",data:=.seq (nP.map Value.ref).toArray}) h1.objs.size (nP.map Value.ref) (mF.map Value.ref).toArray).get? b=some o:=λb o e=>by
  have hb:=Yu e;rw[sortedHeap_old (YK hb) (by rw[ZQ];exact aaC hb)];exact X9 _ e
 have JV:(mF.map V.ref).length<=Yf:=by rw[X8,BI.length_eq];exact Qc
 refine Yg ⟨_,rfl,.ref h1.objs.size,_,I1.laid (t':=tk) keep (Yl _) (show eJ X.prog X.w _ _ _ (.lst _) from ⟨JV,mF.map Value.ref,ee,xt mF,by simpa using he⟩),rfl,q _ mF (I1.hok.fresh (Yl _)) (BI.trans Kd) ?_⟩;exact Z9.mp hw
theorem AE {p:YG}{bs:List YG}{Q:VK}(I:a_ X pins σ H s)(hz:bs.length<=1000000)(hu:X.A.units+64<abg)(tu:∀b∈bs,∃ns:List Int,H b=some (.tup (ns.map V.int))/\ns≠[])
  (Va:∀(Q:List Yj->Yv->Prop) (E:Yj->Yv->Prop),(∀h1 tk (nP:List YG),nP.Perm bs->(∀b o,s.heap.get? b=some o->h1.get? b=some o)->Q (nP.map Value.ref) {s with heap:=h1,toks:=tk})->YE (YQ X.prog X.w) X.A.in1 (collect (.ref p)) Q E s)
  (q:∀(l:YG) (mF:List YG),H l=none->mF.Perm bs->mF.Pairwise (λx y=>iH (eR H y) (eR H x)=false)->Q (.ref l) (eY H l (.lst (mF.map V.ref)))) :
  YE (YQ X.prog X.w) X.A (call (.builtin "sorted") [.ref p]) (EP X pins σ Q) X.xe s:=by
 have tI:∀b∈bs,Aw s.heap (.ref b)/\yw s.heap (.ref b)=eR H b:=λb hb=>by
  obtain⟨ns,e,ne⟩:=tu b hb;exact Lz I e ne
 have kt:∀(h6:aaX),(∀b o,s.heap.get? b=some o->h6.get? b=some o)->∀b its,s.heap.IsTuple b its->h6.IsTuple b its:=λh6 k6 b its ⟨o,e,z⟩=>⟨o,k6 b o e,z⟩;refine vb (eR H) (tuples' true) I hz hu (λA E nP s6 Q6 Kd h2 k6 q6=>?_) (λA E s6 hA k6=>?_) Va q
 ·obtain⟨fs,f1,f2,f3⟩:=Ex (h:=s6.heap) (vs:=nP.map Value.ref) λv hv=>by
   obtain⟨b,hb,rfl⟩:=Yz.mp hv;exact (xv (tI b (Kd.mem_iff.mp hb)).1 (kt _ k6)).1
  exact PySem.W.kat_kind (T:=.type "int") f1 (by rw[f2,X8];lia) (λv hv=>by
   obtain⟨n,t,rfl⟩:=f3 v hv;exact PySem.W.Looks.of_pure rfl) (by decide) q6
 ·have c:=Ly (prog:=X.prog) (w:=X.w) (A:=A) (E:=E) (s:=s6) (hp:=s.heap) λv hv=>xv hv (kt _ k6);refine⟨λx y st Q dx dy kd qq=>?_⟩;obtain⟨b,hb,e1⟩:=dx;obtain⟨d,hd,e2⟩:=dy;refine c.lt x y st Q (by rw[e1];exact (tI b hb).1) (by rw[e2];exact (tI d hd).1) kd ?_;rw[e1,e2,(tI b hb).2,(tI d hd).2];rw[e1,e2] at qq;exact qq
end L2
namespace L2
open Hc.Dw Hc.Ts
noncomputable def aP (ns:List Int):U:=.tup (ns.map .int)
noncomputable def IT:U->Option (List Int)
 | .tup xs=>match eo xs with
  |some (n::ns)=>some (n::ns)
  |_=>none
 |_=>none
noncomputable def xw:List U->Option (List (List Int))
 | []=>some []
 |u::us=>match IT u,xw us with
  |some ns,some BJ=>some (ns::BJ)
  |_,_=>none
noncomputable def FV (x:List Int):List (List Int)->List (List Int)
 | []=>[x]
 |y::r=>if iH y x=true then y::FV x r else x::y::r
noncomputable def sC (l:List (List Int)):List (List Int):=l.foldr FV []
theorem qZ (x:List Int):∀l,(FV x l).Perm (x::l)
 | []=>.refl _
 |y::r=>by
  unfold FV;split
  ·exact ((qZ x r).cons y).trans (.swap x y r)
  ·exact .refl _
theorem fc:∀l,(sC l).Perm l
 | []=>.refl _
 |x::l=>(qZ x _).trans ((fc l).cons x)
def RQ (l:List (List Int)):Prop:=l.Pairwise λx y=>iH y x=false
theorem Ey (x:List Int):∀{l},RQ l->RQ (FV x l)
 | [],_=>List.pairwise_singleton _ _
 |y::r,h=>by
  obtain⟨h1,h2⟩:=abb.mp h;unfold FV;split
  ·rename_i c;refine abb.mpr ⟨λz hz=>?_,Ey x h2⟩;rcases Yk.mp ((qZ x r).mem_iff.mp hz) with rfl|hz
   ·exact KeyOrd.klt_asymm (O:=Cz) c
   ·exact h1 z hz
  ·rename_i c;have c:iH y x=false:=by simpa using c
   refine abb.mpr ⟨λz hz=>?_,h⟩;rcases Yk.mp hz with rfl|hz
   ·exact c
   ·exact Y3 (O:=Cz) (a:=x) (b:=y) (c:=z) c (h1 z hz)
theorem vc:∀l,RQ (sC l)
 | []=>List.Pairwise.nil
 |x::l=>Ey x (vc l)
theorem yz:∀{l m:List (List Int)},l.Perm m->RQ l->RQ m->l=m
 | [],m,p,_,_=>(List.nil_perm.mp p).symm
 |x::l,[],p,_,_=>absurd p.length_eq (by simp)
 |x::l,y::m,p,h1,h2=>by
  obtain⟨a1,a2⟩:=abb.mp h1;obtain⟨b1,b2⟩:=abb.mp h2;have e:x=y:=by
   have hx:x∈y::m:=p.mem_iff.mp Yb;have hy:y∈x::l:=p.mem_iff.mpr Yb;rcases Yk.mp hx with rfl|hx
   ·rfl
   ·rcases Yk.mp hy with rfl|hy
    ·rfl
    ·exact oO x y (b1 x hx) (a1 y hy)
  subst e;rw[yz (p.cons_inv) a2 b2]
theorem LA (h:IT u=some ns):u=aP ns/\ns≠[]:=by
 unfold IT at h;split at h
 ·split at h
  ·rename_i xs n r e;cases h;rw[fM e];exact⟨rfl,by simp⟩
  ·cases h
 ·cases h
theorem AF:∀{us:List U} {BJ:List (List Int)},xw us=some BJ->us=BJ.map aP/\∀ns∈BJ,ns≠[]
 | [],_,h=>by cases h;exact⟨rfl,λns hn=>by cases hn⟩
 |u::us,BJ,h=>by
  unfold xw at h;split at h
  ·rename_i ns r e1 e2;cases h;obtain⟨e3,n3⟩:=LA e1;obtain⟨e4,n4⟩:=AF e2;refine⟨by rw[Yp,←e3,←e4],λz hz=>?_⟩;rcases Yk.mp hz with rfl|hz
   ·exact n3
   ·exact n4 z hz
  ·cases h
theorem IU (h:Rp K H A (aP ns) v):∃b,v=.ref b/\H b=some (.tup (ns.map V.int))/\ns.length<=Yf:=by
 unfold aP Rp at h;obtain⟨b,ys,e,q,l,r⟩:=h;rw[r.toI] at q;exact⟨b,e,q,by simpa using l⟩
def O_ (q:H b=some (.tup (ns.map V.int)))(l:ns.length<=Yf):Rp K H A (aP ns) (.ref b):=by
 unfold aP Rp;exact⟨b,_,rfl,q,by simpa using l,pP ns⟩
def tU (q:H b=some (.tup (ns.map V.int))):eR H b=ns:=by unfold eR;rw[q];exact AD ns
theorem AG:∀{BJ:List (List Int)} {xs:List V},bf K H A (BJ.map aP) xs->∃bs:List YG,xs=bs.map V.ref/\bs.map (eR H)=BJ/\∀b∈bs,H b=some (.tup ((eR H b).map V.int))/\(eR H b).length<=Yf
 | [],xs,h=>by rw[aaz] at h;unfold bf at h;subst h;exact⟨[],rfl,rfl,λb hb=>by cases hb⟩
 |ns::BJ,xs,h=>by
  rw[Yp] at h;unfold bf at h;obtain⟨x,r,rfl,h1,h2⟩:=h;obtain⟨b,rfl,q,l⟩:=IU h1;obtain⟨bs,rfl,e,z⟩:=AG h2;refine⟨b::bs,rfl,by rw[Yp,e,tU q],λc hc=>?_⟩;rcases Yk.mp hc with rfl|hc
  ·rw[tU q];exact⟨q,l⟩
  ·exact z c hc
theorem IV {bs:List YG}(h:∀b∈bs,H b=some (.tup ((eR H b).map V.int))/\(eR H b).length<=Yf):bf K H A ((bs.map (eR H)).map aP) (bs.map V.ref):=by
 induction bs with
 |nil=>exact bf.nil
 |cons b bs ih=>exact bf.cons (O_ (h b Yb).1 (h b Yb).2) (ih λc hc=>h c (Ya _ hc))
end L2
namespace L2
open Hc.Dw Hc.Ts Hc.Sx Hc.Sy
noncomputable def vd (bX:List (List Int))(x:List Int):List (List Int):=if x∈bX then bX else bX++[x]
noncomputable def i4 (l:List (List Int)):List (List Int):=l.foldl vd []
def FW (w:abc)(l:YG)(bs:List YG)(h:aaX):Prop:=∃es ep t,nX w h l es ep t/\(es.toList.map (·.2)).Perm (bs.map Value.ref)
theorem IW {vs:List Yj}(h:ZS vs ns):ItemsAre (ac2 prog w) ns vs:=by
 induction h with
 |nil=>exact .nil
 |cons n t _ ih=>exact .cons (intKind_is _ _ _ _) ih
section
variable {G:Gm}{e:aaE}{n9 p1:Pos}{b1:Bool}{ga:Ev->R (List U×Ev)}
noncomputable def p8 (H:Hp)(bs:List YG)(i:Nat):List Int×YG:=(eR H (bs.getD i 0),bs.getD i 0)
theorem xx (H:Hp)(bs:List YG):∀n,n<=bs.length->(fz (p8 H bs) n).map (·.1)=i4 ((bs.take n).map (eR H))
 |0,_=>by simp[fz,i4]
 |n+1,h=>by
  have hn:n<bs.length:=by lia
  have ih:=xx H bs n (by lia);have e1:bs.take (n+1)=bs.take n++[bs[n]]:=aag hn;have e2:p8 H bs n=(eR H bs[n],bs[n]):=by unfold p8;simp[abv,X7 hn]
  rw[e1,YT];unfold i4 at ih ⊢;rw[List.foldl_append,←ih];show (om (fz (p8 H bs) n) (p8 H bs n).1 (p8 H bs n).2).map (·.1)=vd ((fz (p8 H bs) n).map (·.1)) (eR H bs[n]);rw[e2];unfold om vd;dsimp only;by_cases c:eR H bs[n]∈(fz (p8 H bs) n).map (·.1)
  ·rw[hV c,hV c]
  ·rw[hU c,hU c,YT];rfl
def AH (H:Hp)(bs:List YG):(fz (p8 H bs) bs.length).map (·.1)=i4 (bs.map (eR H)):=by
 rw[xx H bs _ (Yl _),aax]
def Nk (w:abc)(K:Ye):List V->Hp->VK->Prop:=λxs H Q=>∃(p:YG) (bs:List YG),xs=[.ref p]/\fX K H p (bs.map V.ref)/\(∀b∈bs,H b=some (.tup ((eR H b).map V.int)))/\(i4 (bs.map (eR H))).length<2046/\
 ∀(l:YG) (nP:List YG),H l=none->nP.map (eR H)=i4 (bs.map (eR H))->(∀b∈nP,b∈bs)->Q (.ref l) (eY H l (.ext (FW w l nP)))
theorem FX (hc:X.calm=true)(hu:X.A.units+64<abg):eZ X (.type "set") (Nk X.w X.K):=by
 intro pins s σ H xs us Q I r h;obtain⟨p,bs,rfl,hs,tu,hb,q⟩:=h;obtain⟨u,rfl,rx⟩:=iW r;cases rx;obtain⟨its,rv,pl,_⟩:=I.list hs;have e2:=qY rv;subst e2;have sz:(bs.map Value.ref).toArray.size=bs.length:=by simp
 refine Ae (knd:=tI X.prog X.w) (val:=p8 H bs) Wv (λ{h h' k a} hk m=>?_) (show X.A.units+1+1+1<abg by lia) (I.ok.hd hc) pl.isList (λi v hv=>?_) (λj hj=>?_) ?_ λh' tk hS hk=>?_
 ·obtain⟨o,its,n,e1,e2,e3,e4⟩:=hk;obtain⟨o',Dh,L6,n',e3'⟩:=m a its ⟨o,e1,e2,n,e3⟩;exact⟨o',its,n',Dh,L6,e3',e4⟩
 ·rw[←YJ] at hv;rw[YL] at hv;unfold p8;cases z:bs[i]? with
  |none=>rw[z] at hv;cases hv
  |some b=>rw[z] at hv;simp only[abv,z,acr];exact (YF hv).symm
 ·have hj:j<bs.length:=by rw[sz] at hj;exact hj
  have em:bs.getD j 0=bs[j]:=by simp[abv,X7 hj]
  unfold p8;rw[em];obtain⟨_,its,rv,it,_⟩:=I.hok _ _ (tu _ (Za hj));obtain⟨o,h1,h2,n,h3⟩:=it;exact⟨o,_,n,h1,h2,h3,by simpa using IW (c_ rv)⟩
 ·rw[sz];have:=congrArg aai (AH H bs);rw[X8] at this;lia
 ·rw[sz] at hS;obtain⟨o,es,ep,t,C,g1,g2,g3,g4,g5⟩:=hS;have Vb:nX X.w h' s.heap.objs.size es ep t:=⟨o,g1,g2,g3,g4.fits,g4.pl,g5,g4.tab.ris,g4.tab.sz⟩;have mem:∀x∈fz (p8 H bs) bs.length,x.1=eR H x.2/\x.2∈bs:=λx hx=>by
   obtain⟨j,hj,rfl⟩:=nC _ _ x hx;refine⟨rfl,?_⟩;have em:bs.getD j 0=bs[j]:=by simp[abv,X7 hj]
   show bs.getD j 0∈bs;rw[em];exact Za hj
  refine⟨.ref s.heap.objs.size,_,I.laid (a:=s.heap.objs.size) (o:=.ext (FW X.w s.heap.objs.size ((fz (p8 H bs) bs.length).map (·.2)))) (t':=tk) hk (Yl _)
   ⟨⟨es,ep,t,Vb,?_⟩,⟨o,g1⟩,λh1 h2 ⟨es,ep,t,r,z⟩ k=>⟨es,ep,t,r.at k,z⟩⟩,rfl,q _ _ (I.hok.fresh (Yl _)) ?_ λb hb=>?_⟩
  ·refine (g4.per.map (·.2)).trans (List.Perm.of_eq ?_);rw[Y9,Y9];rfl
  ·rw[←AH H bs,Y9];exact aam λx hx=>(mem x hx).1.symm
  ·obtain⟨x,hx,rfl⟩:=Yz.mp hb;exact (mem x hx).2
def IX (w:abc):List V->Hp->VK->Prop:=λxs H Q=>∃(p:YG) (bs:List YG),xs=[.ref p]/\H p=some (.ext (FW w p bs))/\bs.length<=1000000/\(∀b∈bs,∃ns:List Int,H b=some (.tup (ns.map V.int))/\ns≠[])/\
  ∀(l:YG) (mF:List YG),H l=none->mF.Perm bs->mF.Pairwise (λx y=>iH (eR H y) (eR H x)=false)->Q (.ref l) (eY H l (.lst (mF.map V.ref)))
theorem CB (hc:X.calm=true)(hu:X.A.units+64<abg):eZ X (.builtin "sorted") (IX X.w):=by
 intro pins s σ H xs us Q I r h;obtain⟨p,bs,rfl,hs,hz,tu,q⟩:=h;obtain⟨u,rfl,rx⟩:=iW r;cases rx;obtain⟨⟨es,ep,t,Vb,per⟩,_,_⟩:=I.hok p _ hs;refine AE I hz hu tu (λQ E hq=>?_) q;have n:es.size=bs.length:=by have:=per.length_eq;simpa using this
 refine Az (A:=X.A.in1) Uy (I.ok.hd hc) Vb (by rw[n,aau];lia) λh1 tk bX k1 ia=>?_;have e:bX.toList=(v3 X.w p ep es).toList.map (·.2):=by
  apply adj;intro i;rw[YJ,YL,YJ];by_cases hi:i<bX.size
  ·rw[getElem?_pos bX i hi];obtain⟨en,e1,e2⟩:=ia.2 i _ (getElem?_pos bX i hi);rw[e1,e2];rfl
  ·rw[getElem?_neg bX i hi,getElem?_neg _ i (by rw[AB,←ia.1];exact hi)];rfl
 obtain⟨nP,e3,e4⟩:=xu ((AA.map (·.2)).trans per);rw[e,e3];exact hq h1 tk nP e4 k1
noncomputable def fH:List U->R U:=λus=>match us with
 | [.lst xs]=>match xw xs with
  |some BJ=>if (i4 BJ).length<2046 then .ok (.lst ((sC (i4 BJ)).map aP)) else .stk
  |none=>.stk
 |_=>.stk
theorem p9:∀(l bX:List (List Int)) (x:List Int),x∈l.foldl vd bX->x∈bX\/x∈l
 | [],bX,x,h=>.inl h
 |y::l,bX,x,h=>by
  rcases p9 l _ x h with z|z
  ·unfold vd at z;split at z
   ·exact .inl z
   ·rcases Yx.mp z with z|z
    ·exact .inl z
    ·exact .inr (by rw[Yw.mp z];exact Yb)
  ·exact .inr (Ya _ z)
theorem AI:nV K (λvs H Q=>Nk w K vs H λx H2=>IX w [x] H2 Q) .O fH:=λA H vs us z Q h mu e q=>by
 unfold fH at e;split at e
 ·rename_i xs;split at e
  ·rename_i BJ e1;split at e
   ·rename_i hl;cases e;obtain⟨v,rfl,p⟩:=h.one;unfold Pk at p;obtain⟨a,ys,rfl,h1,l1,r1⟩:=p;obtain⟨e2,ne⟩:=AF e1;subst e2;obtain⟨bs,rfl,e4,e5⟩:=AG r1;refine⟨a,bs,rfl,fX.of h1,λb hb=>(e5 b hb).1,by rw[e4];exact hl,λl nP hn k2 sub=>?_⟩;have sm:=dF hn (.ext (FW w l nP));have kb:∀b∈bs,eR (eY H l (.ext (FW w l nP))) b=eR H b:=λb hb=>by
     rw[tU (sm _ _ (e5 b hb).1)]
    have ln:nP.length=(i4 BJ).length:=by rw[←e4,←k2,X8]
    refine⟨l,nP,rfl,dg,by lia,λb hb=>⟨_,sm _ _ (e5 b (sub b hb)).1,?_⟩,λl' mF Qp hp hw=>?_⟩
    ·have:eR H b∈i4 (bs.map (eR H)):=by rw[←k2];exact aaJ hb
     rcases p9 _ _ _ this with z|z
     ·cases z
     ·rw[e4] at z;exact ne _ z
    ·have W_:(mF.map (eR H)).Pairwise λx y=>iH y x=false:=by
      refine Z9.mpr (aa1 (λ{x y} hx hy z=>?_) hw);rw[kb x (sub x (hp.mem_iff.mp hx)),kb y (sub y (hp.mem_iff.mp hy))] at z;exact z
     have e7:mF.map (eR H)=sC (i4 BJ):=yz ((hp.map (eR H)).trans (by rw[k2,e4];exact (fc _).symm)) W_ (vc _);have Xa:=sm.trans (dF Qp (.lst (mF.map V.ref)));have na:H l'=none:=by
      cases z:H l' with
      |none=>rfl
      |some o=>rw[sm _ _ z] at Qp;cases Qp
     refine q _ _ Xa ⟨l',rfl,na,?_⟩;rw[←e7];refine cM (λb hb=>?_) ?_ Qp ?_
     ·have m:=mu b hb;obtain⟨o,z⟩:=m.ex;rw[sm b o z,←z];exact m
     ·have k3:mF.map (eR H)=mF.map (eR (eY H l (.ext (FW w l nP)))):=aam λb hb=>(kb b (sub b (hp.mem_iff.mp hb))).symm;rw[k3];refine IV λb hb=>?_;have zj:=sub b (hp.mem_iff.mp hb);rw[kb b zj];exact⟨sm _ _ (e5 b zj).1,(e5 b zj).2⟩
     ·have:Yf=16777216:=rfl;rw[X8,X8,hp.length_eq];lia
   ·cases e
  ·cases e
 ·cases e
def lX (hc:X.calm=true)(hu:X.A.units+64<abg)(ha:DA X G [e] b1 true ga)(hm:X.mg "sorted"=none)(Qs:X.mg "set"=none)(hg:Gl X "sorted":=by rfl)(P5:Gl X "set":=by rfl)
  (he:YC [e] X.env=(false,abN e X.env)::YC [] X.env:=by rfl) (pj:(abe n9 (YC [] X.env)).any (·.1)=false:=by rfl)
  (SO:YC [.Call (.Name "set" p2) [e] [] n9] X.env=(false,abN (.Call (.Name "set" p2) [e] [] n9) X.env)::YC [] X.env:=by rfl) (Dg:(abe pos (YC [] X.env)).any (·.1)=false:=by rfl) :
  DE X G (.Call (.Name "sorted" p1) [.Call (.Name "set" p2) [e] [] n9] [] pos) b1 .O (dZ fH ga):=⟨(pB (CB hc hu) hg hm qH (kv (iD (FX hc hu) P5 Qs HB ha.un (by decide) (by decide) he pj) qC SO) (by decide) (by decide) SO Dg).to λ_ _ _ h=>tM (p:=true) (AI (K:=X.K)) h⟩
end
end L2
namespace L2
open Hc.Dw Hc.Ts
section
variable {G:Gm}
def Nl:R2:=λx y H Q=>∃(p:YG) (xs:List V) (n:Int),x=.ref p/\y=.int n/\H p=some (.lst xs)/\0<=n/\n<=100000/\xs≠[]/\xs.length*n.toNat<=100000/\∀l,H l=none->Q (.ref l) (eY H l (.lst (YZ n.toNat xs).flatten))
theorem yA:jt X (aa3 .Mult) Nl:=by
 intro pins s σ H x y v u Q I rx ry h;obtain⟨p,xs,n,rfl,rfl,hp,h0,h1,NL,hs,q⟩:=h;obtain rfl:v=Value.ref p:=rx;obtain⟨tk,rfl⟩:∃t,u=.int n t:=ry;obtain⟨_,its,n0,rv,hl,ho⟩:=I.lstM hp;have hl:xs.length=its.length:=rv.length;have he:its.toArray.isEmpty=false:=by cases its with
  |nil=>cases xs with
   |nil=>exact absurd rfl NL
   |cons=>simp at hl
  |cons=>simp
 have sl:Yf=16777216:=rfl;refine wpAny_binaryOp_repeat_ref (T:="list") (U:="int") (by decide) ⟨_,ho,rfl⟩ (λs'=>typeIs_int s' n tk) noFill_list_mul PySem.F.fills_int_mul abk repeat_list PySem.F.slot_int_index.lookup
  (ab9 abk (typeIs_int s n tk) PySem.F.entry_int_rmul (PySem.F.args_int_rmul_2 _ _) (int___rmul___int_list n tk p its.toArray n0)
   ⟨ho,rfl,⟨_,ho,rfl⟩,ab9 PySem.F.slot_list_mul ⟨_,ho,rfl⟩ PySem.F.entry_list_mul (PySem.F.args_list_mul_2 _ _)
    (AutoListH.list___mul___list_int_3 p its.toArray n0 n tk ?c0 ?c1 ?c2) ⟨ho,?_⟩⟩)
 case c0=>unfold Builtin.List.listFitsIndex;simp;lia
 case c1=>rw[Yh,←hl];lia
 case c2=>rw[Yh,←hl,ui (by rw[sl];lia)];exact Yd
 rw[he,hU Yd,listMul_foldl];have el:(#[]:Array Yj).toList=[]:=rfl;simp only[el,Zx];have z2:(YZ n.toNat xs).flatten.length<=Yf:=by rw[tQ,sl];lia
 exact⟨.ref s.heap.objs.size,_,I.laid (a:=s.heap.objs.size) (o:=.lst (YZ n.toNat xs).flatten) (t':=s.toks) (λ_ _ e=>X9 _ e) (Yl _) ⟨z2,_,0,uG rv n.toNat,by
  have:=Ym s.heap (o:={cls:=Value.type "list",data:=Data.seq (YZ n.toNat its.toArray.toList).flatten.toArray}) rfl;simpa using this⟩,rfl,q _ (I.hok.fresh (Yl _))⟩
noncomputable def ou:U->U->R U:=λu w=>match u,w with
 | .lst us,.int n=>if 0<=n/\n<=100000/\us.length*n.toNat<=100000/\us.isEmpty=false then .ok (.lst (YZ n.toNat us).flatten) else .stk
 |_,_=>.stk
theorem vf:eQ K Nl .O ou:=λA H x y u w z Q hx hy mu e q=>by
 unfold ou at e;split at e
 ·rename_i us n;split at e
  ·rename_i c;cases e;unfold Pk at hx hy;obtain⟨a,xs,rfl,h1,l1,r1⟩:=hx;subst hy;have hl:=r1.length;refine⟨a,xs,n,rfl,rfl,h1,c.1,c.2.1,λz=>?_,by rw[←hl];exact c.2.2.1,λl hn=>?_⟩
   ·have:us=[]:=Zv (by rw[hl,z];rfl);have c4:=c.2.2.2;rw[this] at c4;cases c4
   ·refine q _ _ (dF hn _) ⟨l,rfl,hn,cM mu (ye r1 _) hn ?_⟩;rw[tQ];have:Yf=16777216:=rfl;lia
  ·cases e
 ·cases e
end
section
variable {G:Gm}{e:aaE}{tl:TE}{Bz cpos p1:Pos}{b1:Bool}{m1:Md}{g1:Ev->R (U×Ev)}
noncomputable def q_ (ns:List Int):Bool:=decide (ns.length<=1000000)&&ns.all λn=>decide (0<=n/\n<=1000000000)
theorem mU (ns:List Int):∀j,j<=ns.length->preSum (λi=>ns.getD i 0) j=(ns.take j).sum
 |0,_=>rfl
 |j+1,h=>by
  unfold preSum;rw[mU ns j (by lia),aag (show j<ns.length by lia),List.sum_append];simp[abv,X7 (show j<ns.length by lia)]
theorem xy:∀{ns:List Int},(ns.all λn=>decide (0<=n/\n<=1000000000))=true->0<=ns.sum/\ns.sum<=ns.length*1000000000
 | [],_=>by simp
 |n::ns,h=>by
  rw[ZU,Ys] at h;obtain⟨a,b⟩:=xy h.2;have:=of_decide_eq_true h.1;rw[aa5,X_];constructor
  ·lia
  ·push_cast;lia
end
end L2
namespace L2
open Hc.Dw Hc.Ts
noncomputable def vg:Yj->Int×Tok
 | .int n t=>(n,t)
 |_=>(0,0)
theorem xA (h:ZS its ns):intItems (its.map vg).toArray=its.toArray/\∀i,numAt (its.map vg).toArray i=ns.getD i 0:=by
 constructor
 ·unfold intItems;rw[List.map_toArray,Y9];congr 1
  induction h with
  |nil=>rfl
  |cons n t _ ih=>rw[Yp,ih];rfl
 ·induction h with
  |nil=>intro i;unfold numAt;simp
  |cons n t _ ih=>
   intro i;cases i with
   |zero=>unfold numAt;simp[vg]
   |succ i=>
    have:=ih i;unfold numAt at this ⊢;simpa [abv] using this
section
variable {G:Gm}
def Nm (K:Ye):List V->Hp->VK->Prop:=λxs H Q=>∃p ns,xs=[.ref p]/\fX K H p (ns.map V.int)/\q_ ns=true/\Q (.int ns.sum) H
theorem rf (hc:X.calm=true):eZ X (.builtin "sum") (Nm X.K):=by
 intro pins s σ H xs us Q I r h;obtain⟨p,ns,rfl,hs,sm,q⟩:=h;obtain⟨u,rfl,rx⟩:=iW r;cases rx;obtain⟨its,rv,pl,_⟩:=I.list hs;have hI:=c_ rv;obtain⟨t1,t2⟩:=xA hI;have sz:(its.map vg).toArray.size=ns.length:=by simp[hI.length]
 unfold q_ at sm;rw[Ys] at sm;have s1:=of_decide_eq_true sm.1;have fe:numAt (its.map vg).toArray=λi=>ns.getD i 0:=funext t2;refine sum_intList (xs:=(its.map vg).toArray) (I.ok.hd hc) (by rw[t1];exact pl.isList) (λj hj=>?_) λh' tk t' k=>?_
 ·rw[sz] at hj;have al:=sm.2;rw[fe];refine⟨?_,?_⟩
  ·have:=Yo.mp al ns[j] (Za hj);have:=of_decide_eq_true this;unfold InLong;simp only[abv,X7 hj,acr];lia
  ·rw[mU ns (j+1) (by lia)];have Xb:((ns.take (j+1)).all λn=>decide (0<=n/\n<=1000000000))=true:=Yo.mpr λx hx=>Yo.mp al x (Zd hx);obtain⟨p1,p2⟩:=xy Xb;have:(ns.take (j+1)).length<=1000000:=by rw[Yy];lia
   unfold InLong;lia
 ·have e:preSum (numAt (its.map vg).toArray) (its.map vg).toArray.size=ns.sum:=by rw[fe,sz,mU ns ns.length (Yl _),aax]
  rw[e];exact⟨.int ns.sum,H,I.kept (t':=tk) k,⟨t',rfl⟩,q⟩
noncomputable def p_:List U->R U:=λus=>match us with
 | [.lst xs]=>match eo xs with
  |some ns=>if q_ ns=true then .ok (.int ns.sum) else .stk
  |none=>.stk
 |_=>.stk
theorem vh:nV K (Nm K) .S p_:=λA H vs us z Q h mu e q=>by
 unfold p_ at e;split at e
 ·rename_i xs;split at e
  ·rename_i ns hb;split at e
   ·rename_i hl;cases e;obtain⟨v,rfl,p⟩:=h.one;unfold Pk at p;obtain⟨a,ys,rfl,h1,l1,r1⟩:=p;rw[fM hb] at r1;rw[r1.toI] at h1;exact⟨a,ns,rfl,fX.of h1,hl,q _ H (bh.refl _) (show Rp K H A _ _ from eC)⟩
   ·cases e
  ·cases e
 ·cases e
noncomputable def vi:Int->List Int->Int
 |m,[]=>m
 |m,n::ns=>vi (if m<n then n else m) ns
theorem AJ (ns:List Int)(n0:Int):∀j,j<=ns.length->(n0::ns).getD (argBest (λi j=>decide ((n0::ns).getD i 0>(n0::ns).getD j 0)) j) 0=vi n0 (ns.take j)
 |0,_=>by simp[argBest,vi]
 |j+1,h=>by
  have ih:=AJ ns n0 j (by lia);have hj:j<ns.length:=by lia
  have app:∀(l:List Int) (m x:Int),vi m (l++[x])=if vi m l<x then x else vi m l:=by
   intro l
   induction l with
   |nil=>intro m x;rfl
   |cons y l ih=>intro m x;exact ih _ x
  rw[aag hj,app,←ih];have g:(n0::ns).getD (j+1) 0=ns[j]:=by simp[abv,X7 hj]
  rw[argBest];by_cases c:(n0::ns).getD (argBest (λi j=>decide ((n0::ns).getD i 0>(n0::ns).getD j 0)) j) 0<ns[j]
  ·rw[hV c,hV (by rw[g];exact hG c),g]
  ·rw[hU c,hU (by rw[g,decide_eq_true_eq];exact c)]
def Nn (K:Ye):List V->Hp->VK->Prop:=λxs H Q=>∃p n0 ns,xs=[.ref p]/\fX K H p ((n0::ns).map V.int)/\Q (.int (vi n0 ns)) H
theorem FY (hc:X.calm=true):eZ X (.builtin "max") (Nn X.K):=by
 intro pins s σ H xs us Q I r h;obtain⟨p,n0,ns,rfl,hs,q⟩:=h;obtain⟨u,rfl,rx⟩:=iW r;cases rx;obtain⟨its,rv,pl,_⟩:=I.list hs;have hI:=c_ rv;obtain⟨t1,t2⟩:=xA hI;have sz:(its.map vg).toArray.size=ns.length+1:=by simp[hI.length]
 have fe:numAt (its.map vg).toArray=λi=>(n0::ns).getD i 0:=funext t2;refine max_intList (xs:=(its.map vg).toArray) (I.ok.hd hc) (by rw[t1];exact pl.isList) (by rw[sz];lia) λv h' tk hv k=>?_;obtain⟨t,rfl⟩:=intItems_at hv;rw[sz,ac1,fe];dsimp only;rw[AJ ns n0 _ (Yl _),aax];exact⟨.int _,H,I.kept (t':=tk) k,⟨t,rfl⟩,q⟩
noncomputable def AK:List U->R U:=λus=>match us with
 | [.lst xs]=>match eo xs with
  |some (n::ns)=>.ok (.int (vi n ns))
  |_=>.stk
 |_=>.stk
theorem IY:nV K (Nn K) .S AK:=λA H vs us z Q h mu e q=>by
 unfold AK at e;split at e
 ·rename_i xs;split at e
  ·rename_i n ns hb;cases e;obtain⟨v,rfl,p⟩:=h.one;unfold Pk at p;obtain⟨a,ys,rfl,h1,l1,r1⟩:=p;rw[fM hb] at r1;rw[r1.toI] at h1;exact⟨a,n,ns,rfl,fX.of h1,q _ H (bh.refl _) (show Rp K H A _ _ from eC)⟩
  ·cases e
 ·cases e
end
end L2
namespace Hc.Ts
open PySem.W
theorem AL:∀a b,HT.lexLt a b=iH a b
 | [],[]=>rfl
 | [],_::_=>rfl
 |_::_,[]=>rfl
 |x::xs,y::ys=>by
  rw[HT.lexLt_cons,iH,AL xs ys]
def oP (h:aaX)(a t b:YG)(its:Array Yj)(ns:List Int):Prop:=h.IsTuple a #[.ref t,.ref b]/\h.IsTuple t its/\ZS its.toList ns
theorem oP.keep {t:YG}{its:Array Yj}(x:oP h a t b its ns)(k:∀b o,h.get? b=some o->h'.get? b=some o):oP h' a t b its ns:=by
 obtain⟨⟨o1,e1,r1⟩,⟨o2,e2,r2⟩,i⟩:=x;exact⟨⟨o1,k _ _ e1,r1⟩,⟨o2,k _ _ e2,r2⟩,i⟩
section
variable {A:Zk}
theorem items_int {vs:List Yj}(h:ZS vs ns):ItemsAre (ac2 prog w) ns vs:=by
 induction h with
 |nil=>exact .nil
 |cons n t _ ih=>exact .cons (intKind_is _ _ _ _) ih
theorem RS {t:YG}{its:Array Yj}(h:s.heap.IsTuple t its)(i:ZS its.toList ns):IsTupleKey (ac2 prog w) s.heap ns t:=by
 obtain⟨o,e,c,n,d⟩:=h;exact⟨o,its,n,e,c,d,items_int i⟩
def LB {Q:Bool->Yv->Prop}(q:Q true s):YE (YQ prog w) A (eqBool (.ref b) (.ref b)) Q E s:=by
 unfold eqBool;refine Z6 ?_;rw[hV (by simp)];exact X6 (aa8 (Yg q))
theorem IZ {h0:aaX}{bs:List YG}{kf:YG->List Int}(hu:A.units<abg)(at_:∀a∈bs,∃t b its,oP h0 a t b its (kf a))(inj:∀a∈bs,∀c∈bs,kf a=kf c->a=c)(keep:∀b o,h0.get? b=some o->s.heap.get? b=some o)
  {key:YI->List Int} (L8:∀x:YI,∀a∈bs,x.1=.ref a->key x=kf a):oq (YQ prog w) A E s Cz key (tuples' false) (λx=>∃a∈bs,x.1=.ref a) where
 lt:=λx y st Q dx dy kd q=>by
  obtain⟨a,ha,e1⟩:=dx;obtain⟨c,hc,e2⟩:=dy;rw[L8 x a ha e1,L8 y c hc e2] at q;obtain⟨t1,b1,i1,p1⟩:=at_ a ha;obtain⟨t2,b2,i2,p2⟩:=at_ c hc;obtain⟨u1,v1,w1⟩:=p1.keep keep;obtain⟨u2,v2,w2⟩:=p2.keep keep;rw[lt'_eq];refine Yt (ac_ ?_);rw[kd,e1,e2];have Xc:=u1;have Xd:=u2;obtain⟨o1,g1,_,n1,d1⟩:=u1;obtain⟨o2,g2,_,n2,d2⟩:=u2;refine Yt (wpS_lift (abW (kat_lt g1 d1 g2 d2 ?_)));refine kat_cons (wpAny_eqBool_tuple (knd:=ac2 prog w) hu (RS v1 w1) (RS v2 w2) ?_);by_cases hk:kf a=kf c
  ·have Xe:=inj a ha c hc hk;subst Xe;rw[hG hk];refine kat_yes ?_;obtain⟨_,z1,_,_,z2⟩:=Xc;obtain⟨_,z3,_,_,z4⟩:=Xd;rw[z1] at z3;cases z3;rw[z2] at z4;cases z4;refine kat_cons (LB (kat_yes (kat_nil ⟨rfl,?_⟩)));rw[show Cz.blt (kf a) (kf a)=false from mT _] at q;exact YD q
  ·rw[hJ hk];refine kat_no (kat_one _ _ (HT.lt_tupInts v1 v2 w1 w2 hu ?_));rw[AL];exact⟨rfl,YD q⟩
theorem FZ {bs:List YG}{Q:abz->Yv->Prop}(h2:2<=bs.length)(at_:∀a∈bs,∃t b its ns,oP s.heap a t b its ns)(q:Q (tuples' false) s):YE (YQ prog w) A (keyKind' (bs.map Value.ref).toArray) Q E s:=by
 have kt:∀l:List YG,(∀a∈l,∃t b its ns,oP s.heap a t b its ns)->∃fs,KatTups s.heap (l.map Value.ref) fs/\fs.length=l.length/\∀f∈fs,∃t its,f=.ref t/\s.heap.IsTuple t its:=by
  intro l
  induction l with
  |nil=>exact λ_=>⟨[],.nil,rfl,λf hf=>by cases hf⟩
  |cons a l ih=>
   intro h;obtain⟨fs,k1,k2,k3⟩:=ih λc hc=>h c (Ya _ hc);obtain⟨t,b,its,ns,⟨o,e,c,n,d⟩,v,_⟩:=h a Yb;refine⟨.ref t::fs,.cons e c d rfl k1,by rw[X_,X_,k2],λf hf=>?_⟩;rcases Yk.mp hf with rfl|hf
   ·exact⟨t,its,rfl,v⟩
   ·exact k3 f hf
 obtain⟨fs,k1,k2,k3⟩:=kt bs at_;refine kat_kind (T:=.type "tuple") k1 (by lia) (λv hv=>?_) (by decide) q;obtain⟨t,its,rfl,o,e,c,_⟩:=k3 v hv;rw[←c];exact (Looks.ld e).andThen .now
end
end Hc.Ts
namespace L2
open Hc.Dw Hc.Ts
noncomputable def jQ (H:Hp)(b:YG):List Int:=match H b with
 |some (.tup [.ref t,_])=>eR H t
 |_=>[]
def Ez (H:Hp)(b:YG):Prop:=∃t x,H b=some (.tup [.ref t,.ref x])/\H t=some (.tup ((jQ H b).map V.int))
section
variable {G:Gm}
def I0 (K:Ye):List V->Hp->VK->Prop:=λxs H Q=>∃(p:YG) (bs:List YG),xs=[.ref p]/\fX K H p (bs.map V.ref)/\bs.length<=1000000/\(∀b∈bs,Ez H b)/\(bs.map (jQ H)).Nodup/\
  ∀(l:YG) (mF:List YG),H l=none->mF.Perm bs->mF.Pairwise (λx y=>iH (jQ H y) (jQ H x)=false)->Q (.ref l) (eY H l (.lst (mF.map V.ref)))
theorem xB {α β:Type}{f:α->β}:∀{l:List α},(l.map f).Nodup->∀a∈l,∀b∈l,f a=f b->a=b
 | [],_,a,ha,_,_,_=>by cases ha
 |x::l,h,a,ha,b,hb,e=>by
  rw[Yp] at h;obtain⟨h1,h2⟩:=aaq.mp h;rcases Yk.mp ha with ea|Di
  ·rcases Yk.mp hb with eb|zj
   ·rw[ea,eb]
   ·exact absurd (by rw[←ea,e];exact aaJ zj) h1
  ·rcases Yk.mp hb with eb|zj
   ·exact absurd (by rw[←eb,←e];exact aaJ Di) h1
   ·exact xB h2 a Di b zj e
theorem xC (I:a_ X pins σ H s)(h:Ez H b):∃t x its,oP s.heap b t x its (jQ H b):=by
 obtain⟨t,x,h1,h2⟩:=h;obtain⟨_,its,rv,it,_⟩:=I.hok b _ h1;obtain⟨_,its2,rv2,it2,_⟩:=I.hok t _ h2;cases rv with
 |cons r1 rv=>
  cases rv with
  |cons r2 rv=>
   cases rv;cases r1;cases r2;exact⟨t,x,_,it,it2,by simpa using c_ rv2⟩
theorem CC (hc:X.calm=true)(hu:X.A.units+64<abg):eZ X (.builtin "sorted") (I0 X.K):=by
 intro pins s σ H xs us Q I r h;obtain⟨p,bs,rfl,hs,hz,tu,nd,q⟩:=h;obtain⟨u,rfl,rx⟩:=iW r;cases rx;have Qc:bs.length<=Yf:=by rw[aau];lia
 refine vb (jQ H) (tuples' false) I hz hu (λA E nP s6 Q6 Kd h2 k6 q6=>?_) (λA E s6 hA k6=>?_) (λQ E hq=>?_) q
 ·refine FZ h2 (λa ha=>?_) q6;obtain⟨t,x,its,z⟩:=xC I (tu a (Kd.mem_iff.mp ha));exact⟨t,x,its,_,z.keep k6⟩
 ·exact IZ (h0:=s.heap) (kf:=jQ H) hA (λa ha=>xC I (tu a ha)) (xB nd) k6 (λx a _ e=>by rw[e];rfl)
 ·obtain⟨its,rv,pl,_⟩:=I.list hs;obtain⟨o,e,c,n,d⟩:=pl.isList;have e2:=qY rv;subst e2;exact wpAny_collect_seq p (.inl rfl) e c d (λh1 k1=>by simpa using hq h1 s.toks bs (Z3 _) k1) (by rw[Yh,X8];exact Qc)
noncomputable def kj (p:List Int×U):U:=.tup [aP p.1,p.2]
noncomputable def EA:U->Option (List Int×U)
 | .tup [.tup ks,.tup us]=>(eo ks).map λns=>(ns,.tup us)
 |_=>none
noncomputable def oQ:List U->Option (List (List Int×U))
 | []=>some []
 |u::us=>match EA u,oQ us with
  |some p,some ps=>some (p::ps)
  |_,_=>none
noncomputable def mw (ps:List (List Int×U))(k:List Int):U:=(ps.lookup k).getD .non
noncomputable def AM (ps:List (List Int×U)):List (List Int×U):=(sC (ps.map (·.1))).map λk=>(k,mw ps k)
noncomputable def vj:List U->R U:=λus=>match us with
 | [.lst xs]=>match oQ xs with
  |some ps=>if ps.length<=1000000/\(ps.map (·.1)).Nodup then .ok (.lst ((AM ps).map kj)) else .stk
  |none=>.stk
 |_=>.stk
theorem I_ {p:List Int×U}(h:EA u=some p):u=kj p/\∃us,p.2=.tup us:=by
 unfold EA at h;split at h
 ·rename_i ks us;cases e:eo ks with
  |none=>rw[e] at h;cases h
  |some ns=>
   rw[e] at h;cases h;unfold kj aP;rw[fM e];exact⟨rfl,us,rfl⟩
 ·cases h
theorem xD:∀{us:List U} {ps:List (List Int×U)},oQ us=some ps->us=ps.map kj/\∀p∈ps,∃us,p.2=.tup us
 | [],ps,h=>by unfold oQ at h;cases h;exact⟨rfl,λp hp=>by cases hp⟩
 |u::us,ps,h=>by
  unfold oQ at h;split at h
  ·rename_i p X3 e1 e2;cases h;obtain⟨a1,a2⟩:=I_ e1;obtain⟨b1,b2⟩:=xD e2;refine⟨by rw[Yp,←a1,←b1],λq hq=>?_⟩;rcases Yk.mp hq with rfl|hq
   ·exact a2
   ·exact b2 q hq
  ·cases h
theorem LC {p:List Int×U}(h:Rp K H A (kj p) v)(t:∃us,p.2=.tup us):∃b,v=.ref b/\Ez H b/\jQ H b=p.1:=by
 obtain⟨us,e⟩:=t;unfold kj at h;unfold Rp at h;obtain⟨b,xs,rfl,q,l,r⟩:=h;unfold bf at r;obtain⟨v1,r1,rfl,p1,r⟩:=r;unfold bf at r;obtain⟨v2,r2,rfl,p2,r⟩:=r;unfold bf at r;subst r;obtain⟨t,rfl,ht,_⟩:=IU p1;rw[e] at p2;unfold Rp at p2;obtain⟨x,ys,rfl,_⟩:=p2;have k:jQ H b=p.1:=by unfold jQ;rw[q];exact tU ht
 exact⟨b,rfl,⟨t,x,q,by rw[k];exact ht⟩,k⟩
theorem xE {H:Hp}{A:YG->Prop}:∀{ps:List (List Int×U)} {xs:List V},bf K H A (ps.map kj) xs->(∀p∈ps,∃us,p.2=.tup us)->∃bs:List YG,xs=bs.map V.ref/\bs.map (jQ H)=ps.map (·.1)/\(∀b∈bs,Ez H b)/\
  ((ps.map (·.1)).Nodup->∀b∈bs,Rp K H A (kj (jQ H b,mw ps (jQ H b))) (.ref b))
 | [],xs,h,_=>by rw[aaz] at h;unfold bf at h;subst h;exact⟨[],rfl,rfl,⟨λb hb=>(nomatch hb),λ_ b hb=>(nomatch hb)⟩⟩
 |p::ps,xs,h,t=>by
  rw[Yp] at h;unfold bf at h;obtain⟨x,r,rfl,h1,h2⟩:=h;obtain⟨b,rfl,b2,b3⟩:=LC h1 (t p Yb);obtain⟨bs,rfl,c2,c3,c4⟩:=xE h2 λq hq=>t q (Ya _ hq);refine⟨b::bs,rfl,by rw[Yp,Yp,b3,c2],λc hc=>?_,λnd c hc=>?_⟩
  ·rcases Yk.mp hc with rfl|hc
   ·exact b2
   ·exact c3 c hc
  ·rw[Yp] at nd;obtain⟨n1,n2⟩:=aaq.mp nd;rcases Yk.mp hc with rfl|hc
   ·have e:mw (p::ps) (jQ H c)=p.2:=by unfold mw;rw[b3,ZH,beq_self_eq_true];rfl
    rw[e,b3];exact h1
   ·have ne:jQ H c≠p.1:=λz=>n1 (by rw[←z,←c2];exact aaJ hc);have e:mw (p::ps) (jQ H c)=mw ps (jQ H c):=by unfold mw;rw[ZH,beq_eq_false_iff_ne.mpr ne]
    rw[e];exact c4 n2 c hc
theorem F0:nV K (I0 K) .O vj:=λA H vs us z Q h mu e q=>by
 unfold vj at e;split at e
 ·rename_i xs;split at e
  ·rename_i ps e1;split at e
   ·rename_i hl;cases e;obtain⟨v,rfl,p⟩:=h.one;unfold Pk at p;obtain⟨a,ys,rfl,h1,l1,r1⟩:=p;obtain⟨e2,tp⟩:=xD e1;subst e2;obtain⟨bs,rfl,c2,c3,c4⟩:=xE r1 tp;have ln:bs.length=ps.length:=by have:=congrArg aai c2;simpa using this
    refine⟨a,bs,rfl,fX.of h1,by lia,c3,by rw[c2];exact hl.2,λl mF hn hp hw=>?_⟩;have e7:mF.map (jQ H)=sC (ps.map (·.1)):=yz ((hp.map (jQ H)).trans (by rw[c2];exact (fc _).symm)) (Z9.mpr hw) (vc _);refine q _ _ (dF hn _) ⟨l,rfl,hn,?_⟩;have e8:(AM ps).map kj=mF.map λb=>kj (jQ H b,mw ps (jQ H b)):=by
     unfold AM;rw[←e7,Y9,Y9];rfl
    rw[e8];refine cM mu ?_ hn ?_
    ·have all:∀b∈mF,Rp K H A (kj (jQ H b,mw ps (jQ H b))) (.ref b):=λb hb=>c4 hl.2 b (hp.mem_iff.mp hb);clear hw e7 e8 hp
     induction mF with
     |nil=>exact bf.nil
     |cons b mF ih=>exact bf.cons (all b Yb) (ih λc hc=>all c (Ya _ hc))
    ·have:Yf=16777216:=rfl;rw[X8,hp.length_eq];lia
   ·cases e
  ·cases e
 ·cases e
end
end L2
namespace L2
section
variable {G:Gm}
def Pa (K:Ye)(f:Bool->Bool):R2:=λx y H Q=>∃p xs ds dx,y=.ref p/\(fX K H p xs\/gE K H p xs)/\bZ K H dx x/\iz K H ds xs/\(∀d∈ds,cT d<=30)/\Q (.bl (f (ds.any λd=>iP d dx))) H
open Classical in
noncomputable def mD (its:List Yj)(ds:List D)(dx:D)(u:Yj):Bool:=decide (∃(i:Nat) (d:D),its[i]? = some u/\ds[i]? = some d/\iP d dx=true)
open Classical in
def tV {u:Yj}:mD its ds dx u=true↔∃(i:Nat) (d:D),its[i]? = some u/\ds[i]? = some d/\iP d dx=true:=by
 unfold mD;exact decide_eq_true_iff
theorem tW (hl:its.length=ds.length):its.any (mD its ds dx)=ds.any λd=>iP d dx:=by
 rw[aap,abD,abD];constructor
 ·rintro⟨u,_,h⟩;obtain⟨i,d,_,h2,h3⟩:=tV.mp h;exact⟨d,Y6 h2,h3⟩
 ·rintro⟨d,hd,h⟩;obtain⟨i,hi,e⟩:=aay.mp hd;have NJ:i<its.length:=by lia
  exact⟨its[i],Za NJ,tV.mpr ⟨i,d,X7 NJ,by rw[X7 hi,e],h⟩⟩
theorem qa (I:a_ X pins σ H s){A:Zk}(hA:A.units+30<abg){x:V}{v:Yj}(rx:cK x v)(hx:bZ X.K H dx x)(rv:bC xs its)(hs:iz X.K H ds xs)(hd:∀d∈ds,cT d<=30) :
  ∀u∈its,ab6 A s u v (mD its ds dx u):=λu hu=>by
 have l1:=rv.length;have l2:=hs.length;have at_:∀(i:Nat) (d:D),its[i]? = some u->ds[i]? = some d->ab6 A s u v (iP d dx):=λi d h1 h2=>by
  have hi:i<its.length:=(Yr.mp h1).1;have h3:xs[i]? = some (xs[i]'(by lia)):=X7 _;obtain⟨u',g1,g2⟩:=rv.get h3;rw[h1] at g1;cases g1;exact BY I 30 d dx _ x u v A (hd d (Y6 h2)) hA (hs.get h2 h3) hx g2 rx
 by_cases c:∃(i:Nat) (d:D),its[i]? = some u/\ds[i]? = some d/\iP d dx=true
 ·obtain⟨i,d,h1,h2,h3⟩:=c;have e:mD its ds dx u=true:=tV.mpr ⟨i,d,h1,h2,h3⟩;rw[e,←h3];exact at_ i d h1 h2
 ·have e:mD its ds dx u=false:=ZT.mpr λz=>c (tV.mp z);obtain⟨i,hi,eu⟩:=aay.mp hu;have h1:its[i]? = some u:=by rw[X7 hi,eu]
  have h2:ds[i]? = some (ds[i]'(by lia)):=X7 _;have e2:iP (ds[i]'(by lia)) dx=false:=by
   cases z:iP (ds[i]'(by lia)) dx with
   |false=>rfl
   |true=>exact absurd ⟨i,_,h1,h2,z⟩ c
  rw[e,←e2];exact at_ i _ h1 h2
theorem yB (hu:X.A.units+64<abg):jt X (Zn .In) (Pa X.K id):=by
 intro pins s σ H x y v u Q I rx ry h;obtain⟨p,xs,ds,dx,rfl,hq,hx,hs,hd,q⟩:=h;cases ry;rcases hq with hq|hq
 ·obtain⟨its,r,pl,hz⟩:=I.list hq;refine SeqAt.in_listAt (mD its ds dx) pl.isList (λw hw=>qa I (by show X.A.units+1+30<abg;lia) rx hx r hs hd w (by simpa using hw)) ⟨.bl _,H,I,rfl,?_⟩;rw[show its.toArray.any (mD its ds dx)=its.any (mD its ds dx) by simp,tW (by rw[←r.length,←hs.length])];exact q
 ·obtain⟨its,r,pl,hz⟩:=I.tuple hq;refine SeqAt.in_tupleAt (mD its ds dx) pl (λw hw=>qa I (by show X.A.units+1+30<abg;lia) rx hx r hs hd w (by simpa using hw)) ⟨.bl _,H,I,rfl,?_⟩;rw[show its.toArray.any (mD its ds dx)=its.any (mD its ds dx) by simp,tW (by rw[←r.length,←hs.length])];exact q
theorem F1 (hu:X.A.units+64<abg):jt X (Zn .NotIn) (Pa X.K not):=by
 intro pins s σ H x y v u Q I rx ry h;obtain⟨p,xs,ds,dx,rfl,hq,hx,hs,hd,q⟩:=h;cases ry;rcases hq with hq|hq
 ·obtain⟨its,r,pl,hz⟩:=I.list hq;refine SeqAt.notIn_listAt (mD its ds dx) pl.isList (λw hw=>qa I (by show X.A.units+1+30<abg;lia) rx hx r hs hd w (by simpa using hw)) ⟨.bl _,H,I,rfl,?_⟩;rw[show its.toArray.any (mD its ds dx)=its.any (mD its ds dx) by simp,tW (by rw[←r.length,←hs.length])];exact q
 ·obtain⟨its,r,pl,hz⟩:=I.tuple hq;refine SeqAt.notIn_tupleAt (mD its ds dx) pl (λw hw=>qa I (by show X.A.units+1+30<abg;lia) rx hx r hs hd w (by simpa using hw)) ⟨.bl _,H,I,rfl,?_⟩;rw[show its.toArray.any (mD its ds dx)=its.any (mD its ds dx) by simp,tW (by rw[←r.length,←hs.length])];exact q
noncomputable def yC:U->Option (List U)
 | .lst us=>some us
 | .tup us=>some us
 |_=>none
noncomputable def xF (f:Bool->Bool):U->U->R U:=λu w=>match fu u,(yC w).bind d9 with
 |some dx,some ds=>if (ds.all λd=>decide (cT d<=30))=true then .ok (.bl (f (ds.any λd=>iP d dx))) else .stk
 |_,_=>.stk
theorem vk {f:Bool->Bool}:eQ K (Pa K f) .S (xF f):=λA H x y u w z Q hx hy mu e q=>by
 unfold xF at e;split at e
 ·rename_i dx ds h1 h2;split at e
  ·rename_i hd;cases e;cases w with
   |lst us=>
    unfold Pk at hy;obtain⟨a,xs,rfl,h3,l1,r1⟩:=hy;exact⟨a,xs,ds,dx,rfl,.inl (fX.of h3),x_ hx h1,nB r1 h2,λd m=>of_decide_eq_true (Yo.mp hd d m),q _ H (bh.refl _) (show Rp K H A _ _ from gJ)⟩
   |tup us=>
    unfold Pk at hy;obtain⟨a,xs,rfl,h3,l1,r1⟩:=hy;exact⟨a,xs,ds,dx,rfl,.inr (gE.of h3),x_ hx h1,nB r1 h2,λd m=>of_decide_eq_true (Yo.mp hd d m),q _ H (bh.refl _) (show Rp K H A _ _ from gJ)⟩
   |_=>cases h2
  ·cases e
 ·cases e
end
end L2
namespace L2
noncomputable def LD (j:Nat)(p:U->U->R U)(g2:Ev->R (U×Ev)):Ev->R (U×Ev):=λρ=>if live ρ j=true then (g2 ρ).bind λy=>match y.2[j]? with
 |some (some u)=>(p u y.1).bind λz=>.ok (z,y.2)
 |_=>.stk else .stk
section
variable {G:Gm}{b:aaE}{p1:Pos}{b2:Bool}{m2 mr:Md}{g2:Ev->R (U×Ev)}
theorem Pb {op:Operator}{p:U->U->R U}(ho:jt X (aa3 op) r)(hp:eQ X.K r mr p)(hb:DE X G b b2 m2 g2)(hN:X.N[j]? = some x:=by rfl)(hv:GA X.env.scope x:=by first|exact Or.inl rfl|exact Or.inr (Or.inl rfl)|exact Or.inr (Or.inr rfl))(hd:(x==("__debug__":Str))=false:=by decide)(tw:(x==("__classdict__":Str))=false:=by decide)(c:G.is j=true:=by rfl):DE X G (.BinOp (.Name x p1) op b pos) b2 mr (LD j p g2):=⟨(Ma ho (mH hN hv hd tw) hb.un).to λσ H Q h00=>by
 obtain⟨Z,A,ρ,q,f⟩:=h00;unfold LD at f;by_cases hl:live ρ j=true
 ·rw[hV hl] at f;obtain⟨u0,hu0⟩:=xX hl;obtain⟨a0,h0,_⟩:=q.own c hu0;obtain⟨⟨w,ρ2⟩,e2,f⟩:=f.bind;refine⟨.ref a0,h0,Z,A,ρ,q,?_⟩;rw[e2];intro v2 H2 q2 x2 s2 vR;dsimp only at f;split at f
  ·rename_i u hu;obtain⟨a1,k1,_,_,_,k5⟩:=q2.own c hu;rw[h0] at k1;cases k1;obtain⟨z,e3,f⟩:=f.bind;refine hp A H2 _ v2 u w z Q k5.pk vR.pk q2.mu e3 λv H' sm vm=>?_;exact f v H' (q2.same sm) (x2.trans (fY.same sm)) (oE s2 sm) (vm.e q2 sm)
  ·exact f.elim
 ·rw[hU hl] at f;exact f.elim⟩
end
end L2
namespace L2
open Hc.Dw Hc.Ts
noncomputable def Pc:U->U->R Bool
 | .int a,.int b=>.ok (a==b)
 | .bl a,.bl b=>.ok (a==b)
 | .str a,.str b=>.ok (a==b)
 |_,_=>.stk
noncomputable def mE (f:Bool->Bool):U->U->R U:=λu w=>(Pc u w).bind λb=>.ok (.bl (f b))
theorem kE:eQ K Vl .S (mE id):=λA H x y u w z Q hx hy mu e q=>by
 unfold mE at e;obtain⟨b,e1,e2⟩:=R.bind_ok e;unfold Pc at e1;split at e1
 ·cases e1;cases e2;rw[hx.int,hy.int];refine⟨rfl,?_⟩;rw[tH];exact q _ H (bh.refl _) (show Rp K H A _ _ from gJ)
 ·cases e1;cases e2;rw[hx.bl,hy.bl];refine⟨rfl,?_⟩;rw[xR];exact q _ H (bh.refl _) (show Rp K H A _ _ from gJ)
 ·cases e1;cases e2;rw[hx.str,hy.str];refine⟨rfl,?_⟩;rw[tJ];exact q _ H (bh.refl _) (show Rp K H A _ _ from gJ)
 ·cases e1
theorem qb:eQ K Vm .S (mE not):=λA H x y u w z Q hx hy mu e q=>by
 unfold mE at e;obtain⟨b,e1,e2⟩:=R.bind_ok e;unfold Pc at e1;split at e1
 ·cases e1;cases e2;rw[hx.int,hy.int];refine⟨rfl,?_⟩;rw[tH];exact q _ H (bh.refl _) (show Rp K H A _ _ from gJ)
 ·cases e1;cases e2;rw[hx.bl,hy.bl];refine⟨rfl,?_⟩;rw[xR];exact q _ H (bh.refl _) (show Rp K H A _ _ from gJ)
 ·cases e1;cases e2;rw[hx.str,hy.str];refine⟨rfl,?_⟩;rw[tJ];exact q _ H (bh.refl _) (show Rp K H A _ _ from gJ)
 ·cases e1
end L2
namespace HT
noncomputable def lexLe:List Int->List Int->Bool
 | [],_=>true
 |_::_,[]=>false
 |x::xs,y::ys=>if x=y then lexLe xs ys else decide (x<y)
def lexLe_cons (x y:Int)(xs ys:List Int):lexLe (x::xs) (y::ys)=if x=y then lexLe xs ys else decide (x<y):=rfl
def v7:lexLe [] []=true:=rfl
def vn (y:Int)(ys:List Int):lexLe [] (y::ys)=true:=rfl
def vo (x:Int)(xs:List Int):lexLe (x::xs) []=false:=rfl
def Ja (A:Zk)(s:Yv)(a:Int)(t:Tok)(c:Int)(u:Tok)(prog:aa9)(w:abc)(E:Yj->Yv->Prop)(Q:Yj->Yv->Prop)(h:Q (.bool (decide (a<=c))) s) :
  YE (YQ prog w) A (richCompare .LtE (.int a t) (.int c u)) Q E s:=
 (PyProof.Rows.le_int h:YE (YQ prog w) A (Zn .LtE (.int a t) (.int c u)) Q E s)
section
open PySem.SeqAt
open PySem.AutoSeq1 (wpAny_loadPart')
open PySem.MeetsSeq PySem.MeetsSeq2 PySem.MeetsSeq3
theorem v9 (l b:YG)(items dY:Array Yj)(n n2:Nat)(dd Gw:Option YG)(sl Gx:Array (Option Yj))(ns ms:List Int)(hi:ZS items.toList ns)(hj:ZS dY.toList ms) :
  Meets (Builtin.«tuple.__le__» ⟨[.ref l,.ref b],[]⟩)
   (λ_ R s=>s.heap.get? l=some {cls:=.type "tuple",dict:=dd,data:=.seq items n,slots:=sl}/\s.heap.get? b=some {cls:=.type "tuple",dict:=Gw,data:=.seq dY n2,slots:=Gx} /\
    R (.ok (.ret (.bool (lexLe ns ms)))) s):=
 .of_wp λprog w A R s h=>by
  obtain⟨hp,g,d,tk,os⟩:=s;obtain⟨hl,hb,h⟩:=h;have f2:=adf;have z1:items.size=ns.length:=by rw[←hi.length];simp
  have z2:dY.size=ms.length:=by rw[←hj.length];simp
  wp_walk using wpAny_loadPart' hl,wpAny_loadPart' hb,wpAny_forIn_list _ (λrest b s'=>b.1=none/\s'=⟨hp,g,d,tk,os⟩/\∃(vs ws:List Yj) (pq ms':List Int),rest=vs.zip ws/\
   ZS vs pq/\ZS ws ms'/\pq.length+dY.size=ms'.length+items.size/\R (.ok (.ret (.bool (lexLe pq ms')))) ⟨hp,g,d,tk,os⟩) _
  case turn=>
   rintro⟨y,x⟩ rest b s' ⟨zj,rfl,vs,ws,pq,ms',hz,hvi,hwi,cW,hR⟩;cases hvi with
   |nil=>rw[List.zip_nil_left] at hz;cases hz
   |cons a t hvi'=>
    cases hwi with
    |nil=>rw[List.zip_nil_right] at hz;cases hz
    |cons c u hwi'=>
     rw[aat] at hz;injection hz with hyx BE
     injection hyx with hy hx
     subst hy hx;rw[lexLe_cons] at hR;simp only[X_] at cW;obtain⟨e,he,hiff⟩:=zu A.in1 ⟨hp,g,d,tk,os⟩ a t c u;refine X6 (he prog w _ _ ?_);cases e with
     |true=>
      rw[hV (hiff.mp rfl)] at hR;wp_walk;exact⟨rfl,rfl,_,_,_,_,BE,hvi',hwi',by lia,hR⟩
     |false=>
      rw[hU (λq=>absurd (hiff.mpr q) Yd)] at hR;rw[show decide (a<c)=decide (a<=c) from decide_eq_decide.mpr ⟨λz=>by lia,λz=>by
       have:a≠c:=λq=>absurd (hiff.mpr q) Yd;lia⟩] at hR
      have UK:=Ja A.in1 ⟨hp,g,d,tk,os⟩ a t c u prog w;wp_walk using UK;exact⟨_,rfl,by simpa using hR⟩
  case fin=>
   rintro⟨b1,b2⟩ s' ⟨zj,rfl,vs,ws,pq,ms',hz,hvi,hwi,cW,hR⟩;simp only at zj;subst zj;have hv:lexLe pq ms'=decide (items.size<=dY.size):=by
    cases hvi with
    |nil=>
     cases hwi with
     |nil=>
      simp only[YN] at cW;rw[v7];exact (hG (by lia)).symm
     |cons c u hw=>
      simp only[YN,X_] at cW;rw[vn];exact (hG (by lia)).symm
    |cons a t hv=>
     cases hwi with
     |nil=>
      simp only[YN,X_] at cW;rw[vo];exact (hJ (by lia)).symm
     |cons c u hw=>
      rw[aat] at hz;cases hz
   rw[hv] at hR;wp_walk;exact⟨_,rfl,by simpa [ab7] using hR⟩
  case h=>
   exact⟨rfl,rfl,items.toList,dY.toList,ns,ms,rfl,hi,hj,by lia,h⟩
end
section
variable {A:Zk}
theorem le_tupInts {l:YG}{dY:Array Yj}{ms:List Int}(hl:IsTup s.heap l items)(hb:IsTup s.heap b dY)(hi:ZS items.toList ns)(hj:ZS dY.toList ms)(hu:A.units<abg)(h:Q (.bool (lexLe ns ms)) s):YE (YQ prog w) A (Zn .LtE (.ref l) (.ref b)) Q E s:=by
 obtain⟨⟨cls,dd,data,sl⟩,ho,hc,n,hd⟩:=id hl;obtain⟨⟨cls2,Gw,data2,Gx⟩,ho2,hc2,n2,hd2⟩:=id hb;simp only at hc hd hc2 hd2;subst hc hd hc2 hd2;exact richCompare_meets_room (op:=.LtE) ⟨_,ho,rfl⟩ ⟨_,ho2,rfl⟩ PySem.F.slot_tuple_le PySem.F.entry_tuple_le (PySem.F.args_tuple_le_2 _ _) (v9 l b items dY n n2 dd Gw sl Gx ns ms hi hj)
  ⟨ho,ho2,show Value.bool (lexLe ns ms)≠Value.notImplemented/\Q (.bool (lexLe ns ms)) s from ⟨(λx=>nomatch x),h⟩⟩ hu
end
end HT
namespace L2
def Pd (K:Ye):R2:=λx y H Q=>∃a b ns ms,x=.ref a/\y=.ref b/\gE K H a (ns.map V.int)/\gE K H b (ms.map V.int)/\Q (.bl (HT.lexLe ns ms)) H
theorem Pe (hu:X.A.units<abg):jt X (Zn .LtE) (Pd X.K):=by
 intro pins s σ H x y v u Q I rx ry h;obtain⟨a,b,ns,ms,rfl,rfl,ha,hb,q⟩:=h;cases rx;cases ry;obtain⟨its,r1,p1,_⟩:=I.tuple ha;obtain⟨its2,r2,p2,_⟩:=I.tuple hb;have i1:ZS its.toArray.toList ns:=c_ r1;have i2:ZS its2.toArray.toList ms:=c_ r2;exact HT.le_tupInts p1 p2 i1 i2 hu ⟨.bl (HT.lexLe ns ms),H,I,rfl,q⟩
theorem Pf (hu:X.A.units+64<abg):jt X (Zn .Lt) (Oo X.K):=Oq (by lia)
theorem Pg (hu:X.A.units+64<abg):jt X (Zn .LtE) (Pd X.K):=Pe (by lia)
noncomputable def Qm (f:List Int->List Int->Bool):U->U->R U:=λu w=>match u,w with
 | .tup xs,.tup ys=>match eo xs,eo ys with
  |some ns,some ms=>.ok (.bl (f ns ms))
  |_,_=>.stk
 |_,_=>.stk
theorem Jb {f:List Int->List Int->Bool}:eQ K (λx y H Q=>∃a b ns ms,x=.ref a/\y=.ref b/\gE K H a (ns.map V.int)/\gE K H b (ms.map V.int)/\Q (.bl (f ns ms)) H) .S (Qm f):=λA H x y u w z Q hx hy mu e q=>by
 unfold Qm at e;split at e
 ·rename_i xs ys;split at e
  ·rename_i ns ms h1 h2;cases e;unfold Pk at hx hy;obtain⟨a,vs,rfl,q1,l1,r1⟩:=hx;obtain⟨b,ws,rfl,q2,l2,r2⟩:=hy;rw[fM h1] at r1;rw[fM h2] at r2;rw[r1.toI] at q1;rw[r2.toI] at q2;exact⟨a,b,ns,ms,rfl,rfl,gE.of q1,gE.of q2,q _ H (bh.refl _) (show Rp K H A _ _ from gJ)⟩
  ·cases e
 ·cases e
noncomputable def Jc:U->U->R U:=Qm HT.lexLt
noncomputable def LF:U->U->R U:=Qm HT.lexLe
def LG:eQ K (Oo K) .S Jc:=Jb
def LH:eQ K (Pd K) .S LF:=Jb
end L2
namespace Hc
open L2
def Np {f:Bool->Bool}{u w:U}:mE f u w=(Pc u w).bind λb=>.ok (.bl (f b)):=nr rfl
def bo {a b:Int}:Pc (.int a) (.int b)=.ok (a==b):=nr rfl
def rg {a b:Bool}:Pc (.bl a) (.bl b)=.ok (a==b):=nr rfl
def lY {a b:Str}:Pc (.str a) (.str b)=.ok (a==b):=nr rfl
def bq:type_of% @Yp.{0,0}/\type_of% @aaz.{0,0}/\type_of% @X_.{0}/\type_of% @YN.{0}/\type_of% @abB.{0}/\type_of% @Zx.{0}/\type_of% @aaH.{0}/\type_of% @List.replicate_zero.{0}/\type_of% @List.getElem?_cons_zero.{0}/\type_of% @ZE.{0}/\type_of% @YY.{0}/\type_of% @Zb.{0}/\type_of% @acr.{0}/\type_of% @aco.{0}/\type_of% @if_true.{1}/\type_of% @if_false.{1}/\type_of% @Yn/\type_of% @My/\type_of% @Ze/\type_of% @YX/\type_of% @Np/\type_of% @bo/\type_of% @rg/\type_of% @lY:=
 ⟨@Yp.{0,0},@aaz.{0,0},@X_.{0},@YN.{0},@abB.{0},@Zx.{0},@aaH.{0},@List.replicate_zero.{0},@List.getElem?_cons_zero.{0},@ZE.{0},@YY.{0},@Zb.{0},@acr.{0},@aco.{0},@if_true.{1},@if_false.{1},@Yn,@My,@Ze,@YX,@Np,@bo,@rg,@lY⟩
end Hc
noncomputable section
namespace Hc
open PySem L2
noncomputable abbrev CD:Gm:=⟨[false],false,λ_=>False⟩
noncomputable def oR:Ev->SR:=(bA (mC (fF "int" (ai 0)) (G_ (fF "bool" (ai 0)))))
noncomputable def dz:List U->R U:=fB .S 1 oR
noncomputable abbrev F2:Gm:=⟨[false],false,λ_=>False⟩
noncomputable def nH:Ev->SR:=(bA (mC (iE 1 dz (ae (ai 0) ak)) (kO Gu Gu (zqc 0) (ai 0) (zqc 9))))
noncomputable def iI:List U->R U:=fB .S 1 nH
noncomputable abbrev CF:Gm:=⟨[false,false],false,λ_=>False⟩
noncomputable def lZ:Ev->SR:=(aO (iB (ko (gB (fF "tuple" (ai 0)))) (bA (gC (.bl false))) bx)
 (bA (mC (dZ mN (ae (eX (eW (ai 0)) [none] (df 0) cb (iE 1 dz (ae (ai 0) ak))) ak)) (aK (lB id) (dZ uC (ae (ai 0) ak)) (DK (ae (ai 1) ak))))))
noncomputable def eD:List U->R U:=fB .S 2 lZ
noncomputable abbrev yD:Gm:=⟨[false,false],false,λ_=>False⟩
noncomputable def gT:Ev->SR:=(aO (iB (vY (ko (gB (fF "tuple" (ai 0)))) (ko (gB (kO Gu Gu (zqc 1) (dZ dI (ae (ai 0) ak)) (zqc 24))))) (bA (gC (.bl false))) bx)
 (bA (dZ mN (ae (eX (eW (ai 0)) [none,some 1] (df 0) cb (iE 2 eD (ae (ai 0) (ae (ai 1) ak)))) ak))))
noncomputable def eE:List U->R U:=fB .S 2 gT
noncomputable abbrev yE:Gm:=⟨[false,false],false,λ_=>False⟩
noncomputable def gU:Ev->SR:=(aO (iB (vY (ko (gB (fF "tuple" (ai 0)))) (gB (aK (lB id) (dZ dI (ae (ai 0) ak)) (zqc 0)))) (bA (gC (.bl false))) bx)
 (aO (iB (ko (gB (dZ mN (ae (eX (eW (ai 0)) [none,some 1] (df 0) cb (mC (iE 1 dz (ae (ai 0) ak)) (kO Gu Gs (zqc 0) (ai 0) (ai 1)))) ak)))) (bA (gC (.bl false))) bx)
 (bA (aK (lB id) (dZ lU (ae (ai 0) ak)) (dZ dI (ae (ai 0) ak))))))
noncomputable def dO:List U->R U:=fB .S 2 gU
noncomputable abbrev Jd:Gm:=⟨[false,false,false],false,λ_=>False⟩
noncomputable def mV:Ev->SR:=(aO (iB (vY (ko (gB (fF "tuple" (ai 0)))) (gB (aK (mE not) (dZ dI (ae (ai 0) ak)) (zqc 2)))) (bA (gC (.bl false))) bx)
 (aO (bK 2 (zqb 0 0))
 (bA (mC (fF "tuple" (ai 2)) (mC (aK (lB id) (dZ dI (ae (ai 2) ak)) (ai 1)) (dZ mN (ae (eX (eW (ai 2)) [none] (df 0) cb (iE 1 iI (ae (ai 0) ak))) ak)))))))
noncomputable def i5:List U->R U:=fB .S 3 mV
noncomputable abbrev CG:Gm:=⟨[false,false],false,λ_=>False⟩
noncomputable def jR:Ev->SR:=(aO (iB (vY (ko (gB (fF "tuple" (ai 0)))) (gB (aK (lB id) (dZ dI (ae (ai 0) ak)) (zqc 0)))) (bA (gC (.bl false))) bx)
 (aO (iB (ko (gB (dZ mN (ae (eX (eW (ai 0)) [none,some 1] (df 0) cb (iE 2 i5 (ae (ai 0) (ae (ai 1) ak)))) ak)))) (bA (gC (.bl false))) bx)
 (bA (dZ mN (ae (eX (Lg (ae (ai 0) (ae (mG lQ (ai 0) (cE (zqc 1)) cV) ak))) [none,none] (zG 2 (mL (df 0) (mL (df 1) zF))) cb (aK Jc (zqb 0 0) (zqb 1 0))) ak)))))
noncomputable def fQ:List U->R U:=fB .S 2 jR
noncomputable abbrev CH:Gm:=⟨[false,false],false,λ_=>False⟩
noncomputable def hR:Ev->SR:=(aO (iB (gB (aK (lB id) (zqb 0 0) (gC (.str "lay")))) (bA (iE 2 eD (ae (zqb 0 1) (ae (ai 1) ak)))) bx)
 (aO (iB (gB (aK (lB id) (zqb 0 0) (gC (.str "mix")))) (bA (iE 2 eE (ae (zqb 0 1) (ae (ai 1) ak)))) bx)
 (bA (mC (aK (lB id) (zqb 0 0) (gC (.str "look"))) (mC (iE 2 dO (ae (zqb 0 1) (ae (ai 1) ak))) (iE 2 fQ (ae (zqb 0 2) (ae (dZ dI (ae (zqb 0 1) ak)) ak))))))))
noncomputable def dA:Ev->SR:=(aO (iB (vY (ko (gB (fF "tuple" (ai 0)))) (gB (aK (lB id) (dZ dI (ae (ai 0) ak)) (zqc 0)))) (bA (gC (.bl false))) bx)
 (aO (iB (gB (aK (lB id) (zqb 0 0) (gC (.str "again")))) (bA (aK (lB id) (dZ dI (ae (ai 0) ak)) (zqc 1))) bx)
 (aO (iB (gB (aK (lB id) (zqb 0 0) (gC (.str "end")))) (bA (mC (aK (lB id) (dZ dI (ae (ai 0) ak)) (zqc 2)) (iE 2 dO (ae (zqb 0 1) (ae (ai 1) ak))))) bx)
 (aO (iB (gB (aK (mE not) (dZ dI (ae (ai 0) ak)) (zqc 3))) (bA (gC (.bl false))) bx)
 hR))))
noncomputable def b_:List U->R U:=fB .S 2 dA
noncomputable abbrev vp:Gm:=⟨[false,true,false],false,λ_=>False⟩
noncomputable def bP:Ev->SR:=(iB (vY (gB (aK (lB id) (zqb 2 0) (gC (.str "lay")))) (gB (aK (lB id) (zqb 2 0) (gC (.str "mix"))))) (lq (gM "list" 1 lR (ae (zqb 2 2) ak))) (iB (gB (aK (lB id) (zqb 2 0) (gC (.str "look")))) (lq (gM "list" 1 iR (ae (eX (eW (zqb 2 2)) [none] (df 0) cb (zqb 0 1)) ak))) bx))
noncomputable def jS:Ev->SR:=(aO (bK 1 (dh ak))
 (aO (qK (eW (ai 0)) (df 2)
 bP)
 (bA (ai 1))))
noncomputable def dB:List U->R U:=fB .O 3 jS
noncomputable abbrev F3:Gm:=⟨[false,false,false,false,false],false,λ_=>False⟩
noncomputable def hI:Ev->R (Bool×Ev):=(gB (aK J7 (dZ dI (ae (ai 2) ak)) (zqc 0)))
noncomputable def bI:Ev->SR:=(aO (Hm 3 (Rk (λi j=>i+j)) (dZ dI (ae (ai 2) ak)))
 (aO (Hm 4 (Rk (λi j=>i+j)) (zqc 1))
 (aO (iB (vY (gB (aK J7 (ai 3) (zqc 60))) (gB (aK J7 (ai 4) (zqc 12)))) (bA (gC (.bl false))) bx)
 (aO (iB (ko (gB (dZ mN (ae (eX (eW (ai 2)) [none,some 1] (df 0) cb (iE 2 b_ (ae (ai 0) (ae (ai 1) ak)))) ak)))) (bA (gC (.bl false))) bx)
 (bK 2 (iE 1 dB (ae (ai 2) ak)))))))
noncomputable def rh:Ev->SR:=(aO (bK 2 (dh (ae (ai 0) ak)))
 (aO (bK 3 (zqc 0))
 (aO (bK 4 (zqc 0))
 (aO (iF hI
 bI 1000)
 (bA (gC (.bl true)))))))
noncomputable def lE:List U->R U:=fB .S 5 rh
noncomputable abbrev AN:Gm:=⟨[false,true,false],false,λ_=>False⟩
noncomputable def hL:Ev->R (Bool×Ev):=(gB (aK J7 (dZ dI (ae (ai 2) ak)) (zqc 0)))
noncomputable def Qn:Ev->SR:=(aO (lq (gM "list" 1 lR (ae (ai 2) ak)))
 (bK 2 (iE 1 dB (ae (ai 2) ak))))
noncomputable def mW:Ev->SR:=(aO (bK 1 (dh ak))
 (aO (bK 2 (dh (ae (ai 0) ak)))
 (aO (iF hL
 Qn 1000)
 (bA (ai 1)))))
noncomputable def i6:List U->R U:=fB .O 3 mW
noncomputable abbrev CI:Gm:=⟨[false],false,λ_=>False⟩
noncomputable def oT:Ev->SR:=(bA (dZ p_ (ae (eX (eW (iE 1 i6 (ae (ai 0) ak))) [none] (df 0) cb (dZ dI (ae (ai 0) ak))) ak)))
noncomputable def jT:List U->R U:=fB .S 1 oT
noncomputable abbrev vq:Gm:=⟨[false,false],false,λ_=>False⟩
noncomputable def gW:Ev->SR:=(aO (iB (gB (aK Gs (ai 1) (dZ dI (ae (ai 0) ak)))) (bA (aK cO (ai 0) (ai 1))) bx)
 (bA (zqc 0)))
noncomputable def d7:List U->R U:=fB .S 2 gW
noncomputable abbrev yF:Gm:=⟨[false,false,false],false,λ_=>False⟩
noncomputable def jw:Ev->SR:=(aO (bK 2 (iE 2 d7 (ae (ai 0) (ae (ai 1) ak))))
 (aO (iB (gB (aK Ui (ai 2) (aK K5 (zqc 10) (zqc 18)))) (bA (dh (ae (aK sV (ai 2) (aK K5 (zqc 10) (zqc 18))) (ae (gC (.bl true)) ak)))) bx)
 (bA (dh (ae (aK zQ (ai 2) (zqc 2147483647)) (ae (gC (.bl false)) ak))))))
noncomputable def gX:List U->R U:=fB .O 3 jw
noncomputable abbrev AO:Gm:=⟨[true,false,false,false],true,λ_=>False⟩
noncomputable def kF:Ev->SR:=(aO (iB (gB (zqb 0 1)) (aO (bK 2 (aK zQ (zqb 0 0) (ai 1)))
 (aO (Dz 0 (aK zP (zqb 0 0) (ai 1)) (zqc 0))
 (bA (ai 2)))) bx)
 (aO (Dz 0 (aK zQ (aK bM (aK og (zqb 0 0) (zqc 48271)) (zqc 29)) (zqc 2147483647)) (zqc 0))
 (aO (bK 3 (aK zQ (aK bM (aK bM (aK og (zqb 0 0) (zqb 0 0)) (aK og (zqc 39373) (zqb 0 0))) (zqc 7)) (zqc 2147483629)))
 (aO (bK 3 (aK zQ (aK bM (aK og (ai 3) (ai 3)) (aK og (zqc 16807) (ai 3))) (zqc 2147483587)))
 (bA (aK zQ (aK zP (ai 3) (zqc 8)) (ai 1)))))))
noncomputable def aA:List U->R (U×U):=kQ 4 kF
noncomputable abbrev iJ:Gm:=⟨[true,false,false],true,λ_=>False⟩
noncomputable def l4:Ev->SR:=(aO (bK 2 (iY 2 0 aA (ae (zqc 4) ak)))
 (aO (iB (gB (aK Gs (ai 2) (zqc 2))) (bA (dZ fO (ae (xZ iJ (iZ (ae (ai 1) ak)) [none,some 0] (df 0) cb (iY 2 1 aA (ae (zqc 2) ak))) ak))) bx)
 (bA (dZ fO (ae (xZ iJ (iZ (ae (ai 1) ak)) [none,some 0,some 2] (df 0) cb (iY 2 1 aA (ae (aK cO (dh (ae (zqc 3) (ae (zqc 10) ak))) (aK sV (ai 2) (zqc 2))) ak))) ak)))))
noncomputable def iK:List U->R (U×U):=kQ 3 l4
noncomputable abbrev l5:Gm:=⟨[true,false,true],true,λ_=>False⟩
noncomputable def l7:Ev->SR:=(aO (bK 2 (DK (ae (ai 1) ak)))
 (bA (dZ fO (ae (xZ l5 (iZ (ae (ai 1) ak)) [none,some 2,some 0] (df 0) cb (gM "list" 1 qP (ae (iY 2 2 aA (ae (dZ dI (ae (ai 1) ak)) ak)) ak))) ak))))
noncomputable def cv:List U->R (U×U):=kQ 3 l7
noncomputable abbrev AQ:Gm:=⟨[false,false],false,λ_=>False⟩
noncomputable def mX:Ev->SR:=(bA (dZ fO (ae (eX (eW (ai 1)) [none,some 0] (df 0) cb (aK cO (ai 1) (ai 0))) ak)))
noncomputable def cF:List U->R U:=fB .S 2 mX
noncomputable abbrev jU:Gm:=⟨[true,false,false,false,false,false,false,false,false,true],true,λ_=>False⟩
noncomputable def dC:Ev->SR:=(aO (bK 2 (Hr (ae (ai 1) ak)))
 (aO (bK 3 (iY 2 0 aA (ae (zqc 6) ak)))
 (aO (iB (gB (aK (mE id) (ai 3) (zqc 0))) (bA (dZ fO (ae (eX (iZ (ae (ai 1) ak)) [none,some 2] (df 0) cb (aK bM (mG lQ (ai 1) (cE (ai 0)) cV) (mG lQ (ai 1) cV (cE (ai 0))))) ak))) bx)
 (aO (iB (gB (aK (mE id) (ai 3) (zqc 1))) (aO (bK 4 (iY 2 0 cv (ae (ai 1) ak)))
 (bA (az (ae (ai 2) (ae (ai 4) ak))))) bx)
 (aO (iB (gB (aK (mE id) (ai 3) (zqc 2))) (aO (bK 5 (aK zP (ai 1) (zqc 2)))
 (bA (az (ae (ai 2) (ae (aK bM (aK bM (mG lQ (ai 2) (cE (ai 5)) (cE (aK og (zqc 2) (ai 5)))) (mG lQ (ai 2) cV (cE (ai 5)))) (mG lQ (ai 2) (cE (aK og (zqc 2) (ai 5))) cV)) ak))))) bx)
 (aO (iB (gB (aK (mE id) (ai 3) (zqc 3))) (aO (bK 6 (dh (ae (az ak) ak)))
 (aO (bK 7 (dZ zW (ae (ai 1) (ae (aK bM (zqc 2) (iY 2 0 aA (ae (zqc 3) ak))) ak))))
 (aO (qK (iZ (ae (ai 7) ak)) (df 8)
 (aO (bK 9 (dh ak))
 (aO (qK (eW (ai 6)) (df 4)
 (lq (gM "list" 9 iR (ae (eX (iZ (ae (aK bM (ai 8) (zqc 1)) ak)) [none,some 4,some 8] (df 0) cb (aK bM (aK bM (mG lQ (ai 1) cV (cE (ai 0))) (az (ae (ai 2) ak))) (mG lQ (ai 1) (cE (ai 0)) cV))) ak))))
 (zJ 6 9))))
 (bA (dZ fO (ae (eX (eW (ai 6)) [none,some 2,some 7] (df 0) cb (aK bM (ai 0) (mG lQ (ai 1) (cE (ai 2)) cV))) ak)))))) bx)
 (bA (dZ fO (ae (xZ jU (iZ (ae (aK bM (zqc 1) (iY 2 0 aA (ae (zqc 4) ak))) ak)) [none,some 0,some 1] (df 0) cb (iY 2 1 cv (ae (ai 2) ak))) ak)))))))))
noncomputable def br:List U->R (U×U):=kQ 10 dC
noncomputable abbrev CJ:Gm:=⟨[true,false,false],true,λ_=>False⟩
noncomputable def oU:Ev->SR:=(aO (bK 2 (iY 2 0 cv (ae (ai 1) ak)))
 (bA (az (ae (gC (.str "end")) (ae (mG lQ (ai 2) cV (cE (aK bM (zqc 1) (iY 2 0 aA (ae (aK cO (dh (ae (zqc 2) (ae (ai 1) ak))) (iY 2 0 aA (ae (zqc 2) ak))) ak))))) ak)))))
noncomputable def fR:List U->R (U×U):=kQ 3 oU
noncomputable abbrev kG:Gm:=⟨[true,false,false,false,false,false,false,true,false,false,false],true,λ_=>False⟩
noncomputable abbrev sD:Gm:=⟨[true,false,false,false,false,false,false,false,true],true,λ_=>False⟩
mutual
noncomputable def fZ:Nat->Ev->SR
 |0=>λ_=>.stk
 |n+1=>let r__law_plan:=kQ 9 (cG n)
  (aO (bK 4 (dZ dI (ae (zqb 1 0) ak)))
 (aO (bK 5 (mG lQ (iY 2 0 cv (ae (ai 4) ak)) cV (cE (aK bM (zqc 1) (aK og (iY 2 0 aA (ae (zqc 2) ak)) (dZ K7 (ae (aK J7 (ai 4) (zqc 1)) ak)))))))
 (aO (bK 6 (dZ fH (ae (eX (eW (ai 1)) [none,some 5] (df 0) cb (iE 2 cF (ae (ai 0) (ae (ai 1) ak)))) ak)))
 (aO (iB (gB (aK J7 (dZ dI (ae (ai 6) ak)) (zqc 4))) (bA (iY 2 0 fR (ae (ai 4) ak))) bx)
 (aO (bK 7 (dh ak))
 (aO (qK (eW (ai 6)) (df 8)
 (aO (bK 9 (eX (eW (ai 1)) [none,some 8,some 5] (df 0) (gB (aK (lB id) (iE 2 cF (ae (ai 0) (ae (ai 2) ak))) (ai 1))) (ai 0)))
 (lq (gM "list" 7 lR (ae (az (ae (ai 8) (ae (iY 4 0 r__law_plan (ae (ai 9) (ae (aK sV (ai 2) (zqc 1)) (ae (ai 3) ak)))) ak))) ak)))))
 (aO (iB (gB (aK (mE id) (iY 2 0 aA (ae (zqc 6) ak)) (zqc 0))) (aO (bK 10 (dZ fO (ae (xZ kG (eW (ai 5)) [none,some 0] (df 0) cb (iY 2 1 aA (ae (zqc 10) ak))) ak)))
 (iB (gB (aK (xF not) (ai 10) (ai 6))) (bK 7 (dZ vj (ae (LD 7 bM (dh (ae (az (ae (ai 10) (ae (iY 2 0 fR (ae (ai 4) ak)) ak))) ak))) ak))) bx)) bx)
 (bA (az (ae (gC (.str "look")) (ae (ai 5) (ae (dZ fO (ae (ai 7) ak)) ak))))))))))))
noncomputable def cG:Nat->Ev->SR
 |0=>λ_=>.stk
 |n+1=>let r__law_look:=kQ 11 (fZ n)
  let r__law_plan:=kQ 9 (cG n)
  (aO (bK 4 (dZ dI (ae (zqb 1 0) ak)))
 (aO (bK 5 (iY 2 0 aA (ae (zqc 12) ak)))
 (aO (iB (vY (gB (aK Gs (ai 2) (zqc 2))) (gB (aK (mE id) (ai 5) (zqc 0)))) (bA (iY 2 0 fR (ae (ai 4) ak))) bx)
 (aO (iB (mK (gB (aK (mE id) (ai 5) (zqc 1))) (gB (ai 3))) (bA (az (ae (gC (.str "again")) ak))) bx)
 (aO (iB (gB (aK Gs (ai 5) (zqc 4))) (aO (bK 6 (iY 2 0 cv (ae (ai 4) ak)))
 (bA (az (ae (gC (.str "lay")) (ae (ai 6) (ae (iY 4 0 r__law_plan (ae (dZ fH (ae (eX (eW (ai 1)) [none,some 6] (df 0) cb (iE 2 cF (ae (ai 0) (ae (ai 1) ak)))) ak)) (ae (aK sV (ai 2) (zqc 1)) (ae (ai 3) ak)))) ak)))))) bx)
 (aO (iB (gB (aK Gs (ai 5) (zqc 8))) (aO (bK 7 (iY 2 0 br (ae (ai 4) ak)))
 (aO (bK 8 (dh ak))
 (aO (qK (eW (ai 7)) (df 6)
 (lq (gM "list" 8 iR (ae (eX (eW (ai 1)) [none,some 6] (df 0) cb (iE 2 cF (ae (ai 0) (ae (ai 1) ak)))) ak))))
 (bA (az (ae (gC (.str "mix")) (ae (ai 7) (ae (iY 4 0 r__law_plan (ae (dZ fH (ae (ai 8) ak)) (ae (aK sV (ai 2) (zqc 1)) (ae (ai 3) ak)))) ak)))))))) bx)
 (bA (iY 4 0 r__law_look (ae (ai 1) (ae (ai 2) (ae (ai 3) ak)))))))))))
end
noncomputable def kH (n:Nat):List U->R (U×U):=kQ 11 (fZ n)
noncomputable def bU (n:Nat):List U->R (U×U):=kQ 9 (cG n)
noncomputable abbrev sE:Gm:=⟨[false],false,λ_=>False⟩
noncomputable def f9:Nat->Ev->SR
 |0=>λ_=>.stk
 |n+1=>let r__law_size:=fB .S 1 (f9 n)
  (aO (iB (gB (aK (xF id) (zqb 0 0) (az (ae (gC (.str "lay")) (ae (gC (.str "mix")) ak))))) (bA (aK bM (zqc 1) (iE 1 r__law_size (ae (zqb 0 2) ak)))) bx)
 (aO (iB (gB (aK (mE id) (zqb 0 0) (gC (.str "look")))) (bA (aK bM (zqc 1) (dZ p_ (ae (eX (eW (zqb 0 2)) [none] (df 0) cb (iE 1 r__law_size (ae (zqb 0 1) ak))) ak)))) bx)
 (bA (zqc 1))))
noncomputable def fg (n:Nat):List U->R U:=fB .S 1 (f9 n)
noncomputable abbrev yG:Gm:=⟨[true,false,false,false,false],true,λ_=>False⟩
noncomputable def jx:Ev->SR:=(aO (bK 4 (iY 4 0 (bU 8) (ae (dZ fH (ae (ai 1) ak)) (ae (ai 2) (ae (ai 3) ak)))))
 (bA (Ua (gB (aK Gs (iE 1 (fg 20) (ae (ai 4) ak)) (zqc 61))) (ai 4) (az (ae (gC (.str "end")) (ae (az (ae (zqc 0) ak)) ak))))))
noncomputable def gY:List U->R (U×U):=kQ 5 jx
noncomputable abbrev v_:Gm:=⟨[false,false,false],false,λ_=>False⟩
noncomputable def iU:Ev->SR:=(bA (mC (fF "int" (ai 0)) (mC (G_ (fF "bool" (ai 0))) (kO Gu Gu (ai 1) (ai 0) (ai 2)))))
noncomputable def cu:List U->R U:=fB .S 3 iU
noncomputable abbrev qc:Gm:=⟨[false,false],false,λ_=>False⟩
noncomputable def dP:Ev->SR:=(aO (iB (vY (ko (gB (fF "tuple" (ai 0)))) (vY (gB (aK (lB id) (ai 0) (az ak))) (ko (gB (dZ mN (ae (eX (eW (ai 0)) [none,some 1] (df 0) cb (iE 3 cu (ae (ai 0) (ae (zqc 0) (ae (aK sV (ai 1) (zqc 1)) ak))))) ak)))))) (bA (gC (.bl false))) bx)
 (bA (aK (lB id) (dZ lU (ae (ai 0) ak)) (dZ dI (ae (ai 0) ak)))))
noncomputable def bu:List U->R U:=fB .S 2 dP
noncomputable abbrev sX:Gm:=⟨[false,false,false,false,false],false,λ_=>False⟩
noncomputable def bW:Ev->SR:=(aO (iB (vY (ko (gB (fF "tuple" (ai 4)))) (vY (gB (aK (mE not) (dZ dI (ae (ai 4) ak)) (zqc 2))) (vY (ko (gB (fF "tuple" (zqb 4 0)))) (gB (aK (mE not) (dZ dI (ae (zqb 4 0) ak)) (ai 1)))))) (bA (gC (.bl false))) bx)
 (aO (iB (vY (ko (gB (dZ mN (ae (eX (eW (zqb 4 0)) [none] (df 0) cb (iE 3 cu (ae (ai 0) (ae (zqc 0) (ae (zqc 9) ak))))) ak)))) (mK (gB (aK (zT not) (ai 3) (gC .non))) (gB (aK LF (zqb 4 0) (ai 3))))) (bA (gC (.bl false))) bx)
 (bK 3 (zqb 4 0))))
noncomputable def jj:Ev->SR:=(aO (iB (vY (ko (gB (fF "tuple" (ai 0)))) (gB (aK (lB id) (ai 0) (az ak)))) (bA (gC (.bl false))) bx)
 (aO (bK 3 (gC .non))
 (aO (qK (eW (ai 0)) (df 4)
 bW)
 (bA (gC (.bl true))))))
noncomputable def eL:List U->R U:=fB .S 5 jj
noncomputable abbrev ow:Gm:=⟨[false,false,false,false],false,λ_=>False⟩
noncomputable def bT (rc:List U->R U):Ev->SR:=(aO (iB (gB (aK (zT id) (ai 2) (gC .non))) (bA (gC .non)) bx)
 (aO (bK 3 (eX (eW (ai 2)) [none,some 1] (df 0) cb (iE 2 rc (ae (ai 0) (ae (ai 1) ak)))))
 (aO (iB (gB (aK (xF id) (gC .non) (ai 3))) (bA (gC .non)) bx)
 (bA (az (ae (aK bM (zqc 1) (dZ p_ (ae (eX (eW (ai 3)) [none] (df 0) cb (zqb 0 0)) ak))) (ae (aK bM (zqc 1) (dZ AK (ae (eX (eW (ai 3)) [none] (df 0) cb (zqb 0 1)) ak))) ak)))))))
noncomputable def cR (rc:List U->R U):Ev->SR:=(aO (iB (mK (gB (aK (lB id) (dZ dI (ae (ai 0) ak)) (zqc 3))) (mK (gB (aK (lB id) (zqb 0 0) (gC (.str "lay")))) (mK (gB (iE 2 bu (ae (zqb 0 1) (ae (ai 1) ak)))) (gB (aK (lB id) (dZ dI (ae (zqb 0 1) ak)) (ai 1)))))) (bK 2 (dh (ae (zqb 0 2) ak))) bx)
 (aO (iB (mK (gB (aK (lB id) (dZ dI (ae (ai 0) ak)) (zqc 3))) (mK (gB (aK (lB id) (zqb 0 0) (gC (.str "mix")))) (mK (gB (fF "tuple" (zqb 0 1))) (gB (kO Gu Gu (zqc 1) (dZ dI (ae (zqb 0 1) ak)) (zqc 24)))))) (iB (gB (dZ mN (ae (eX (eW (zqb 0 1)) [none,some 1] (df 0) cb (mC (iE 2 bu (ae (ai 0) (ae (ai 1) ak))) (aK (lB id) (dZ dI (ae (ai 0) ak)) (ai 1)))) ak))) (bK 2 (dh (ae (zqb 0 2) ak))) bx) bx)
 (aO (iB (mK (gB (aK (lB id) (dZ dI (ae (ai 0) ak)) (zqc 3))) (mK (gB (aK (lB id) (zqb 0 0) (gC (.str "look")))) (gB (iE 2 bu (ae (zqb 0 1) (ae (ai 1) ak)))))) (iB (gB (iE 3 eL (ae (zqb 0 2) (ae (dZ dI (ae (zqb 0 1) ak)) (ae (ai 1) ak))))) (bK 2 (eX (eW (zqb 0 2)) [none] (df 0) cb (zqb 0 1))) bx) bx)
 (bT rc))))
noncomputable def bw:Nat->Ev->SR
 |0=>λ_=>.stk
 |n+1=>let r__law_counts:=fB .S 4 (bw n)
  (aO (iB (vY (ko (gB (fF "tuple" (ai 0)))) (vY (gB (aK (lB id) (dZ dI (ae (ai 0) ak)) (zqc 0))) (ko (gB (fF "str" (zqb 0 0)))))) (bA (gC .non)) bx)
 (aO (iB (gB (aK (lB id) (ai 0) (az (ae (gC (.str "again")) ak)))) (bA (az (ae (zqc 1) (ae (zqc 1) ak)))) bx)
 (aO (iB (mK (gB (aK (lB id) (dZ dI (ae (ai 0) ak)) (zqc 2))) (mK (gB (aK (lB id) (zqb 0 0) (gC (.str "end")))) (gB (iE 2 bu (ae (zqb 0 1) (ae (ai 1) ak)))))) (bA (az (ae (zqc 1) (ae (zqc 1) ak)))) bx)
 (aO (bK 2 (gC .non))
 (cR r__law_counts)))))
noncomputable def aS (n:Nat):List U->R U:=fB .S 4 (bw n)
noncomputable abbrev yH:Gm:=⟨[true,false,false,false,false,false,false],true,λ_=>False⟩
noncomputable def oA:Ev->SR:=(iB (gB (aK (xF id) (zqb 1 0) (az (ae (gC (.str "end")) (ae (gC (.str "lay")) (ae (gC (.str "look")) ak)))))) (aO (bK 3 (zqb 1 1))
 (aO (bK 4 (iY 2 0 aA (ae (dZ dI (ae (ai 3) ak)) ak)))
 (aO (bK 5 (aK cO (dh (ae (dZ dI (ae (ai 3) ak)) (ae (zqc 8) (ae (Qe Cb (zqc 1)) (ae (gC .non) (ae (gC (.bl true)) (ae (zqb 3 0) ak))))))) (iY 2 0 aA (ae (zqc 6) ak))))
 (bK 2 (aK bM (ai 2) (aK ou (dh (ae (aK bM (az (ae (zqb 1 0) (ae (aK bM (aK bM (mG lQ (ai 3) cV (cE (ai 4))) (az (ae (ai 5) ak))) (mG lQ (ai 3) (cE (aK bM (ai 4) (zqc 1))) cV)) ak))) (mG lQ (ai 1) (cE (zqc 2)) cV)) (ae (aK bM (az (ae (zqb 1 0) (ae (mG lQ (ai 3) (cE (zqc 1)) cV) ak))) (mG lQ (ai 1) (cE (zqc 2)) cV)) ak))) (zqc 4))))))) bx)
noncomputable def oB:Ev->SR:=(iB (gB (aK (lB id) (zqb 1 0) (gC (.str "mix")))) (aO (bK 6 (aK cO (zqb 1 1) (zqc 0)))
 (aO (bK 2 (aK bM (ai 2) (aK ou (dh (ae (az (ae (gC (.str "mix")) (ae (aK rO (zqb 1 1) (zqc 25)) (ae (zqb 1 2) ak)))) (ae (az (ae (gC (.str "mix")) (ae (aK bM (zqb 1 1) (az (ae (mG lQ (ai 6) cV (cE (Qe Cb (zqc 1)))) ak))) (ae (zqb 1 2) ak)))) ak))) (zqc 3))))
 (bK 2 (aK bM (ai 2) (aK ou (dh (ae (az (ae (gC (.str "mix")) (ae (dZ w_ (ae (zqb 1 1) ak)) (ae (zqb 1 2) ak)))) (ae (az (ae (gC (.str "mix")) (ae (aK rO (az (ae (ai 6) ak)) (zqc 24)) (ae (zqb 1 2) ak)))) ak))) (zqc 3)))))) bx)
noncomputable def oC:Ev->SR:=(bA (aK cO (ai 2) (iY 2 0 aA (ae (dZ dI (ae (ai 2) ak)) ak))))
noncomputable def gZ:Ev->SR:=(aO (bK 2 (dh (ae (gC .non) (ae (az ak) (ae (gC (.str "end")) (ae (az (ae (gC (.str "again")) (ae (zqc 1) ak))) (ae (az (ae (gC (.str "end")) ak)) (ae (az (ae (gC (.str "end")) (ae (az ak) ak))) (ae (az (ae (gC (.str "end")) (ae (az (ae (zqc 0) (ae (zqc 0) ak))) ak))) (ae (az (ae (gC (.str "end")) (ae (dh (ae (zqc 0) ak)) ak))) (ae (az (ae (gC (.str "end")) (ae (az (ae (gC (.bl true)) ak)) ak))) (ae (gC (.bl true)) ak))))))))))))
 (aO (bK 2 (aK bM (ai 2) (dh (ae (az (ae (gC (.str "end")) (ae (az (ae (Qe Cb (zqc 1)) ak)) ak))) (ae (az (ae (gC (.str "mix")) (ae (az ak) (ae (ai 1) ak)))) (ae (az (ae (gC (.str "lay")) (ae (az (ae (zqc 0) ak)) (ae (ai 1) ak)))) (ae (dh (ae (gC (.str "again")) ak)) (ae (az (ae (gC (.str "look")) (ae (az (ae (zqc 0) ak)) (ae (az ak) ak)))) (ae (aK bM (ai 1) (az (ae (zqc 0) ak))) ak)))))))))
 (aO (bK 2 (aK bM (ai 2) (dh (ae (az (ae (gC (.str "look")) (ae (az (ae (zqc 0) ak)) (ae (az (ae (az (ae (az (ae (zqc 0) ak)) (ae (ai 1) ak))) (ae (az (ae (az (ae (zqc 0) ak)) (ae (ai 1) ak))) ak))) ak)))) (ae (az (ae (gC (.str "look")) (ae (az (ae (zqc 0) ak)) (ae (az (ae (az (ae (az (ae (zqc 1) ak)) (ae (ai 1) ak))) (ae (az (ae (az (ae (zqc 0) ak)) (ae (ai 1) ak))) ak))) ak)))) ak)))))
 (aO (bK 2 (aK bM (ai 2) (dh (ae (az (ae (gC (.str "look")) (ae (az (ae (zqc 0) ak)) (ae (az (ae (az (ae (az (ae (zqc 10) ak)) (ae (ai 1) ak))) ak)) ak)))) (ae (az (ae (gC (.str "look")) (ae (az (ae (zqc 0) ak)) (ae (az (ae (az (ae (az (ae (zqc 0) (ae (zqc 0) ak))) (ae (ai 1) ak))) ak)) ak)))) (ae (az (ae (gC (.str "Again")) ak)) (ae (dZ w_ (ae (ai 1) ak)) ak)))))))
 (aO oA
 (aO oB
 oC))))))
noncomputable def eF:List U->R (U×U):=kQ 7 gZ
noncomputable abbrev sF:Gm:=⟨[true,false,false,false],true,λ_=>False⟩
noncomputable def eA:Nat->Ev->SR
 |0=>λ_=>.stk
 |n+1=>let r__law_bent:=kQ 4 (eA n)
  (aO (iB (mK (gB (aK (xF id) (zqb 1 0) (az (ae (gC (.str "lay")) (ae (gC (.str "mix")) ak))))) (gB (aK J7 (iY 2 0 aA (ae (zqc 3) ak)) (zqc 0)))) (bA (aK bM (mG lQ (ai 1) cV (cE (zqc 2))) (az (ae (iY 2 0 r__law_bent (ae (zqb 1 2) ak)) ak)))) bx)
 (aO (iB (mK (gB (aK (lB id) (zqb 1 0) (gC (.str "look")))) (gB (aK J7 (iY 2 0 aA (ae (zqc 3) ak)) (zqc 0)))) (aO (bK 2 (iY 2 0 aA (ae (dZ dI (ae (zqb 1 2) ak)) ak)))
 (aO (bK 3 (az (ae (aK cO (aK cO (zqb 1 2) (ai 2)) (zqc 0)) (ae (iY 2 0 r__law_bent (ae (aK cO (aK cO (zqb 1 2) (ai 2)) (zqc 1)) ak)) ak))))
 (bA (aK bM (mG lQ (ai 1) cV (cE (zqc 2))) (az (ae (aK bM (aK bM (mG lQ (zqb 1 2) cV (cE (ai 2))) (az (ae (ai 3) ak))) (mG lQ (zqb 1 2) (cE (aK bM (ai 2) (zqc 1))) cV)) ak)))))) bx)
 (bA (iY 2 0 eF (ae (ai 1) ak)))))
noncomputable def eB (n:Nat):List U->R (U×U):=kQ 4 (eA n)
noncomputable abbrev yI:Gm:=⟨[false,false,false,false,false],false,λ_=>False⟩
noncomputable def fx:Ev->SR:=(aO (bK 2 (iE 2 lE (ae (ai 0) (ae (ai 1) ak))))
 (aO (bK 3 (iE 2 (aS 24) (ae (ai 0) (ae (ai 1) ak))))
 (aO (bK 4 (mC (aK (zT not) (ai 3) (gC .non)) (mC (aK Gs (zqb 3 0) (zqc 61)) (aK Gs (zqb 3 1) (zqc 13)))))
 (aO (iB (vY (ko (gB (fF "bool" (ai 2)))) (gB (aK (mE not) (ai 2) (ai 4)))) (bA (gC (.bl false))) bx)
 (bA (T_ (G_ (ai 4)) (aK (lB id) (iE 1 jT (ae (ai 0) ak)) (zqb 3 0))))))))
noncomputable def eG:List U->R U:=fB .S 5 fx
noncomputable abbrev yJ:Gm:=⟨[true,false,false,false,false,false,false],true,λ_=>False⟩
noncomputable def bF:Ev->SR:=(bK 1 (az (ae (gC (.str "lay")) (ae (az (ae (zqc 0) ak)) (ae (ai 1) ak)))))
noncomputable def bG:Ev->SR:=(aO (bK 3 (eX (iZ (ae (zqc 9) ak)) [none] (df 0) cb (az (ae (az (ae (ai 0) ak)) (ae (az (ae (gC (.str "lay")) (ae (az (ae (zqc 0) ak)) (ae (az (ae (gC (.str "lay")) (ae (az (ae (zqc 0) ak)) (ae (az (ae (gC (.str "lay")) (ae (az (ae (zqc 0) ak)) (ae (az (ae (gC (.str "lay")) (ae (az (ae (zqc 0) ak)) (ae (az (ae (gC (.str "end")) (ae (az (ae (zqc 0) ak)) ak))) ak)))) ak)))) ak)))) ak)))) ak)))))
 (aO (bK 4 (az (ae (gC (.str "look")) (ae (az (ae (zqc 0) ak)) (ae (aK bM (az (ae (az (ae (az (ae (zqc 0) ak)) (ae (az (ae (gC (.str "end")) (ae (az (ae (zqc 0) ak)) ak))) ak))) ak)) (dZ fO (ae (eX (Hi (ae (zqc 1) (ae (zqc 10) ak))) [none] (df 0) cb (az (ae (az (ae (ai 0) ak)) (ae (az (ae (gC (.str "again")) ak)) ak)))) ak))) ak)))))
 (aO (bK 5 (az (ae (gC (.str "look")) (ae (az (ae (zqc 0) ak)) (ae (aK bM (dZ fO (ae (ai 3) ak)) (az (ae (az (ae (az (ae (zqc 9) ak)) (ae (ai 4) ak))) ak))) ak)))))
 (aO (bK 6 (az (ae (gC (.str "look")) (ae (az (ae (zqc 0) ak)) (ae (az (ae (az (ae (az (ae (zqc 0) ak)) (ae (ai 5) ak))) (ae (az (ae (az (ae (zqc 1) ak)) (ae (az (ae (gC (.str "again")) ak)) ak))) (ae (az (ae (az (ae (zqc 2) ak)) (ae (az (ae (gC (.str "again")) ak)) ak))) ak)))) ak)))))
 (bA (dh (ae (ai 1) (ae (ai 5) (ae (az (ae (gC (.str "lay")) (ae (az (ae (zqc 0) ak)) (ae (ai 5) ak)))) (ae (ai 6) (ae (az (ae (gC (.str "lay")) (ae (az (ae (zqc 0) ak)) (ae (ai 6) ak)))) (ae (az (ae (gC (.str "lay")) (ae (az (ae (zqc 0) ak)) (ae (az (ae (gC (.str "lay")) (ae (az (ae (zqc 0) ak)) (ae (ai 6) ak)))) ak)))) ak))))))))))))
noncomputable def l9:Ev->SR:=(aO (bK 1 (az (ae (gC (.str "end")) (ae (az (ae (zqc 0) ak)) ak))))
 (aO (qK (iZ (ae (aK cO (dh (ae (zqc 11) (ae (zqc 12) (ae (zqc 3) ak)))) (iY 2 0 aA (ae (zqc 3) ak))) ak)) (df 2)
 bF)
 bG))
noncomputable def jy:List U->R (U×U):=kQ 7 l9
noncomputable abbrev Je:Gm:=⟨[false,false,true,false,false,false,false],false,λ_=>False⟩
noncomputable def bQ:Ev->SR:=(iB (ko (gB (iE 2 eG (ae (ai 5) (ae (ai 6) ak))))) (bA (gC (.bl false))) bx)
noncomputable def bS:Ev->SR:=(qK (eW (dh (ae (ai 3) (ae (zqc 1) (ae (aK bM (ai 3) (zqc 1)) ak))))) (df 6) bQ)
noncomputable def bL:Ev->SR:=(aO (bK 2 (iE 2 gX (ae (ai 0) (ae (ai 1) ak))))
 (aO (bK 3 (aK bM (zqc 1) (iY 2 2 aA (ae (zqc 6) ak))))
 (aO (bK 4 (iY 4 2 gY (ae (xZ Je (iZ (ae (zqc 2) ak)) [none,some 2,some 3] (df 0) cb (iY 2 1 iK (ae (ai 2) ak))) (ae (zqc 4) (ae (gC (.bl true)) ak)))))
 (qK (eW (aK bM (dh (ae (ai 4) (ae (iY 2 2 (eB 20) (ae (ai 4) ak)) (ae (iY 2 2 (eB 20) (ae (ai 4) ak)) (ae (gC .non) (ae (az ak) ak)))))) (iY 1 2 jy ak))) (df 5) bS))))
noncomputable def Jf:Ev->SR:=(aO (qK (iZ (ae (dZ DJ (ae (zqc 1) (ae (dZ zW (ae (dZ dI (ae (ai 0) ak)) (ae (zqc 12) ak))) ak))) ak)) (df 1)
 bL)
 (bA (gC (.bl true))))
noncomputable def AR:List U->R U:=fB .S 7 Jf
end Hc
end
namespace Hc
open L2
noncomputable def top (i:Nat):ab4:=PySem.Challenge.pw_hushcards_k21_plans_looked_at.main.body.getD i (.Pass ⟨0,0,0,0⟩)
noncomputable abbrev lF:ab4:=top 2
noncomputable abbrev nI:ab4:=top 3
noncomputable abbrev jV:ab4:=top 4
noncomputable abbrev fS:ab4:=top 7
noncomputable abbrev fT:ab4:=top 11
noncomputable abbrev oV:ab4:=top 12
noncomputable abbrev i7:ab4:=top 13
noncomputable abbrev lG:ab4:=top 14
noncomputable abbrev eH:ab4:=top 15
noncomputable abbrev l_:ab4:=top 16
noncomputable abbrev jD:ab4:=top 17
noncomputable abbrev jW:ab4:=top 18
noncomputable abbrev iL:ab4:=top 20
noncomputable abbrev jE:ab4:=top 21
noncomputable abbrev lH:ab4:=top 22
noncomputable abbrev kI:ab4:=top 23
noncomputable abbrev iM:ab4:=top 24
noncomputable abbrev jX:ab4:=top 25
noncomputable abbrev dk:ab4:=top 26
noncomputable abbrev nJ:ab4:=top 27
noncomputable abbrev fI:ab4:=top 28
noncomputable abbrev g7:ab4:=top 29
noncomputable abbrev i8:ab4:=top 30
noncomputable abbrev jF:ab4:=top 31
noncomputable abbrev iN:ab4:=top 32
noncomputable abbrev dW:ab4:=top 33
noncomputable abbrev fh:ab4:=top 34
noncomputable abbrev de:ab4:=top 35
noncomputable abbrev jG:ab4:=top 36
noncomputable abbrev jY:ab4:=top 37
noncomputable abbrev jH:ab4:=top 38
noncomputable abbrev gc:ab4:=top 39
noncomputable abbrev yK:ab4:=top 40
abbrev Bd (x:Str)(ps:List Str)(s:ab4):Prop:=∀(kV qv pm:Yj) (an:Option YG) (dH ct:Yj) (us:List Yj),us.length=ps.length->bindArgs (aaf x x (gG s) (dE s) (ar s) .none kV qv pm an dH ct) ⟨us,[]⟩=pure (ps.zip us)
def nY {N P:List Str}{sc:ada}(a:sc.kind=.function:=by rfl)(b:sc.isCoroutine=false:=by rfl)(c:sc.isGenerator=false:=by rfl)(d:N.Nodup:=by decide+kernel)(e:N.take P.length=P:=by rfl)(f:∀x∈P,sc.names.lookup x=some .local\/sc.names.lookup x=some .cell:=by decide+kernel)(g:∀y∈sc.names,y.2≠.free:=by decide+kernel):a9 N P sc:=⟨a,b,c,d,e,f,g⟩
def rm {A:Zk}(r:gF k A)(h:j<=k:=by first|decide|lia):gF j A:=r.mono h
def AS:a9 ["thing"] ["thing"] (ar lF):=nY
theorem AU:Bd "is_whole" ["thing"] lF:=λ_ _ _ _ _ _ us hl=>match us,hl with|[_],_=>rfl
def CK:a9 ["thing"] ["thing"] (ar nI):=nY
theorem CL:Bd "is_card" ["thing"] nI:=λ_ _ _ _ _ _ us hl=>match us,hl with|[_],_=>rfl
def AV:a9 ["thing","many"] ["thing","many"] (ar jV):=nY
theorem AW:Bd "is_order" ["thing","many"] jV:=λ_ _ _ _ _ _ us hl=>match us,hl with|[_,_],_=>rfl
def wa:a9 ["thing","many"] ["thing","many"] (ar fS):=nY
theorem wc:Bd "is_shuffle" ["thing","many"] fS:=λ_ _ _ _ _ _ us hl=>match us,hl with|[_,_],_=>rfl
def wd:a9 ["thing","many"] ["thing","many"] (ar fT):=nY
theorem we:Bd "are_places" ["thing","many"] fT:=λ_ _ _ _ _ _ us hl=>match us,hl with|[_,_],_=>rfl
def xG:a9 ["thing","size","seen"] ["thing","size"] (ar oV):=nY
theorem F4:Bd "is_way" ["thing","size"] oV:=λ_ _ _ _ _ _ us hl=>match us,hl with|[_,_],_=>rfl
def AX:a9 ["thing","size"] ["thing","size"] (ar i7):=nY
theorem AY:Bd "are_ways" ["thing","size"] i7:=λ_ _ _ _ _ _ us hl=>match us,hl with|[_,_],_=>rfl
def AZ:a9 ["thing","many"] ["thing","many"] (ar lG):=nY
theorem A4:Bd "has_form" ["thing","many"] lG:=λ_ _ _ _ _ _ us hl=>match us,hl with|[_,_],_=>rfl
def jk:a9 ["plans","inner","plan"] ["plans"] (ar eH):=nY
theorem sY:Bd "plans_within" ["plans"] eH:=λ_ _ _ _ _ _ us hl=>match us,hl with|[_],_=>rfl
def fU:a9 ["thing","many","level","met","depth"] ["thing","many"] (ar l_):=nY
theorem CM:Bd "is_plan" ["thing","many"] l_:=λ_ _ _ _ _ _ us hl=>match us,hl with|[_,_],_=>rfl
def jz:a9 ["plan","levels","level"] ["plan"] (ar jD):=nY
theorem yL:Bd "levels_of" ["plan"] jD:=λ_ _ _ _ _ _ us hl=>match us,hl with|[_],_=>rfl
def A5:a9 ["plan"] ["plan"] (ar jW):=nY
theorem A6:Bd "plans_in" ["plan"] jW:=λ_ _ _ _ _ _ us hl=>match us,hl with|[_],_=>rfl
def sZ:a9 ["script","k"] ["script","k"] (ar iL):=nY
theorem s9:Bd "_law_cell_at" ["script","k"] iL:=λ_ _ _ _ _ _ us hl=>match us,hl with|[_,_],_=>rfl
def ox:a9 ["script","k","cell"] ["script","k"] (ar jE):=nY
theorem wg:Bd "_law_state" ["script","k"] jE:=λ_ _ _ _ _ _ us hl=>match us,hl with|[_,_],_=>rfl
def jA:a9 ["state","many","found","mixed"] ["state","many"] (ar lH):=nY
theorem yM:Bd "_law_take" ["state","many"] lH:=λ_ _ _ _ _ _ us hl=>match us,hl with|[_,_],_=>rfl
def sG:a9 ["state","many","way"] ["state","many"] (ar kI):=nY
theorem A7:Bd "_law_row" ["state","many"] kI:=λ_ _ _ _ _ _ us hl=>match us,hl with|[_,_],_=>rfl
def oy:a9 ["state","many","left"] ["state","many"] (ar iM):=nY
theorem wm:Bd "_law_order" ["state","many"] iM:=λ_ _ _ _ _ _ us hl=>match us,hl with|[_,_],_=>rfl
def yN:a9 ["row","order"] ["row","order"] (ar jX):=nY
theorem yO:Bd "_law_laid" ["row","order"] jX:=λ_ _ _ _ _ _ us hl=>match us,hl with|[_,_],_=>rfl
def bJ:a9 ["state","many","stays","way","order","half","some","size","k","longer"] ["state","many"] (ar dk):=nY
theorem s_:Bd "_law_shuffle" ["state","many"] dk:=λ_ _ _ _ _ _ us hl=>match us,hl with|[_,_],_=>rfl
def sH:a9 ["state","many","order"] ["state","many"] (ar nJ):=nY
theorem A8:Bd "_law_end" ["state","many"] nJ:=λ_ _ _ _ _ _ us hl=>match us,hl with|[_,_],_=>rfl
def cS:a9 ["state","rows","deep","again","many","places","seen","ways","some","left","more"] ["state","rows","deep","again"] (ar fI):=nY
theorem qd:Bd "_law_look" ["state","rows","deep","again"] fI:=λ_ _ _ _ _ _ us hl=>match us,hl with|[_,_,_,_],_=>rfl
def dQ:a9 ["state","rows","deep","again","many","way","order","shuffle","fresh"] ["state","rows","deep","again"] (ar g7):=nY
theorem qe:Bd "_law_plan" ["state","rows","deep","again"] g7:=λ_ _ _ _ _ _ us hl=>match us,hl with|[_,_,_,_],_=>rfl
def qf:a9 ["plan"] ["plan"] (ar i8):=nY
theorem qg:Bd "_law_size" ["plan"] i8:=λ_ _ _ _ _ _ us hl=>match us,hl with|[_],_=>rfl
def oz:a9 ["state","rows","deep","again","plan"] ["state","rows","deep","again"] (ar jF):=nY
theorem wq:Bd "_law_drawn" ["state","rows","deep","again"] jF:=λ_ _ _ _ _ _ us hl=>match us,hl with|[_,_,_,_],_=>rfl
def vt:a9 ["thing","low","high"] ["thing","low","high"] (ar iN):=nY
theorem vv:Bd "_law_number" ["thing","low","high"] iN:=λ_ _ _ _ _ _ us hl=>match us,hl with|[_,_,_],_=>rfl
def oW:a9 ["thing","many"] ["thing","many"] (ar dW):=nY
theorem oX:Bd "_law_are_places" ["thing","many"] dW:=λ_ _ _ _ _ _ us hl=>match us,hl with|[_,_],_=>rfl
def fy:a9 ["thing","size","many","last","way"] ["thing","size","many"] (ar fh):=nY
theorem rj:Bd "_law_are_ways" ["thing","size","many"] fh:=λ_ _ _ _ _ _ us hl=>match us,hl with|[_,_,_],_=>rfl
def dD:a9 ["thing","many","parts","some"] ["thing","many"] (ar de):=nY
theorem mY:Bd "_law_counts" ["thing","many"] de:=λ_ _ _ _ _ _ us hl=>match us,hl with|[_,_],_=>rfl
def bV:a9 ["state","plan","odd","row","k","fresh","order"] ["state","plan"] (ar jG):=nY
theorem wt:Bd "_law_other" ["state","plan"] jG:=λ_ _ _ _ _ _ us hl=>match us,hl with|[_,_],_=>rfl
def jB:a9 ["state","plan","k","way"] ["state","plan"] (ar jY):=nY
theorem qh:Bd "_law_bent" ["state","plan"] jY:=λ_ _ _ _ _ _ us hl=>match us,hl with|[_,_],_=>rfl
def iV:a9 ["thing","many","found","counts","due"] ["thing","many"] (ar jH):=nY
theorem wu:Bd "_law_right" ["thing","many"] jH:=λ_ _ _ _ _ _ us hl=>match us,hl with|[_,_],_=>rfl
def dq:a9 ["state","plan","k","ways","last","wide","more"] ["state"] (ar gc):=nY
theorem wx:Bd "_law_great" ["state"] gc:=λ_ _ _ _ _ _ us hl=>match us,hl with|[_],_=>rfl
def oY:a9 ["script","k","state","many","plan","thing","size"] ["script"] (ar yK):=nY
structure nZ (mg:Str->Option Yj):Prop where
 zmq:mg "all"=none
 zjq:mg "bool"=none
 zlq:mg "int"=none
 zeq:mg "isinstance"=none
 zsq:mg "len"=none
 ziq:mg "list"=none
 zpq:mg "max"=none
 zqq:mg "min"=none
 zgq:mg "range"=none
 znq:mg "set"=none
 zfq:mg "sorted"=none
 zkq:mg "str"=none
 zoq:mg "sum"=none
 zhq:mg "tuple"=none
 zrq:mg "zip"=none
 zaq:∃tk,mg "GREATEST_CARD"=some (.int 9 tk)
 zbq:∃tk,mg "MOST_ORDERS"=some (.int 24 tk)
 zdq:∃tk,mg "MOST_PLANS"=some (.int 60 tk)
 zcq:∃tk,mg "MOST_WITHIN"=some (.int 12 tk)
end Hc
namespace Hc
open L2
noncomputable abbrev hS (s:String)(n:Nat):Yj:=.str (Yq s) n
noncomputable abbrev hE (P:Params)(s:String)(n:Nat)(v:Yj):DictEntry:=⟨PyData.keyHash P (Yq s),hS s n,v⟩
noncomputable abbrev hD (c:Yj)(l:List DictEntry)(n:Nat):Obj:=⟨c,none,.dict l.toArray n,#[]⟩
noncomputable abbrev hX (c:Yj)(l:List Yj):Obj:=⟨c,none,.fields l.toArray,#[]⟩
noncomputable abbrev hC (n q:String)(a:Nat)(l k:Int)(r r1:Nat)(v1 v2:Yj)(r2:Nat)(m:Int)(m':Nat):Obj:=hX (.type "code") [hS n a,hS q (a+1),hS "/claim/cut.py" (a+2),.int l 0,.int k 0,.int 0 0,.int 0 0,.int 3 0,.ref r,.bool true,.int 181 0,.ref r1,.none,v1,v2,.ref r2,.int m 0,.int l 0,hS "/claim/cut.py" m']
noncomputable abbrev hF (n q:String)(s:ab4)(kV qv pm:Yj)(an:Option YG)(cd ct:Yj):Obj:=⟨.type "function",none,.func (aaf n q (gG s) (dE s) (ar s) .none kV qv pm an cd ct),#[]⟩
noncomputable abbrev h9:=hS "law_hushcards_k21_plans_looked_at"
noncomputable def Kf (P:Params):Ye:=
 (nat_lit 2,hD .none [] 0) ::
 (nat_lit 3,hD (.type "dict") [hE P "__name__" 165 (h9 280),hE P "__doc__" 166 .none,hE P "__package__" 167 .none,hE P "__loader__" 168 (.builtin "__main__.__loader__#opaque"),hE P "__spec__" 169 .none,hE P "__annotations__" 170 (.ref 6),hE P "__builtins__" 171 (.ref 4),hE P "__file__" 173 (hS "/claim/cut.py" 172),hE P "__cached__" 174 .none,hE P "GREATEST_CARD" 190 (.int 9 189),hE P "is_whole" 197 (.ref 21),hE P "is_card" 204 (.ref 28),hE P "is_order" 210 (.ref 33),hE P "MOST_ORDERS" 214 (.int 24 213),hE P "is_shuffle" 220 (.ref 38),hE P "MOST_PLANS" 224 (.int 60 223),hE P "MOST_WITHIN" 226 (.int 12 225),hE P "are_places" 232 (.ref 43),hE P "is_way" 238 (.ref 48),hE P "are_ways" 244 (.ref 53),hE P "has_form" 252 (.ref 60),hE P "plans_within" 258 (.ref 65),hE P "is_plan" 264 (.ref 70),hE P "levels_of" 273 (.ref 77),hE P "plans_in" 279 (.ref 82),hE P "_law_cell_at" 289 (.ref 89),hE P "_law_state" 298 (.ref 96),hE P "_law_take" 308 (.ref 103),hE P "_law_row" 314 (.ref 108),hE P "_law_order" 320 (.ref 113),hE P "_law_laid" 326 (.ref 118),hE P "_law_shuffle" 332 (.ref 123),hE P "_law_end" 341 (.ref 130),hE P "_law_look" 347 (.ref 135),hE P "_law_plan" 353 (.ref 140),hE P "_law_size" 359 (.ref 145),hE P "_law_drawn" 370 (.ref 152),hE P "_law_number" 379 (.ref 159),hE P "_law_are_places" 385 (.ref 164),hE P "_law_are_ways" 391 (.ref 169),hE P "_law_counts" 397 (.ref 174),hE P "_law_other" 410 (.ref 181),hE P "_law_bent" 420 (.ref 188),hE P "_law_right" 431 (.ref 195),hE P "_law_great" 437 (.ref 200),hE P "law" 443 (.ref 205)] 46) ::
 (nat_lit 20,hC "is_whole" "is_whole" 191 3 1 15 16 (.ref 17) (.ref 18) 19 195 196) ::
 (nat_lit 21,hF "is_whole" "is_whole" (top 2) .none .none (hS "hushcards.orders" 187) none (.ref 20) .none) ::
 (nat_lit 27,hC "is_card" "is_card" 198 5 1 22 23 (.ref 24) (.ref 25) 26 202 203) ::
 (nat_lit 28,hF "is_card" "is_card" (top 3) .none .none (hS "hushcards.orders" 187) none (.ref 27) .none) ::
 (nat_lit 32,hC "is_order" "is_order" 205 7 2 29 30 .none .none 31 208 209) ::
 (nat_lit 33,hF "is_order" "is_order" (top 4) .none .none (hS "hushcards.orders" 187) none (.ref 32) .none) ::
 (nat_lit 37,hC "is_shuffle" "is_shuffle" 215 13 2 34 35 .none .none 36 218 219) ::
 (nat_lit 38,hF "is_shuffle" "is_shuffle" (top 7) .none .none (hS "hushcards.shuffles" 211) none (.ref 37) .none) ::
 (nat_lit 42,hC "are_places" "are_places" 227 20 2 39 40 .none .none 41 230 231) ::
 (nat_lit 43,hF "are_places" "are_places" (top 11) .none .none (hS "hushcards.plans" 221) none (.ref 42) .none) ::
 (nat_lit 47,hC "is_way" "is_way" 233 26 2 44 45 .none .none 46 236 237) ::
 (nat_lit 48,hF "is_way" "is_way" (top 12) .none .none (hS "hushcards.plans" 221) none (.ref 47) .none) ::
 (nat_lit 52,hC "are_ways" "are_ways" 239 31 2 49 50 .none .none 51 242 243) ::
 (nat_lit 53,hF "are_ways" "are_ways" (top 13) .none .none (hS "hushcards.plans" 221) none (.ref 52) .none) ::
 (nat_lit 59,hC "has_form" "has_form" 245 37 2 54 55 (.ref 56) (.ref 57) 58 250 251) ::
 (nat_lit 60,hF "has_form" "has_form" (top 14) .none .none (hS "hushcards.plans" 221) none (.ref 59) .none) ::
 (nat_lit 64,hC "plans_within" "plans_within" 253 51 1 61 62 .none .none 63 256 257) ::
 (nat_lit 65,hF "plans_within" "plans_within" (top 15) .none .none (hS "hushcards.plans" 221) none (.ref 64) .none) ::
 (nat_lit 69,hC "is_plan" "is_plan" 259 59 2 66 67 .none .none 68 262 263) ::
 (nat_lit 70,hF "is_plan" "is_plan" (top 16) .none .none (hS "hushcards.plans" 221) none (.ref 69) .none) ::
 (nat_lit 76,hC "levels_of" "levels_of" 265 72 1 71 72 (.ref 73) (.ref 74) 75 271 272) ::
 (nat_lit 77,hF "levels_of" "levels_of" (top 17) .none .none (hS "hushcards.plans" 221) none (.ref 76) .none) ::
 (nat_lit 81,hC "plans_in" "plans_in" 274 79 1 78 79 .none .none 80 277 278) ::
 (nat_lit 82,hF "plans_in" "plans_in" (top 18) .none .none (hS "hushcards.plans" 221) none (.ref 81) .none) ::
 (nat_lit 88,hC "_law_cell_at" "_law_cell_at" 282 82 2 83 84 (.ref 85) (.ref 86) 87 287 288) ::
 (nat_lit 89,hF "_law_cell_at" "_law_cell_at" (top 20) .none .none (h9 280) none (.ref 88) .none) ::
 (nat_lit 95,hC "_law_state" "_law_state" 290 86 2 90 91 (.ref 92) (.ref 93) 94 296 297) ::
 (nat_lit 96,hF "_law_state" "_law_state" (top 21) .none .none (h9 280) none (.ref 95) .none) ::
 (nat_lit 102,hC "_law_take" "_law_take" 299 91 2 97 98 (.ref 99) (.ref 100) 101 306 307) ::
 (nat_lit 103,hF "_law_take" "_law_take" (top 22) .none .none (h9 280) none (.ref 102) .none) ::
 (nat_lit 107,hC "_law_row" "_law_row" 309 100 2 104 105 .none .none 106 312 313) ::
 (nat_lit 108,hF "_law_row" "_law_row" (top 23) .none .none (h9 280) none (.ref 107) .none) ::
 (nat_lit 112,hC "_law_order" "_law_order" 315 105 2 109 110 .none .none 111 318 319) ::
 (nat_lit 113,hF "_law_order" "_law_order" (top 24) .none .none (h9 280) none (.ref 112) .none) ::
 (nat_lit 117,hC "_law_laid" "_law_laid" 321 108 2 114 115 .none .none 116 324 325) ::
 (nat_lit 118,hF "_law_laid" "_law_laid" (top 25) .none .none (h9 280) none (.ref 117) .none) ::
 (nat_lit 122,hC "_law_shuffle" "_law_shuffle" 327 110 2 119 120 .none .none 121 330 331) ::
 (nat_lit 123,hF "_law_shuffle" "_law_shuffle" (top 26) .none .none (h9 280) none (.ref 122) .none) ::
 (nat_lit 129,hC "_law_end" "_law_end" 333 131 2 124 125 (.ref 126) (.ref 127) 128 339 340) ::
 (nat_lit 130,hF "_law_end" "_law_end" (top 27) .none .none (h9 280) none (.ref 129) .none) ::
 (nat_lit 134,hC "_law_look" "_law_look" 342 134 4 131 132 .none .none 133 345 346) ::
 (nat_lit 135,hF "_law_look" "_law_look" (top 28) .none .none (h9 280) none (.ref 134) .none) ::
 (nat_lit 139,hC "_law_plan" "_law_plan" 348 149 4 136 137 .none .none 138 351 352) ::
 (nat_lit 140,hF "_law_plan" "_law_plan" (top 29) .none .none (h9 280) none (.ref 139) .none) ::
 (nat_lit 144,hC "_law_size" "_law_size" 354 166 1 141 142 .none .none 143 357 358) ::
 (nat_lit 145,hF "_law_size" "_law_size" (top 30) .none .none (h9 280) none (.ref 144) .none) ::
 (nat_lit 151,hC "_law_drawn" "_law_drawn" 360 172 4 146 147 (.ref 148) (.ref 149) 150 368 369) ::
 (nat_lit 152,hF "_law_drawn" "_law_drawn" (top 31) .none .none (h9 280) none (.ref 151) .none) ::
 (nat_lit 158,hC "_law_number" "_law_number" 371 175 3 153 154 (.ref 155) (.ref 156) 157 377 378) ::
 (nat_lit 159,hF "_law_number" "_law_number" (top 32) .none .none (h9 280) none (.ref 158) .none) ::
 (nat_lit 163,hC "_law_are_places" "_law_are_places" 380 177 2 160 161 .none .none 162 383 384) ::
 (nat_lit 164,hF "_law_are_places" "_law_are_places" (top 33) .none .none (h9 280) none (.ref 163) .none) ::
 (nat_lit 168,hC "_law_are_ways" "_law_are_ways" 386 181 3 165 166 .none .none 167 389 390) ::
 (nat_lit 169,hF "_law_are_ways" "_law_are_ways" (top 34) .none .none (h9 280) none (.ref 168) .none) ::
 (nat_lit 173,hC "_law_counts" "_law_counts" 392 192 2 170 171 .none .none 172 395 396) ::
 (nat_lit 174,hF "_law_counts" "_law_counts" (top 35) .none .none (h9 280) none (.ref 173) .none) ::
 (nat_lit 180,hC "_law_other" "_law_other" 398 214 2 175 176 (.ref 177) (.ref 178) 179 408 409) ::
 (nat_lit 181,hF "_law_other" "_law_other" (top 36) .none .none (h9 280) none (.ref 180) .none) ::
 (nat_lit 187,hC "_law_bent" "_law_bent" 411 229 2 182 183 (.ref 184) (.ref 185) 186 418 419) ::
 (nat_lit 188,hF "_law_bent" "_law_bent" (top 37) .none .none (h9 280) none (.ref 187) .none) ::
 (nat_lit 194,hC "_law_right" "_law_right" 421 237 2 189 190 (.ref 191) (.ref 192) 193 429 430) ::
 (nat_lit 195,hF "_law_right" "_law_right" (top 38) .none .none (h9 280) none (.ref 194) .none) ::
 (nat_lit 199,hC "_law_great" "_law_great" 432 244 1 196 197 .none .none 198 435 436) ::
 (nat_lit 200,hF "_law_great" "_law_great" (top 39) .none .none (h9 280) none (.ref 199) .none) ::
 (nat_lit 204,hC "law" "law" 438 253 1 201 202 .none .none 203 441 442) ::
 (nat_lit 205,hF "law" "law" (top 40) .none .none (h9 280) none (.ref 204) .none)::[]
noncomputable def vw:aa9:={PySem.Challenge.pw_hushcards_k21_plans_looked_at with main:={PySem.Challenge.pw_hushcards_k21_plans_looked_at.main with body:=([1,2,3,4,6,7,9,10,11,12,13,14,15,16,17,18,20,21,22,23,24,25,26,27,28,29,30,31,32,33,34,35,36,37,38,39,40]:List Nat).map top}}
noncomputable def hk:PySem.W.Hook:=PySem.W.kHook Kf [2,3,20,21,27,28,32,33,37,38,42,43,47,48,52,53,59,60,64,65,69,70,76,77,81,82,88,89,95,96,102,103,107,108,112,113,117,118,122,123,129,130,134,135,139,140,144,145,151,152,158,159,163,164,168,169,173,174,180,181,187,188,194,195,199,200,204,205] (λ_=>by kernel_rfl)
noncomputable abbrev VF:=PySem.Challenge.rw_hushcards_k21_plans_looked_at.row
def left:PySem.W.LeftO VF.prog vw [] (λs=>PySem.W.xlAt vw [] s&&PySem.W.recOk (PySem.W.RowW.records VF.toRowW) s) hk.obs hk.val 2124:=λw=>by kernel_rfl
end Hc
namespace Hc
open L2
section
variable {base:aaX}
def A9 (T:nZ mg)  (j3:Df K mg "is_whole" lF):Fn P w K mg base "is_whole" 1 ["thing"] (jf K 1 dz .S):=by
 refine Df.fnD (N:=["thing"]) (ps:=["thing"]) (st:=lF) (k:=0) CD .S oR j3 AS AU rfl (by decide) ?_;intro f dH A outer s0 H E hr;exact (aw (aH (gO (ha:=(di (T:="int") (by decide) (ao 0) T.zeq T.zlq B0)) (hb:=(jK (B7 (di (T:="bool") (by decide) (ao 0) T.zeq T.zjq xV)))))))
theorem CN (T:nZ mg)(eI:Fn P w K mg base "is_whole" 1 ["thing"] (jf K 1 dz .S))(lJ:Df K mg "is_card" nI):Fn P w K mg base "is_card" 2 ["thing"] (jf K 1 iI .S):=by
 obtain⟨lL,zaq⟩:=T.zaq;refine Df.fnD (N:=["thing"]) (ps:=["thing"]) (st:=nI) (k:=1) F2 .S nH lJ CK CL rfl (by decide) ?_;intro f dH A outer s0 H E hr;exact (aw (aH (gO (ha:=(aY eI (rm hr) (aa (ao 0) af))) (hb:=(jK (uv pA lT pA lT ah (ao 0) (pG (i:=9) rfl zaq)))))))
def A_ (T:nZ mg)(eI:Fn P w K mg base "is_whole" 1 ["thing"] (jf K 1 dz .S))(j4:Df K mg "is_order" jV):Fn P w K mg base "is_order" 2 ["thing","many"] (jf K 2 eD .S):=by
 refine Df.fnD (N:=["thing","many"]) (ps:=["thing","many"]) (st:=jV) (k:=1) CF .S lZ j4 AV AW rfl (by decide) ?_;intro f dH A outer s0 H E hr;have hu:=hr.units;exact (aq (bz (d0 (cL (di (T:="tuple") (by decide) (ao 0) T.zeq T.zhq bE))) (aw (aH eh)) aM)
 (aw (aH (gO (ha:=(aE (eN rfl) iQ (by rfl) T.zmq kM (aa (dw (ar jV) ["thing","many"] ["place"] [none] rfl (cx (ao 0)) (λY=>⟨(aW (i:=0) (show (["place"]:List Str).Nodup by decide+kernel)),ba,(aY eI (rm hr) (aa (ao 0) af))⟩)) af))) (hb:=(jK (gI (bO hu) (bR (f:=id)) (aE xW Fx (by rfl) T.zfq qH (aa (ao 0) af)) (DL rfl (aa (ao 1) af) T.ziq T.zgq) (aJ _))))))))
theorem wy (T:nZ mg)(iO:Fn P w K mg base "is_order" 2 ["thing","many"] (jf K 2 eD .S))(ic:Df K mg "is_shuffle" fS):Fn P w K mg base "is_shuffle" 3 ["thing","many"] (jf K 2 eE .S):=by
 obtain⟨nh,zbq⟩:=T.zbq;refine Df.fnD (N:=["thing","many"]) (ps:=["thing","many"]) (st:=fS) (k:=2) yD .S gT ic wa wc rfl (by decide) ?_;intro f dH A outer s0 H E hr;exact (aq (bz (DW.dt (iA (d0 (cL (di (T:="tuple") (by decide) (ao 0) T.zeq T.zhq bE))) (gK (d0 (zE pA lT pA lT ah (aE aT bp (by rfl) T.zsq bH (aa (ao 0) af)) (pG (i:=24) rfl zbq)))))) (aw (aH eh)) aM)
 (aw (aH (aE (eN rfl) iQ (by rfl) T.zmq kM (aa (dw (ar fS) ["thing","many"] ["part","many"] [none,some 1] rfl (cx (ao 0)) (λY=>⟨(aW (i:=0) (show (["part","many"]:List Str).Nodup by decide+kernel)),ba,(aY iO (rm hr) (aa (ao 0) (aa (ao 1) af)))⟩)) af)))))
def wz (T:nZ mg)(eI:Fn P w K mg base "is_whole" 1 ["thing"] (jf K 1 dz .S))(ig:Df K mg "are_places" fT):Fn P w K mg base "are_places" 2 ["thing","many"] (jf K 2 dO .S):=by
 refine Df.fnD (N:=["thing","many"]) (ps:=["thing","many"]) (st:=fT) (k:=1) yE .S gU ig wd we rfl (by decide) ?_;intro f dH A outer s0 H E hr;have hu:=hr.units;exact (aq (bz (DW.dt (iA (d0 (cL (di (T:="tuple") (by decide) (ao 0) T.zeq T.zhq bE))) (gK (aQ (bO hu) (bR (f:=id)) (aE aT bp (by rfl) T.zsq bH (aa (ao 0) af)) ah (aJ _))))) (aw (aH eh)) aM)
 (aq (bz (d0 (cL (aE (eN rfl) iQ (by rfl) T.zmq kM (aa (dw (ar fT) ["thing","many"] ["place","many"] [none,some 1] rfl (cx (ao 0)) (λY=>⟨(aW (i:=0) (show (["place","many"]:List Str).Nodup by decide+kernel)),ba,(gO (ha:=(aY eI (rm hr) (aa (ao 0) af))) (hb:=(jK (uv pA lT pz lS ah (ao 0) (ao 1)))))⟩)) af)))) (aw (aH eh)) aM)
 (aw (aH (gI (bO hu) (bR (f:=id)) (xj rfl (aa (ao 0) af) (by rfl) T.zsq (by rfl) T.znq) (aE aT bp (by rfl) T.zsq bH (aa (ao 0) af)) (aJ _))))))
def F5 (T:nZ mg)(rE:Fn P w K mg base "is_card" 2 ["thing"] (jf K 1 iI .S))(m_:Df K mg "is_way" oV):Fn P w K mg base "is_way" 3 ["thing","size"] (jf K 2 i5 .S):=by
 refine Df.fnD (N:=["thing","size","seen"]) (ps:=["thing","size"]) (st:=oV) (k:=2) Jd .S mV m_ xG F4 rfl (by decide) ?_;intro f dH A outer s0 H E hr;have hu:=hr.units;exact (aq (bz (DW.dt (iA (d0 (cL (di (T:="tuple") (by decide) (ao 0) T.zeq T.zhq bE))) (gK (aQ zp qb (aE aT bp (by rfl) T.zsq bH (aa (ao 0) af)) ah (aJ _))))) (aw (aH eh)) aM)
 (aq (aU (i:=2) xG.nd (zqa 0))
 (aw (aH (gO (ha:=(di (T:="tuple") (by decide) (ao 2) T.zeq T.zhq bE)) (hb:=(gO (ha:=(gI (bO hu) (bR (f:=id)) (aE aT bp (by rfl) T.zsq bH (aa (ao 2) af)) (ao 1) (aJ _))) (hb:=(jK (aE (eN rfl) iQ (by rfl) T.zmq kM (aa (dw (ar oV) ["thing","size","seen"] ["card"] [none] rfl (cx (ao 2)) (λY=>⟨(aW (i:=0) (show (["card"]:List Str).Nodup by decide+kernel)),ba,(aY rE (rm hr) (aa (ao 0) af))⟩)) af)))))))))))
def Ba (T:nZ mg)(vM:Fn P w K mg base "is_way" 3 ["thing","size"] (jf K 2 i5 .S))(j5:Df K mg "are_ways" i7):Fn P w K mg base "are_ways" 4 ["thing","size"] (jf K 2 fQ .S):=by
 refine Df.fnD (N:=["thing","size"]) (ps:=["thing","size"]) (st:=i7) (k:=3) CG .S jR j5 AX AY rfl (by decide) ?_;intro f dH A outer s0 H E hr;have hu:=hr.units;exact (aq (bz (DW.dt (iA (d0 (cL (di (T:="tuple") (by decide) (ao 0) T.zeq T.zhq bE))) (gK (aQ (bO hu) (bR (f:=id)) (aE aT bp (by rfl) T.zsq bH (aa (ao 0) af)) ah (aJ _))))) (aw (aH eh)) aM)
 (aq (bz (d0 (cL (aE (eN rfl) iQ (by rfl) T.zmq kM (aa (dw (ar i7) ["thing","size"] ["way","size"] [none,some 1] rfl (cx (ao 0)) (λY=>⟨(aW (i:=0) (show (["way","size"]:List Str).Nodup by decide+kernel)),ba,(aY vM (rm hr) (aa (ao 0) (aa (ao 1) af)))⟩)) af)))) (aw (aH eh)) aM)
 (aw (aH (aE (eN rfl) iQ (by rfl) T.zmq kM (aa (dw (ar i7) ["thing","size"] ["one","other"] [none,none] rfl (OT (aa (ao 0) (aa (cm cn dU (ao 0) (cH ah) cY) af)) T.zrq) (λY=>⟨(OD rfl (zH (aW (i:=0) (show (["one","other"]:List Str).Nodup by decide+kernel)) (zH (aW (i:=1) (show (["one","other"]:List Str).Nodup by decide+kernel)) KY))),ba,(gI (Pf hu) LG (zqa 0) (zqa 1) (aJ _))⟩)) af))))))
def Bb (T:nZ mg)(iO:Fn P w K mg base "is_order" 2 ["thing","many"] (jf K 2 eD .S))(mn:Fn P w K mg base "is_shuffle" 3 ["thing","many"] (jf K 2 eE .S))(jC:Fn P w K mg base "are_places" 2 ["thing","many"] (jf K 2 dO .S))(pb:Fn P w K mg base "are_ways" 4 ["thing","size"] (jf K 2 fQ .S))(j6:Df K mg "has_form" lG):Fn P w K mg base "has_form" 5 ["thing","many"] (jf K 2 b_ .S):=by
 refine Df.fnD (N:=["thing","many"]) (ps:=["thing","many"]) (st:=lG) (k:=4) CH .S dA j6 AZ A4 rfl (by decide) ?_;intro f dH A outer s0 H E hr;have hu:=hr.units;exact (aq (bz (DW.dt (iA (d0 (cL (di (T:="tuple") (by decide) (ao 0) T.zeq T.zhq bE))) (gK (aQ (bO hu) (bR (f:=id)) (aE aT bp (by rfl) T.zsq bH (aa (ao 0) af)) ah (aJ _))))) (aw (aH eh)) aM)
 (aq (bz (aQ (bO hu) (bR (f:=id)) (zqa 0) aL (aJ _)) (aw (aH (gI (bO hu) (bR (f:=id)) (aE aT bp (by rfl) T.zsq bH (aa (ao 0) af)) ah (aJ _)))) aM)
 (aq (bz (aQ (bO hu) (bR (f:=id)) (zqa 0) aL (aJ _)) (aw (aH (gO (ha:=(gI (bO hu) (bR (f:=id)) (aE aT bp (by rfl) T.zsq bH (aa (ao 0) af)) ah (aJ _))) (hb:=(jK (aY jC (rm hr) (aa (zqa 0) (aa (ao 1) af)))))))) aM)
 (aq (bz (aQ zp qb (aE aT bp (by rfl) T.zsq bH (aa (ao 0) af)) ah (aJ _)) (aw (aH eh)) aM)
 (aq (bz (aQ (bO hu) (bR (f:=id)) (zqa 0) aL (aJ _)) (aw (aH (aY iO (rm hr) (aa (zqa 0) (aa (ao 1) af))))) aM)
 (aq (bz (aQ (bO hu) (bR (f:=id)) (zqa 0) aL (aJ _)) (aw (aH (aY mn (rm hr) (aa (zqa 0) (aa (ao 1) af))))) aM)
 (aw (aH (gO (ha:=(gI (bO hu) (bR (f:=id)) (zqa 0) aL (aJ _))) (hb:=(gO (ha:=(aY jC (rm hr) (aa (zqa 0) (aa (ao 1) af)))) (hb:=(jK (aY pb (rm hr) (aa (zqa 0) (aa (aE aT bp (by rfl) T.zsq bH (aa (zqa 0) af)) af))))))))))))))))
def td (T:nZ mg)  (fk:Df K mg "plans_within" eH):Fn P w K mg base "plans_within" 1 ["plans"] (jf K 1 dB .O):=by
 refine Df.fnD (N:=["plans","inner","plan"]) (ps:=["plans"]) (st:=eH) (k:=0) vp .O jS fk jk sY rfl (by decide) ?_;intro f dH A outer s0 H E hr;have hu:=hr.units;exact (aq (kz (i:=1) jk.nd (cA af))
 (aq (kP ZP rfl (cx (ao 0)) (aW (i:=2) jk.nd)
 (aw (bz (DW.dt (iA (aQ (bO hu) (bR (f:=id)) (zqa 2) aL (aJ _)) (gK (aQ (bO hu) (bR (f:=id)) (zqa 2) aL (aJ _))))) (aw (nk (oF (i:=1) ZV abJ abK qD oG (aa (zqa 2) af)))) (aw (bz (aQ (bO hu) (bR (f:=id)) (zqa 2) aL (aJ _)) (aw (nk (oF (i:=1) ZV abL abM yb oH (aa (dw (ar eH) ["plans","inner","plan"] ["way"] [none] rfl (cx (zqa 2)) (λY=>⟨(aW (i:=0) (show (["way"]:List Str).Nodup by decide+kernel)),ba,(zqa 0)⟩)) af)))) aM)))))
 (aw (Du (i:=1) (hi:=by decide)))))
theorem CO (T:nZ mg)(pd:Fn P w K mg base "has_form" 5 ["thing","many"] (jf K 2 b_ .S))(d8:Fn P w K mg base "plans_within" 1 ["plans"] (jf K 1 dB .O))(lK:Df K mg "is_plan" l_):Fn P w K mg base "is_plan" 6 ["thing","many"] (jf K 2 lE .S):=by
 obtain⟨oD,zdq⟩:=T.zdq;obtain⟨nj,zcq⟩:=T.zcq;refine Df.fnD (N:=["thing","many","level","met","depth"]) (ps:=["thing","many"]) (st:=l_) (k:=5) F3 .S rh lK fU CM rfl (by decide) ?_;intro f dH A outer s0 H E hr;exact (aq (aU (i:=2) fU.nd (cA (aa (ao 0) af)))
 (aq (aU (i:=3) fU.nd ah)
 (aq (aU (i:=4) fU.nd ah)
 (aq (zK ZP (aQ rH mP (aE aT bp (by rfl) T.zsq bH (aa (ao 2) af)) ah (aJ _))
 (aq (Hn (i:=3) GG fU.nd (aE aT bp (by rfl) T.zsq bH (aa (ao 2) af)))
 (aq (Hn (i:=4) GG fU.nd ah)
 (aq (bz (DW.dt (iA (aQ rH mP (ao 3) (pG (i:=60) rfl zdq) (aJ _)) (gK (aQ rH mP (ao 4) (pG (i:=12) rfl zcq) (aJ _))))) (aw (aH eh)) aM)
 (aq (bz (d0 (cL (aE (eN rfl) iQ (by rfl) T.zmq kM (aa (dw (ar l_) ["thing","many","level","met","depth"] ["part","many"] [none,some 1] rfl (cx (ao 2)) (λY=>⟨(aW (i:=0) (show (["part","many"]:List Str).Nodup by decide+kernel)),ba,(aY pd (rm hr) (aa (ao 0) (aa (ao 1) af)))⟩)) af)))) (aw (aH eh)) aM)
 (aw (aU (i:=2) fU.nd (aY d8 (rm hr) (aa (ao 2) af)))))))))
 (aw (aH eh))))))
def yP (T:nZ mg)(d8:Fn P w K mg base "plans_within" 1 ["plans"] (jf K 1 dB .O))(jb:Df K mg "levels_of" jD):Fn P w K mg base "levels_of" 2 ["plan"] (jf K 1 i6 .O):=by
 refine Df.fnD (N:=["plan","levels","level"]) (ps:=["plan"]) (st:=jD) (k:=1) AN .O mW jb jz yL rfl (by decide) ?_;intro f dH A outer s0 H E hr;exact (aq (kz (i:=1) jz.nd (cA af))
 (aq (aU (i:=2) jz.nd (cA (aa (ao 0) af)))
 (aq (zK ZP (aQ rH mP (aE aT bp (by rfl) T.zsq bH (aa (ao 2) af)) ah (aJ _))
 (aq (nk (oF (i:=1) ZV abJ abK qD oG (aa (ao 2) af)))
 (aw (aU (i:=2) jz.nd (aY d8 (rm hr) (aa (ao 2) af))))))
 (aw (Du (i:=1) (hi:=by decide))))))
def Bc (T:nZ mg)(ng:Fn P w K mg base "levels_of" 2 ["plan"] (jf K 1 i6 .O))(j7:Df K mg "plans_in" jW):Fn P w K mg base "plans_in" 3 ["plan"] (jf K 1 jT .S):=by
 refine Df.fnD (N:=["plan"]) (ps:=["plan"]) (st:=jW) (k:=2) CI .S oT j7 A5 A6 rfl (by decide) ?_;intro f dH A outer s0 H E hr;exact (aw (aH (aE (rf rfl) vh (by rfl) T.zoq B3 (aa (dw (ar jW) ["plan"] ["level"] [none] rfl (cx (aY ng (rm hr) (aa (ao 0) af))) (λY=>⟨(aW (i:=0) (show (["level"]:List Str).Nodup by decide+kernel)),ba,(aE aT bp (by rfl) T.zsq bH (aa (ao 0) af))⟩)) af))))
def tj (T:nZ mg)  (fo:Df K mg "_law_cell_at" iL):Fn P w K mg base "_law_cell_at" 1 ["script","k"] (jf K 2 d7 .S):=by
 refine Df.fnD (N:=["script","k"]) (ps:=["script","k"]) (st:=iL) (k:=0) vq .S gW fo sZ s9 rfl (by decide) ?_;intro f dH A outer s0 H E hr;exact (aq (bz (aQ pz lS (ao 1) (aE aT bp (by rfl) T.zsq bH (aa (ao 0) af)) (aJ _)) (aw (aH (aI aB aD (ao 0) (ao 1) (λ_ _=>rfl)))) aM)
 (aw (aH ah)))
def wA (T:nZ mg)(j8:Fn P w K mg base "_law_cell_at" 1 ["script","k"] (jf K 2 d7 .S))(ij:Df K mg "_law_state" jE):Fn P w K mg base "_law_state" 2 ["script","k"] (jf K 2 gX .O):=by
 refine Df.fnD (N:=["script","k","cell"]) (ps:=["script","k"]) (st:=jE) (k:=1) yF .O jw ij ox wg rfl (by decide) ?_;intro f dH A outer s0 H E hr;exact (aq (aU (i:=2) ox.nd (aY j8 (rm hr) (aa (ao 0) (aa (ao 1) af))))
 (aq (bz (aQ QQ ON (ao 2) (a8 GJ DD ah ah) (aJ _)) (aw (Dt (cA (aa (a8 qy ny (ao 2) (a8 GJ DD ah ah)) (aa eh af))))) aM)
 (aw (Dt (cA (aa (a8 qz nA (ao 2) ah) (aa eh af)))))))
def yQ (T:nZ mg)  (jc:Df K mg "_law_take" lH):Fn P w K mg base "_law_take" 1 ["state","many"] (pH K 2 aA):=by
 refine Df.fnI (N:=["state","many","found","mixed"]) (ps:=["state","many"]) (st:=lH) (k:=0) AO kF jc jA yM rfl rfl (by decide) ?_;intro f dH A outer s0 H E hr;exact (aq (bz (cL (aI aB aD (kN 0) ah (λ_ _=>rfl))) (aq (aU (i:=2) jA.nd (a8 qz nA (aI aB aD (kN 0) ah (λ_ _=>rfl)) (ao 1)))
 (aq (DB (i:=0) (a8 qG uB (aI aB aD (kN 0) ah (λ_ _=>rfl)) (ao 1)) ah)
 (aw (aH (ao 2))))) aM)
 (aq (DB (i:=0) (a8 qz nA (a8 aZ a7 (a8 mI kC (aI aB aD (kN 0) ah (λ_ _=>rfl)) ah) ah) ah) ah)
 (aq (aU (i:=3) jA.nd (a8 qz nA (a8 aZ a7 (a8 aZ a7 (a8 mI kC (aI aB aD (kN 0) ah (λ_ _=>rfl)) (aI aB aD (kN 0) ah (λ_ _=>rfl))) (a8 mI kC ah (aI aB aD (kN 0) ah (λ_ _=>rfl)))) ah) ah))
 (aq (aU (i:=3) jA.nd (a8 qz nA (a8 aZ a7 (a8 mI kC (ao 3) (ao 3)) (a8 mI kC ah (ao 3))) ah))
 (aw (aH (a8 qz nA (a8 qG uB (ao 3) ah) (ao 1))))))))
def Be (T:nZ mg)(aG:Fn P w K mg base "_law_take" 1 ["state","many"] (pH K 2 aA))(j9:Df K mg "_law_row" kI):Fn P w K mg base "_law_row" 2 ["state","many"] (pH K 2 iK):=by
 refine Df.fnI (N:=["state","many","way"]) (ps:=["state","many"]) (st:=kI) (k:=1) iJ l4 j9 sG A7 rfl rfl (by decide) ?_;intro f dH A outer s0 H E hr;exact (aq (aU (i:=2) sG.nd (aN (i:=0) aG (rm hr) (aa ah af)))
 (aq (bz (aQ pz lS (ao 2) ah (aJ _)) (aw (aH (cX cg d6 (by rfl) T.zhq bE (aa (qN (ar kI) ["state","many","way"] ["k","state"] [none,some 0] rfl (d5 (aa (ao 1) af) T.zgq) (λY=>⟨(aW (i:=0) (show (["k","state"]:List Str).Nodup by decide+kernel)),ba,(aN (i:=1) aG (rm hr) (aa ah af))⟩)) af)))) aM)
 (aw (aH (cX cg d6 (by rfl) T.zhq bE (aa (qN (ar kI) ["state","many","way"] ["k","state","way"] [none,some 0,some 2] rfl (d5 (aa (ao 1) af) T.zgq) (λY=>⟨(aW (i:=0) (show (["k","state","way"]:List Str).Nodup by decide+kernel)),ba,(aN (i:=1) aG (rm hr) (aa (aI aB aD (cA (aa ah (aa ah af))) (a8 qy ny (ao 2) ah) (λ_ _=>rfl)) af))⟩)) af))))))
theorem wB (T:nZ mg)(aG:Fn P w K mg base "_law_take" 1 ["state","many"] (pH K 2 aA))(ik:Df K mg "_law_order" iM):Fn P w K mg base "_law_order" 2 ["state","many"] (pH K 2 cv):=by
 refine Df.fnI (N:=["state","many","left"]) (ps:=["state","many"]) (st:=iM) (k:=1) l5 l7 ik oy wm rfl rfl (by decide) ?_;intro f dH A outer s0 H E hr;exact (aq (kz (i:=2) oy.nd (DL rfl (aa (ao 1) af) T.ziq T.zgq))
 (aw (aH (cX cg d6 (by rfl) T.zhq bE (aa (qN (ar iM) ["state","many","left"] ["k","left","state"] [none,some 2,some 0] rfl (d5 (aa (ao 1) af) T.zgq) (λY=>⟨(aW (i:=0) (show (["k","left","state"]:List Str).Nodup by decide+kernel)),ba,(oF (i:=1) ZV PySem.F.slot_list_pop PySem.F.type_list_pop GW Fy (aa (aN (i:=2) aG (rm hr) (aa (aE aT bp (by rfl) T.zsq bH (aa (kN 1) af)) af)) af))⟩)) af)))))
def yR (T:nZ mg)  (jd:Df K mg "_law_laid" jX):Fn P w K mg base "_law_laid" 1 ["row","order"] (jf K 2 cF .S):=by
 refine Df.fnD (N:=["row","order"]) (ps:=["row","order"]) (st:=jX) (k:=0) AQ .S mX jd yN yO rfl (by decide) ?_;intro f dH A outer s0 H E hr;exact (aw (aH (cX cg d6 (by rfl) T.zhq bE (aa (dw (ar jX) ["row","order"] ["place","row"] [none,some 0] rfl (cx (ao 1)) (λY=>⟨(aW (i:=0) (show (["place","row"]:List Str).Nodup by decide+kernel)),ba,(aI aB aD (ao 1) (ao 0) (λ_ _=>rfl))⟩)) af))))
def tm (T:nZ mg)(aG:Fn P w K mg base "_law_take" 1 ["state","many"] (pH K 2 aA))(cB:Fn P w K mg base "_law_order" 2 ["state","many"] (pH K 2 cv))(fq:Df K mg "_law_shuffle" dk):Fn P w K mg base "_law_shuffle" 3 ["state","many"] (pH K 2 br):=by
 refine Df.fnI (N:=["state","many","stays","way","order","half","some","size","k","longer"]) (ps:=["state","many"]) (st:=dk) (k:=2) jU dC fq bJ s_ rfl rfl (by decide) ?_;intro f dH A outer s0 H E hr;exact (aq (aU (i:=2) bJ.nd (K9 rfl (aa (ao 1) af) T.zhq T.zgq))
 (aq (aU (i:=3) bJ.nd (aN (i:=0) aG (rm hr) (aa ah af)))
 (aq (bz (aQ rG kE (ao 3) ah (aJ _)) (aw (aH (cX cg d6 (by rfl) T.zhq bE (aa (dw (ar dk) ["state","many","stays","way","order","half","some","size","k","longer"] ["k","stays"] [none,some 2] rfl (d5 (aa (ao 1) af) T.zgq) (λY=>⟨(aW (i:=0) (show (["k","stays"]:List Str).Nodup by decide+kernel)),ba,(a8 aZ a7 (cm cn dU (ao 1) (cH (ao 0)) cY) (cm cn dU (ao 1) cY (cH (ao 0))))⟩)) af)))) aM)
 (aq (bz (aQ rG kE (ao 3) ah (aJ _)) (aq (aU (i:=4) bJ.nd (aN (i:=0) cB (rm hr) (aa (ao 1) af)))
 (aw (aH (av (aa (ao 2) (aa (ao 4) af)))))) aM)
 (aq (bz (aQ rG kE (ao 3) ah (aJ _)) (aq (aU (i:=5) bJ.nd (a8 qG uB (ao 1) ah))
 (aw (aH (av (aa (ao 2) (aa (a8 aZ a7 (a8 aZ a7 (cm cn dU (ao 2) (cH (ao 5)) (cH (a8 mI kC ah (ao 5)))) (cm cn dU (ao 2) cY (cH (ao 5)))) (cm cn dU (ao 2) (cH (a8 mI kC ah (ao 5))) cY)) af)))))) aM)
 (aq (bz (aQ rG kE (ao 3) ah (aJ _)) (aq (aU (i:=6) bJ.nd (cA (aa (av af) af)))
 (aq (aU (i:=7) bJ.nd (aE (wO rfl) zX (by rfl) T.zqq G4 (aa (ao 1) (aa (a8 aZ a7 ah (aN (i:=0) aG (rm hr) (aa ah af))) af))))
 (aq (kP ZP rfl (d5 (aa (ao 7) af) T.zgq) (aW (i:=8) bJ.nd)
 (aq (kz (i:=9) bJ.nd (cA af))
 (aq (kP ZP rfl (cx (ao 6)) (aW (i:=4) bJ.nd)
 (aw (nk (oF (i:=9) ZV abL abM yb oH (aa (dw (ar dk) ["state","many","stays","way","order","half","some","size","k","longer"] ["j","order","k"] [none,some 4,some 8] rfl (d5 (aa (a8 aZ a7 (ao 8) ah) af) T.zgq) (λY=>⟨(aW (i:=0) (show (["j","order","k"]:List Str).Nodup by decide+kernel)),ba,(a8 aZ a7 (a8 aZ a7 (cm cn dU (ao 1) cY (cH (ao 0))) (av (aa (ao 2) af))) (cm cn dU (ao 1) (cH (ao 0)) cY))⟩)) af)))))
 (aw (KZ (i:=6) (j:=9) bJ.nd)))))
 (aw (aH (cX cg d6 (by rfl) T.zhq bE (aa (dw (ar dk) ["state","many","stays","way","order","half","some","size","k","longer"] ["order","stays","size"] [none,some 2,some 7] rfl (cx (ao 6)) (λY=>⟨(aW (i:=0) (show (["order","stays","size"]:List Str).Nodup by decide+kernel)),ba,(a8 aZ a7 (ao 0) (cm cn dU (ao 1) (cH (ao 2)) cY))⟩)) af))))))) aM)
 (aw (aH (cX cg d6 (by rfl) T.zhq bE (aa (qN (ar dk) ["state","many","stays","way","order","half","some","size","k","longer"] ["k","state","many"] [none,some 0,some 1] rfl (d5 (aa (a8 aZ a7 ah (aN (i:=0) aG (rm hr) (aa ah af))) af) T.zgq) (λY=>⟨(aW (i:=0) (show (["k","state","many"]:List Str).Nodup by decide+kernel)),ba,(aN (i:=1) cB (rm hr) (aa (ao 2) af))⟩)) af))))))))))
def Bf (T:nZ mg)(aG:Fn P w K mg base "_law_take" 1 ["state","many"] (pH K 2 aA))(cB:Fn P w K mg base "_law_order" 2 ["state","many"] (pH K 2 cv))(j_:Df K mg "_law_end" nJ):Fn P w K mg base "_law_end" 3 ["state","many"] (pH K 2 fR):=by
 refine Df.fnI (N:=["state","many","order"]) (ps:=["state","many"]) (st:=nJ) (k:=2) CJ oU j_ sH A8 rfl rfl (by decide) ?_;intro f dH A outer s0 H E hr;exact (aq (aU (i:=2) sH.nd (aN (i:=0) cB (rm hr) (aa (ao 1) af)))
 (aw (aH (av (aa aL (aa (cm cn dU (ao 2) cY (cH (a8 aZ a7 ah (aN (i:=0) aG (rm hr) (aa (aI aB aD (cA (aa ah (aa (ao 1) af))) (aN (i:=0) aG (rm hr) (aa ah af)) (λ_ _=>rfl)) af))))) af))))))
theorem yS (T:nZ mg)(aG:Fn P w K mg base "_law_take" 1 ["state","many"] (pH K 2 aA))(cB:Fn P w K mg base "_law_order" 2 ["state","many"] (pH K 2 cv))(gg:Fn P w K mg base "_law_laid" 1 ["row","order"] (jf K 2 cF .S))(ka:Fn P w K mg base "_law_end" 3 ["state","many"] (pH K 2 fR))(ke:Fn P w K mg base "_law_shuffle" 3 ["state","many"] (pH K 2 br))(gj:Df K mg "_law_look" fI)(gr:Df K mg "_law_plan" g7):∀n,(Fn P w K mg base "_law_look" (n+4) ["state","rows","deep","again"] (pH K 4 (kH n)))/\(Fn P w K mg base "_law_plan" (n+4) ["state","rows","deep","again"] (pH K 4 (bU n))):=by
 intro n
 induction n with
 |zero=>
  refine⟨?_,?_⟩
  ·
   refine Df.fnI (N:=["state","rows","deep","again","many","places","seen","ways","some","left","more"]) (ps:=["state","rows","deep","again"]) (st:=fI) (k:=3) kG (fZ 0) gj cS qd rfl rfl (by decide) ?_;intro f dH A outer s0 H E hr;have hu:=hr.units;have Gi:=n_ hr;exact pQ
  ·
   refine Df.fnI (N:=["state","rows","deep","again","many","way","order","shuffle","fresh"]) (ps:=["state","rows","deep","again"]) (st:=g7) (k:=3) sD (cG 0) gr dQ qe rfl rfl (by decide) ?_;intro f dH A outer s0 H E hr;have hu:=hr.units;have Gi:=n_ hr;exact pQ
 |succ n ih=>
  obtain⟨sR,ft⟩:=ih;refine⟨?_,?_⟩
  ·
   refine Df.fnI (N:=["state","rows","deep","again","many","places","seen","ways","some","left","more"]) (ps:=["state","rows","deep","again"]) (st:=fI) (k:=n+4) kG (fZ (n+1)) gj cS qd rfl rfl (by decide) ?_;intro f dH A outer s0 H E hr;have hu:=hr.units;have Gi:=n_ hr;exact (aq (aU (i:=4) cS.nd (aE aT bp (by rfl) T.zsq bH (aa (zqa 1) af)))
 (aq (aU (i:=5) cS.nd (cm cn dU (aN (i:=0) cB (rm hr) (aa (ao 4) af)) cY (cH (a8 aZ a7 ah (a8 mI kC (aN (i:=0) aG (rm hr) (aa ah af)) (cX Fg K8 (by rfl) T.zlq B0 (aa (gI rH mP (ao 4) ah (aJ _)) af)))))))
 (aq (aU (i:=6) cS.nd (lX rfl hu (aa (dw (ar fI) ["state","rows","deep","again","many","places","seen","ways","some","left","more"] ["row","places"] [none,some 5] rfl (cx (ao 1)) (λY=>⟨(aW (i:=0) (show (["row","places"]:List Str).Nodup by decide+kernel)),ba,(aY gg (rm hr) (aa (ao 0) (aa (ao 1) af)))⟩)) af) T.zfq T.znq))
 (aq (bz (aQ rH mP (aE aT bp (by rfl) T.zsq bH (aa (ao 6) af)) ah (aJ _)) (aw (aH (aN (i:=0) ka (rm hr) (aa (ao 4) af)))) aM)
 (aq (kz (i:=7) cS.nd (cA af))
 (aq (kP ZP rfl (cx (ao 6)) (aW (i:=8) cS.nd)
 (aq (nu (i:=9) (ar fI) ["state","rows","deep","again","many","places","seen","ways","some","left","more"] ["row","some","places"] [none,some 8,some 5] cS.nd rfl (cx (ao 1)) (λY=>⟨(aW (i:=0) (show (["row","some","places"]:List Str).Nodup by decide+kernel)),(Hl (aQ (bO hu) (bR (f:=id)) (aY gg (rm hr) (aa (ao 0) (aa (ao 2) af))) (ao 1) (aJ _))),(ao 0)⟩))
 (aw (nk (oF (i:=7) ZV abJ abK qD oG (aa (av (aa (ao 8) (aa (aN (i:=0) ft (rm hr) (aa (ao 9) (aa (a8 qy ny (ao 2) ah) (aa (ao 3) af)))) af))) af))))))
 (aq (bz (aQ rG kE (aN (i:=0) aG (rm hr) (aa ah af)) ah (aJ _)) (aq (aU (i:=10) cS.nd (cX cg d6 (by rfl) T.zhq bE (aa (qN (ar fI) ["state","rows","deep","again","many","places","seen","ways","some","left","more"] ["place","state"] [none,some 0] rfl (cx (ao 5)) (λY=>⟨(aW (i:=0) (show (["place","state"]:List Str).Nodup by decide+kernel)),ba,(aN (i:=1) aG (rm hr) (aa ah af))⟩)) af)))
 (aw (bz (aQ (F1 hu) vk (ao 10) (ao 6) (by with_unfolding_all rfl)) (aw (kz (i:=7) cS.nd (aE (CC rfl hu) F0 (by rfl) T.zfq qH (aa (Pb (j:=7) aZ a7 (cA (aa (av (aa (ao 10) (aa (aN (i:=0) ka (rm hr) (aa (ao 4) af)) af))) af))) af)))) aM))) aM)
 (aw (aH (av (aa aL (aa (ao 5) (aa (cX cg d6 (by rfl) T.zhq bE (aa (kN 7) af)) af)))))))))))))
  ·
   refine Df.fnI (N:=["state","rows","deep","again","many","way","order","shuffle","fresh"]) (ps:=["state","rows","deep","again"]) (st:=g7) (k:=n+4) sD (cG (n+1)) gr dQ qe rfl rfl (by decide) ?_;intro f dH A outer s0 H E hr;have hu:=hr.units;have Gi:=n_ hr;exact (aq (aU (i:=4) dQ.nd (aE aT bp (by rfl) T.zsq bH (aa (zqa 1) af)))
 (aq (aU (i:=5) dQ.nd (aN (i:=0) aG (rm hr) (aa ah af)))
 (aq (bz (DW.dt (iA (aQ pz lS (ao 2) ah (aJ _)) (gK (aQ rG kE (ao 5) ah (aJ _))))) (aw (aH (aN (i:=0) ka (rm hr) (aa (ao 4) af)))) aM)
 (aq (bz (DW.dt (gN (aQ rG kE (ao 5) ah (aJ _)) (ky (cL (ao 3))))) (aw (aH (av (aa aL af)))) aM)
 (aq (bz (aQ pz lS (ao 5) ah (aJ _)) (aq (aU (i:=6) dQ.nd (aN (i:=0) cB (rm hr) (aa (ao 4) af)))
 (aw (aH (av (aa aL (aa (ao 6) (aa (aN (i:=0) ft (rm hr) (aa (lX rfl hu (aa (dw (ar g7) ["state","rows","deep","again","many","way","order","shuffle","fresh"] ["row","order"] [none,some 6] rfl (cx (ao 1)) (λY=>⟨(aW (i:=0) (show (["row","order"]:List Str).Nodup by decide+kernel)),ba,(aY gg (rm hr) (aa (ao 0) (aa (ao 1) af)))⟩)) af) T.zfq T.znq) (aa (a8 qy ny (ao 2) ah) (aa (ao 3) af)))) af))))))) aM)
 (aq (bz (aQ pz lS (ao 5) ah (aJ _)) (aq (aU (i:=7) dQ.nd (aN (i:=0) ke (rm hr) (aa (ao 4) af)))
 (aq (kz (i:=8) dQ.nd (cA af))
 (aq (kP ZP rfl (cx (ao 7)) (aW (i:=6) dQ.nd)
 (aw (nk (oF (i:=8) ZV abL abM yb oH (aa (dw (ar g7) ["state","rows","deep","again","many","way","order","shuffle","fresh"] ["row","order"] [none,some 6] rfl (cx (ao 1)) (λY=>⟨(aW (i:=0) (show (["row","order"]:List Str).Nodup by decide+kernel)),ba,(aY gg (rm hr) (aa (ao 0) (aa (ao 1) af)))⟩)) af)))))
 (aw (aH (av (aa aL (aa (ao 7) (aa (aN (i:=0) ft (rm hr) (aa (lX rfl hu (aa (kN 8) af) T.zfq T.znq) (aa (a8 qy ny (ao 2) ah) (aa (ao 3) af)))) af))))))))) aM)
 (aw (aH (aN (i:=0) sR (rm hr) (aa (ao 1) (aa (ao 2) (aa (ao 3) af))))))))))))
theorem yT (T:nZ mg)  (gu:Df K mg "_law_size" i8):∀n,Fn P w K mg base "_law_size" (n+1) ["plan"] (jf K 1 (fg n) .S):=by
 intro n
 induction n with
 |zero=>
  refine Df.fnD (N:=["plan"]) (ps:=["plan"]) (st:=i8) (k:=0) sE .S (f9 0) gu qf qg rfl (by decide) ?_;intro f dH A outer s0 H E hr;have hu:=hr.units;have Gi:=n_ hr;exact pQ
 |succ n gz=>
  refine Df.fnD (N:=["plan"]) (ps:=["plan"]) (st:=i8) (k:=n+1) sE .S (f9 (n+1)) gu qf qg rfl (by decide) ?_;intro f dH A outer s0 H E hr;have hu:=hr.units;have Gi:=n_ hr;exact (aq (bz (aQ (yB hu) vk (zqa 0) (av (aa aL (aa aL af))) (by with_unfolding_all rfl)) (aw (aH (a8 aZ a7 ah (aY gz (rm hr) (aa (zqa 0) af))))) aM)
 (aq (bz (aQ rG kE (zqa 0) aL (aJ _)) (aw (aH (a8 aZ a7 ah (aE (rf rfl) vh (by rfl) T.zoq B3 (aa (dw (ar i8) ["plan"] ["way"] [none] rfl (cx (zqa 0)) (λY=>⟨(aW (i:=0) (show (["way"]:List Str).Nodup by decide+kernel)),ba,(aY gz (rm hr) (aa (zqa 0) af))⟩)) af))))) aM)
 (aw (aH ah))))
def wC (T:nZ mg)(ft:∀n,Fn P w K mg base "_law_plan" (n+4) ["state","rows","deep","again"] (pH K 4 (bU n)))(gz:∀n,Fn P w K mg base "_law_size" (n+1) ["plan"] (jf K 1 (fg n) .S))(iq:Df K mg "_law_drawn" jF):Fn P w K mg base "_law_drawn" 22 ["state","rows","deep","again"] (pH K 4 gY):=by
 refine Df.fnI (N:=["state","rows","deep","again","plan"]) (ps:=["state","rows","deep","again"]) (st:=jF) (k:=21) yG jx iq oz wq rfl rfl (by decide) ?_;intro f dH A outer s0 H E hr;have hu:=hr.units;exact (aq (aU (i:=4) oz.nd (aN (i:=0) (ft 8) (rm hr) (aa (lX rfl hu (aa (ao 1) af) T.zfq T.znq) (aa (ao 2) (aa (ao 3) af)))))
 (aw (aH (Hb (hc:=(aQ pz lS (aY (gz 20) (rm hr) (aa (ao 4) af)) ah (aJ _))) (ha:=(ao 4)) (hb:=(av (aa aL (aa (av (aa ah af)) af))))))))
def vx (T:nZ mg)  (fK:Df K mg "_law_number" iN):Fn P w K mg base "_law_number" 1 ["thing","low","high"] (jf K 3 cu .S):=by
 refine Df.fnD (N:=["thing","low","high"]) (ps:=["thing","low","high"]) (st:=iN) (k:=0) v_ .S iU fK vt vv rfl (by decide) ?_;intro f dH A outer s0 H E hr;exact (aw (aH (gO (ha:=(di (T:="int") (by decide) (ao 0) T.zeq T.zlq B0)) (hb:=(gO (ha:=(B7 (di (T:="bool") (by decide) (ao 0) T.zeq T.zjq xV))) (hb:=(jK (uv pA lT pA lT (ao 1) (ao 0) (ao 2)))))))))
def oZ (T:nZ mg)(eO:Fn P w K mg base "_law_number" 1 ["thing","low","high"] (jf K 3 cu .S))(dR:Df K mg "_law_are_places" dW):Fn P w K mg base "_law_are_places" 2 ["thing","many"] (jf K 2 bu .S):=by
 refine Df.fnD (N:=["thing","many"]) (ps:=["thing","many"]) (st:=dW) (k:=1) qc .S dP dR oW oX rfl (by decide) ?_;intro f dH A outer s0 H E hr;have hu:=hr.units;exact (aq (bz (DW.dt (iA (d0 (cL (di (T:="tuple") (by decide) (ao 0) T.zeq T.zhq bE))) (iA (aQ (bO hu) (bR (f:=id)) (ao 0) (av af) (aJ _)) (gK (d0 (cL (aE (eN rfl) iQ (by rfl) T.zmq kM (aa (dw (ar dW) ["thing","many"] ["place","many"] [none,some 1] rfl (cx (ao 0)) (λY=>⟨(aW (i:=0) (show (["place","many"]:List Str).Nodup by decide+kernel)),ba,(aY eO (rm hr) (aa (ao 0) (aa ah (aa (a8 qy ny (ao 1) ah) af))))⟩)) af)))))))) (aw (aH eh)) aM)
 (aw (aH (gI (bO hu) (bR (f:=id)) (xj rfl (aa (ao 0) af) (by rfl) T.zsq (by rfl) T.znq) (aE aT bp (by rfl) T.zsq bH (aa (ao 0) af)) (aJ _)))))
def rk (T:nZ mg)(eO:Fn P w K mg base "_law_number" 1 ["thing","low","high"] (jf K 3 cu .S))(eM:Df K mg "_law_are_ways" fh):Fn P w K mg base "_law_are_ways" 2 ["thing","size","many"] (jf K 3 eL .S):=by
 refine Df.fnD (N:=["thing","size","many","last","way"]) (ps:=["thing","size","many"]) (st:=fh) (k:=1) sX .S jj eM fy rj rfl (by decide) ?_;intro f dH A outer s0 H E hr;have hu:=hr.units;exact (aq (bz (DW.dt (iA (d0 (cL (di (T:="tuple") (by decide) (ao 0) T.zeq T.zhq bE))) (gK (aQ (bO hu) (bR (f:=id)) (ao 0) (av af) (aJ _))))) (aw (aH eh)) aM)
 (aq (aU (i:=3) fy.nd jg)
 (aq (kP ZP rfl (cx (ao 0)) (aW (i:=4) fy.nd)
 (aq (bz (DW.dt (iA (d0 (cL (di (T:="tuple") (by decide) (ao 4) T.zeq T.zhq bE))) (iA (aQ zp qb (aE aT bp (by rfl) T.zsq bH (aa (ao 4) af)) ah (aJ _)) (iA (d0 (cL (di (T:="tuple") (by decide) (zqa 4) T.zeq T.zhq bE))) (gK (aQ zp qb (aE aT bp (by rfl) T.zsq bH (aa (zqa 4) af)) (ao 1) (aJ _))))))) (aw (aH eh)) aM)
 (aq (bz (DW.dt (iA (d0 (cL (aE (eN rfl) iQ (by rfl) T.zmq kM (aa (dw (ar fh) ["thing","size","many","last","way"] ["card"] [none] rfl (cx (zqa 4)) (λY=>⟨(aW (i:=0) (show (["card"]:List Str).Nodup by decide+kernel)),ba,(aY eO (rm hr) (aa (ao 0) (aa ah (aa ah af))))⟩)) af)))) (gK (DW.dt (gN (aQ Dn zU (ao 3) jg (aJ _)) (ky (aQ (Pg hu) LH (zqa 4) (ao 3) (aJ _)))))))) (aw (aH eh)) aM)
 (aw (aU (i:=3) fy.nd (zqa 4))))))
 (aw (aH eh)))))
theorem vy (T:nZ mg)(c7:Fn P w K mg base "_law_are_places" 2 ["thing","many"] (jf K 2 bu .S))(jo:Fn P w K mg base "_law_are_ways" 2 ["thing","size","many"] (jf K 3 eL .S))(eP:Df K mg "_law_counts" de):∀n,Fn P w K mg base "_law_counts" (n+3) ["thing","many"] (jf K 2 (aS n) .S):=by
 intro n
 induction n with
 |zero=>
  refine Df.fnD (N:=["thing","many","parts","some"]) (ps:=["thing","many"]) (st:=de) (k:=2) ow .S (bw 0) eP dD mY rfl (by decide) ?_;intro f dH A outer s0 H E hr;have hu:=hr.units;have Gi:=n_ hr;exact pQ
 |succ n fL=>
  refine Df.fnD (N:=["thing","many","parts","some"]) (ps:=["thing","many"]) (st:=de) (k:=n+3) ow .S (bw (n+1)) eP dD mY rfl (by decide) ?_;intro f dH A outer s0 H E hr;have hu:=hr.units;have Gi:=n_ hr;exact (aq (bz (DW.dt (iA (d0 (cL (di (T:="tuple") (by decide) (ao 0) T.zeq T.zhq bE))) (iA (aQ (bO hu) (bR (f:=id)) (aE aT bp (by rfl) T.zsq bH (aa (ao 0) af)) ah (aJ _)) (gK (d0 (cL (di (T:="str") (by decide) (zqa 0) T.zeq T.zkq Ox))))))) (aw (aH jg)) aM)
 (aq (bz (aQ (bO hu) (bR (f:=id)) (ao 0) (av (aa aL af)) (aJ _)) (aw (aH (av (aa ah (aa ah af))))) aM)
 (aq (bz (DW.dt (gN (aQ (bO hu) (bR (f:=id)) (aE aT bp (by rfl) T.zsq bH (aa (ao 0) af)) ah (aJ _)) (gN (aQ (bO hu) (bR (f:=id)) (zqa 0) aL (aJ _)) (ky (cL (aY c7 (rm hr) (aa (zqa 0) (aa (ao 1) af)))))))) (aw (aH (av (aa ah (aa ah af))))) aM)
 (aq (aU (i:=2) dD.nd jg)
 (aq (bz (DW.dt (gN (aQ (bO hu) (bR (f:=id)) (aE aT bp (by rfl) T.zsq bH (aa (ao 0) af)) ah (aJ _)) (gN (aQ (bO hu) (bR (f:=id)) (zqa 0) aL (aJ _)) (gN (cL (aY c7 (rm hr) (aa (zqa 0) (aa (ao 1) af)))) (ky (aQ (bO hu) (bR (f:=id)) (aE aT bp (by rfl) T.zsq bH (aa (zqa 0) af)) (ao 1) (aJ _))))))) (aw (aU (i:=2) dD.nd (cA (aa (zqa 0) af)))) aM)
 (aq (bz (DW.dt (gN (aQ (bO hu) (bR (f:=id)) (aE aT bp (by rfl) T.zsq bH (aa (ao 0) af)) ah (aJ _)) (gN (aQ (bO hu) (bR (f:=id)) (zqa 0) aL (aJ _)) (gN (cL (di (T:="tuple") (by decide) (zqa 0) T.zeq T.zhq bE)) (ky (zE pA lT pA lT ah (aE aT bp (by rfl) T.zsq bH (aa (zqa 0) af)) ah)))))) (aw (bz (cL (aE (eN rfl) iQ (by rfl) T.zmq kM (aa (dw (ar de) ["thing","many","parts","some"] ["order","many"] [none,some 1] rfl (cx (zqa 0)) (λY=>⟨(aW (i:=0) (show (["order","many"]:List Str).Nodup by decide+kernel)),ba,(gO (ha:=(aY c7 (rm hr) (aa (ao 0) (aa (ao 1) af)))) (hb:=(jK (gI (bO hu) (bR (f:=id)) (aE aT bp (by rfl) T.zsq bH (aa (ao 0) af)) (ao 1) (aJ _)))))⟩)) af))) (aw (aU (i:=2) dD.nd (cA (aa (zqa 0) af)))) aM)) aM)
 (aq (bz (DW.dt (gN (aQ (bO hu) (bR (f:=id)) (aE aT bp (by rfl) T.zsq bH (aa (ao 0) af)) ah (aJ _)) (gN (aQ (bO hu) (bR (f:=id)) (zqa 0) aL (aJ _)) (ky (cL (aY c7 (rm hr) (aa (zqa 0) (aa (ao 1) af)))))))) (aw (bz (cL (aY jo (rm hr) (aa (zqa 0) (aa (aE aT bp (by rfl) T.zsq bH (aa (zqa 0) af)) (aa (ao 1) af))))) (aw (nu (i:=2) (ar de) ["thing","many","parts","some"] ["way"] [none] dD.nd rfl (cx (zqa 0)) (λY=>⟨(aW (i:=0) (show (["way"]:List Str).Nodup by decide+kernel)),ba,(zqa 0)⟩))) aM)) aM)
 (aq (bz (aQ Of K6 (ao 2) jg (aJ _)) (aw (aH jg)) aM)
 (aq (nu (i:=3) (ar de) ["thing","many","parts","some"] ["part","many"] [none,some 1] dD.nd rfl (cx (ao 2)) (λY=>⟨(aW (i:=0) (show (["part","many"]:List Str).Nodup by decide+kernel)),ba,(aY fL (rm hr) (aa (ao 0) (aa (ao 1) af)))⟩))
 (aq (bz (aQ (yB hu) vk jg (ao 3) (by with_unfolding_all rfl)) (aw (aH jg)) aM)
 (aw (aH (av (aa (a8 aZ a7 ah (aE (rf rfl) vh (by rfl) T.zoq B3 (aa (dw (ar de) ["thing","many","parts","some"] ["one"] [none] rfl (cx (ao 3)) (λY=>⟨(aW (i:=0) (show (["one"]:List Str).Nodup by decide+kernel)),ba,(zqa 0)⟩)) af))) (aa (a8 aZ a7 ah (aE (FY rfl) IY (by rfl) T.zpq G3 (aa (dw (ar de) ["thing","many","parts","some"] ["one"] [none] rfl (cx (ao 3)) (λY=>⟨(aW (i:=0) (show (["one"]:List Str).Nodup by decide+kernel)),ba,(zqa 0)⟩)) af))) af)))))))))))))))
def wD (T:nZ mg)(aG:Fn P w K mg base "_law_take" 1 ["state","many"] (pH K 2 aA))(ir:Df K mg "_law_other" jG):Fn P w K mg base "_law_other" 2 ["state","plan"] (pH K 2 eF):=by
 refine Df.fnI (N:=["state","plan","odd","row","k","fresh","order"]) (ps:=["state","plan"]) (st:=jG) (k:=1) yH gZ ir bV wt rfl rfl (by decide) ?_;intro f dH A outer s0 H E hr;have hu:=hr.units;exact (aq (aU (i:=2) bV.nd (cA (Qg (aV jg (aV (av af) (aV aL (aV (av (aa aL (aa ah af))) (aV (av (aa aL af)) (aV (av (aa aL (aa (av af) af))) (aV (av (aa aL (aa (av (aa ah (aa ah af))) af))) (aV (av (aa aL (aa (cA (aa ah af)) af))) (aV (av (aa aL (aa (av (aa eh af)) af))) (aV eh nD)))))))))))))
 (aq (aU (i:=2) bV.nd (a8 aZ a7 (ao 2) (cA (Qg (aV (av (aa aL (aa (av (aa (Hd BP x9 ah) af)) af))) (aV (av (aa aL (aa (av af) (aa (ao 1) af)))) (aV (av (aa aL (aa (av (aa ah af)) (aa (ao 1) af)))) (aV (cA (aa aL af)) (aV (av (aa aL (aa (av (aa ah af)) (aa (av af) af)))) (aV (a8 aZ a7 (ao 1) (av (aa ah af))) nD))))))))))
 (aq (aU (i:=2) bV.nd (a8 aZ a7 (ao 2) (cA (aa (av (aa aL (aa (av (aa ah af)) (aa (av (aa (av (aa (av (aa ah af)) (aa (ao 1) af))) (aa (av (aa (av (aa ah af)) (aa (ao 1) af))) af))) af)))) (aa (av (aa aL (aa (av (aa ah af)) (aa (av (aa (av (aa (av (aa ah af)) (aa (ao 1) af))) (aa (av (aa (av (aa ah af)) (aa (ao 1) af))) af))) af)))) af)))))
 (aq (aU (i:=2) bV.nd (a8 aZ a7 (ao 2) (cA (Qg (aV (av (aa aL (aa (av (aa ah af)) (aa (av (aa (av (aa (av (aa ah af)) (aa (ao 1) af))) af)) af)))) (aV (av (aa aL (aa (av (aa ah af)) (aa (av (aa (av (aa (av (aa ah (aa ah af))) (aa (ao 1) af))) af)) af)))) (aV (av (aa aL af)) (aV (cX pD zV (by rfl) T.ziq xU (aa (ao 1) af)) nD))))))))
 (aq (bz (aQ (yB hu) vk (zqa 1) (av (aa aL (aa aL (aa aL af)))) (by with_unfolding_all rfl)) (aq (aU (i:=3) bV.nd (zqa 1))
 (aq (aU (i:=4) bV.nd (aN (i:=0) aG (rm hr) (aa (aE aT bp (by rfl) T.zsq bH (aa (ao 3) af)) af)))
 (aq (aU (i:=5) bV.nd (aI aB aD (cA (Qg (aV (aE aT bp (by rfl) T.zsq bH (aa (ao 3) af)) (aV ah (aV (Hd BP x9 ah) (aV jg (aV eh (aV (zqa 3) nD)))))))) (aN (i:=0) aG (rm hr) (aa ah af)) (λ_ _=>rfl)))
 (aw (aU (i:=2) bV.nd (a8 aZ a7 (ao 2) (a8 yA vf (cA (aa (a8 aZ a7 (av (aa (zqa 1) (aa (a8 aZ a7 (a8 aZ a7 (cm cn dU (ao 3) cY (cH (ao 4))) (av (aa (ao 5) af))) (cm cn dU (ao 3) (cH (a8 aZ a7 (ao 4) ah)) cY)) af))) (cm cn dU (ao 1) (cH ah) cY)) (aa (a8 aZ a7 (av (aa (zqa 1) (aa (cm cn dU (ao 3) (cH ah) cY) af))) (cm cn dU (ao 1) (cH ah) cY)) af))) ah))))))) aM)
 (aq (bz (aQ (bO hu) (bR (f:=id)) (zqa 1) aL (aJ _)) (aq (aU (i:=6) bV.nd (aI aB aD (zqa 1) ah (λ_ _=>rfl)))
 (aq (aU (i:=2) bV.nd (a8 aZ a7 (ao 2) (a8 yA vf (cA (aa (av (aa aL (aa (a8 DZ Af (zqa 1) ah) (aa (zqa 1) af)))) (aa (av (aa aL (aa (a8 aZ a7 (zqa 1) (av (aa (cm cn dU (ao 6) cY (cH (Hd BP x9 ah))) af))) (aa (zqa 1) af)))) af))) ah)))
 (aw (aU (i:=2) bV.nd (a8 aZ a7 (ao 2) (a8 yA vf (cA (aa (av (aa aL (aa (cX pD zV (by rfl) T.ziq xU (aa (zqa 1) af)) (aa (zqa 1) af)))) (aa (av (aa aL (aa (a8 DZ Af (av (aa (ao 6) af)) ah) (aa (zqa 1) af)))) af))) ah)))))) aM)
 (aw (aH (aI aB aD (ao 2) (aN (i:=0) aG (rm hr) (aa (aE aT bp (by rfl) T.zsq bH (aa (ao 2) af)) af)) (λ_ _=>rfl))))))))))
theorem yU (T:nZ mg)(aG:Fn P w K mg base "_law_take" 1 ["state","many"] (pH K 2 aA))(mq:Fn P w K mg base "_law_other" 2 ["state","plan"] (pH K 2 eF))(gD:Df K mg "_law_bent" jY):∀n,Fn P w K mg base "_law_bent" (n+3) ["state","plan"] (pH K 2 (eB n)):=by
 intro n
 induction n with
 |zero=>
  refine Df.fnI (N:=["state","plan","k","way"]) (ps:=["state","plan"]) (st:=jY) (k:=2) sF (eA 0) gD jB qh rfl rfl (by decide) ?_;intro f dH A outer s0 H E hr;have hu:=hr.units;have Gi:=n_ hr;exact pQ
 |succ n je=>
  refine Df.fnI (N:=["state","plan","k","way"]) (ps:=["state","plan"]) (st:=jY) (k:=n+3) sF (eA (n+1)) gD jB qh rfl rfl (by decide) ?_;intro f dH A outer s0 H E hr;have hu:=hr.units;have Gi:=n_ hr;exact (aq (bz (DW.dt (gN (aQ (yB hu) vk (zqa 1) (av (aa aL (aa aL af))) (by with_unfolding_all rfl)) (ky (aQ rH mP (aN (i:=0) aG (rm hr) (aa ah af)) ah (aJ _))))) (aw (aH (a8 aZ a7 (cm cn dU (ao 1) cY (cH ah)) (av (aa (aN (i:=0) je (rm hr) (aa (zqa 1) af)) af))))) aM)
 (aq (bz (DW.dt (gN (aQ (bO hu) (bR (f:=id)) (zqa 1) aL (aJ _)) (ky (aQ rH mP (aN (i:=0) aG (rm hr) (aa ah af)) ah (aJ _))))) (aq (aU (i:=2) jB.nd (aN (i:=0) aG (rm hr) (aa (aE aT bp (by rfl) T.zsq bH (aa (zqa 1) af)) af)))
 (aq (aU (i:=3) jB.nd (av (aa (aI aB aD (aI aB aD (zqa 1) (ao 2) (λ_ _=>rfl)) ah (λ_ _=>rfl)) (aa (aN (i:=0) je (rm hr) (aa (aI aB aD (aI aB aD (zqa 1) (ao 2) (λ_ _=>rfl)) ah (λ_ _=>rfl)) af)) af))))
 (aw (aH (a8 aZ a7 (cm cn dU (ao 1) cY (cH ah)) (av (aa (a8 aZ a7 (a8 aZ a7 (cm cn dU (zqa 1) cY (cH (ao 2))) (av (aa (ao 3) af))) (cm cn dU (zqa 1) (cH (a8 aZ a7 (ao 2) ah)) cY)) af))))))) aM)
 (aw (aH (aN (i:=0) mq (rm hr) (aa (ao 1) af))))))
def wF (T:nZ mg)(rF:Fn P w K mg base "is_plan" 6 ["thing","many"] (jf K 2 lE .S))(pf:Fn P w K mg base "plans_in" 3 ["plan"] (jf K 1 jT .S))(fL:∀n,Fn P w K mg base "_law_counts" (n+3) ["thing","many"] (jf K 2 (aS n) .S))(iw:Df K mg "_law_right" jH):Fn P w K mg base "_law_right" 28 ["thing","many"] (jf K 2 eG .S):=by
 refine Df.fnD (N:=["thing","many","found","counts","due"]) (ps:=["thing","many"]) (st:=jH) (k:=27) yI .S fx iw iV wu rfl (by decide) ?_;intro f dH A outer s0 H E hr;have hu:=hr.units;exact (aq (aU (i:=2) iV.nd (aY rF (rm hr) (aa (ao 0) (aa (ao 1) af))))
 (aq (aU (i:=3) iV.nd (aY (fL 24) (rm hr) (aa (ao 0) (aa (ao 1) af))))
 (aq (aU (i:=4) iV.nd (gO (ha:=(gI Dn zU (ao 3) jg (aJ _))) (hb:=(gO (ha:=(gI pz lS (zqa 3) ah (aJ _))) (hb:=(jK (gI pz lS (zqa 3) ah (aJ _))))))))
 (aq (bz (DW.dt (iA (d0 (cL (di (T:="bool") (by decide) (ao 2) T.zeq T.zjq xV))) (gK (aQ zp qb (ao 2) (ao 4) (aJ _))))) (aw (aH eh)) aM)
 (aw (aH (Rg (ha:=(B7 (ao 4))) (hb:=(jK (gI (bO hu) (bR (f:=id)) (aY pf (rm hr) (aa (ao 0) af)) (zqa 3) (aJ _)))))))))))
def wG (T:nZ mg)(aG:Fn P w K mg base "_law_take" 1 ["state","many"] (pH K 2 aA))(iy:Df K mg "_law_great" gc):Fn P w K mg base "_law_great" 2 ["state"] (pH K 1 jy):=by
 refine Df.fnI (N:=["state","plan","k","ways","last","wide","more"]) (ps:=["state"]) (st:=gc) (k:=1) yJ l9 iy dq wx rfl rfl (by decide) ?_;intro f dH A outer s0 H E hr;exact (aq (aU (i:=1) dq.nd (av (aa aL (aa (av (aa ah af)) af))))
 (aq (kP ZP rfl (d5 (aa (aI aB aD (cA (aa ah (aa ah (aa ah af)))) (aN (i:=0) aG (rm hr) (aa ah af)) (λ_ _=>rfl)) af) T.zgq) (aW (i:=2) dq.nd)
 (aw (aU (i:=1) dq.nd (av (aa aL (aa (av (aa ah af)) (aa (ao 1) af)))))))
 (aq (nu (i:=3) (ar gc) ["state","plan","k","ways","last","wide","more"] ["k"] [none] dq.nd rfl (d5 (aa ah af) T.zgq) (λY=>⟨(aW (i:=0) (show (["k"]:List Str).Nodup by decide+kernel)),ba,(av (aa (av (aa (ao 0) af)) (aa (av (aa aL (aa (av (aa ah af)) (aa (av (aa aL (aa (av (aa ah af)) (aa (av (aa aL (aa (av (aa ah af)) (aa (av (aa aL (aa (av (aa ah af)) (aa (av (aa aL (aa (av (aa ah af)) af))) af)))) af)))) af)))) af)))) af)))⟩))
 (aq (aU (i:=4) dq.nd (av (aa aL (aa (av (aa ah af)) (aa (a8 aZ a7 (av (aa (av (aa (av (aa ah af)) (aa (av (aa aL (aa (av (aa ah af)) af))) af))) af)) (cX cg d6 (by rfl) T.zhq bE (aa (dw (ar gc) ["state","plan","k","ways","last","wide","more"] ["k"] [none] rfl (Fv (aa ah (aa ah af)) T.zgq) (λY=>⟨(aW (i:=0) (show (["k"]:List Str).Nodup by decide+kernel)),ba,(av (aa (av (aa (ao 0) af)) (aa (av (aa aL af)) af)))⟩)) af))) af)))))
 (aq (aU (i:=5) dq.nd (av (aa aL (aa (av (aa ah af)) (aa (a8 aZ a7 (cX cg d6 (by rfl) T.zhq bE (aa (ao 3) af)) (av (aa (av (aa (av (aa ah af)) (aa (ao 4) af))) af))) af)))))
 (aq (aU (i:=6) dq.nd (av (aa aL (aa (av (aa ah af)) (aa (av (aa (av (aa (av (aa ah af)) (aa (ao 5) af))) (aa (av (aa (av (aa ah af)) (aa (av (aa aL af)) af))) (aa (av (aa (av (aa ah af)) (aa (av (aa aL af)) af))) af)))) af)))))
 (aw (aH (cA (Qg (aV (ao 1) (aV (ao 5) (aV (av (aa aL (aa (av (aa ah af)) (aa (ao 5) af)))) (aV (ao 6) (aV (av (aa aL (aa (av (aa ah af)) (aa (ao 6) af)))) (aV (av (aa aL (aa (av (aa ah af)) (aa (av (aa aL (aa (av (aa ah af)) (aa (ao 6) af)))) af)))) nD))))))))))))))))
def Ph (T:nZ mg)(FL:J5 K "law" "law" yK f fd)(j3:Df K mg "is_whole" lF)(lJ:Df K mg "is_card" nI)(j4:Df K mg "is_order" jV)(ic:Df K mg "is_shuffle" fS)(ig:Df K mg "are_places" fT)(m_:Df K mg "is_way" oV)(j5:Df K mg "are_ways" i7)(j6:Df K mg "has_form" lG)(fk:Df K mg "plans_within" eH)(lK:Df K mg "is_plan" l_)(jb:Df K mg "levels_of" jD)(j7:Df K mg "plans_in" jW)(fo:Df K mg "_law_cell_at" iL)(ij:Df K mg "_law_state" jE)(jc:Df K mg "_law_take" lH)(j9:Df K mg "_law_row" kI)(ik:Df K mg "_law_order" iM)(jd:Df K mg "_law_laid" jX)(fq:Df K mg "_law_shuffle" dk)(j_:Df K mg "_law_end" nJ)(gj:Df K mg "_law_look" fI)(gr:Df K mg "_law_plan" g7)(gu:Df K mg "_law_size" i8)(iq:Df K mg "_law_drawn" jF)(fK:Df K mg "_law_number" iN)(dR:Df K mg "_law_are_places" dW)(eM:Df K mg "_law_are_ways" fh)(eP:Df K mg "_law_counts" de)(ir:Df K mg "_law_other" jG)(gD:Df K mg "_law_bent" jY)(iw:Df K mg "_law_right" jH)(iy:Df K mg "_law_great" gc)(hp:∀ns:List Int,ns.length<=63->AR [.scr (ns.map .int)]=.ok (.bl true)):nQ P w K mg base zw 29 f fd ["script"] (zN K):=by
 have eI:=A9 (P:=P) (w:=w) (base:=base) T  j3;have rE:=CN (P:=P) (w:=w) (base:=base) T eI lJ;have iO:=A_ (P:=P) (w:=w) (base:=base) T eI j4;have mn:=wy (P:=P) (w:=w) (base:=base) T iO ic;have jC:=wz (P:=P) (w:=w) (base:=base) T eI ig;have vM:=F5 (P:=P) (w:=w) (base:=base) T rE m_;have pb:=Ba (P:=P) (w:=w) (base:=base) T vM j5;have pd:=Bb (P:=P) (w:=w) (base:=base) T iO mn jC pb j6;have d8:=td (P:=P) (w:=w) (base:=base) T  fk;have rF:=CO (P:=P) (w:=w) (base:=base) T pd d8 lK;have ng:=yP (P:=P) (w:=w) (base:=base) T d8 jb;have pf:=Bc (P:=P) (w:=w) (base:=base) T ng j7;have j8:=tj (P:=P) (w:=w) (base:=base) T  fo;have ze:=wA (P:=P) (w:=w) (base:=base) T j8 ij;have aG:=yQ (P:=P) (w:=w) (base:=base) T  jc;have Dj:=Be (P:=P) (w:=w) (base:=base) T aG j9;have cB:=wB (P:=P) (w:=w) (base:=base) T aG ik;have gg:=yR (P:=P) (w:=w) (base:=base) T  jd;have ke:=tm (P:=P) (w:=w) (base:=base) T aG cB fq;have ka:=Bf (P:=P) (w:=w) (base:=base) T aG cB j_;have qu:=yS (P:=P) (w:=w) (base:=base) T aG cB gg ka ke gj gr;have sR:=λn=>(qu n).1;have ft:=λn=>(qu n).2;have gz:=yT (P:=P) (w:=w) (base:=base) T  gu;have zf:=wC (P:=P) (w:=w) (base:=base) T ft gz iq;have eO:=vx (P:=P) (w:=w) (base:=base) T  fK;have c7:=oZ (P:=P) (w:=w) (base:=base) T eO dR;have jo:=rk (P:=P) (w:=w) (base:=base) T eO eM;have fL:=vy (P:=P) (w:=w) (base:=base) T c7 jo eP;have mq:=wD (P:=P) (w:=w) (base:=base) T aG ir;have je:=yU (P:=P) (w:=w) (base:=base) T aG mq gD;have zg:=wF (P:=P) (w:=w) (base:=base) T rF pf fL iw;have zh:=wG (P:=P) (w:=w) (base:=base) T aG iy;refine OL (f:=AR) ?_ hp;refine J5.okD (N:=["script","k","state","many","plan","thing","size"]) (ps:=["script"]) (st:=yK) (k:=28) Je .S Jf FL oY rfl (by decide) ?_;intro f dH A outer s0 H E hr;exact (aq (kP ZP rfl (d5 (aa (aE (Ff rfl) Hq (by rfl) T.zpq G3 (aa ah (aa (aE (wO rfl) zX (by rfl) T.zqq G4 (aa (aE aT bp (by rfl) T.zsq bH (aa (ao 0) af)) (aa ah af))) af))) af) T.zgq) (aW (i:=1) oY.nd)
 (aq (kz (i:=2) oY.nd (aY ze (rm hr) (aa (ao 0) (aa (ao 1) af))))
 (aq (aU (i:=3) oY.nd (a8 aZ a7 ah (aN (i:=2) aG (rm hr) (aa ah af))))
 (aq (aU (i:=4) oY.nd (aN (i:=2) zf (rm hr) (aa (qN (ar yK) ["script","k","state","many","plan","thing","size"] ["j","state","many"] [none,some 2,some 3] rfl (d5 (aa ah af) T.zgq) (λY=>⟨(aW (i:=0) (show (["j","state","many"]:List Str).Nodup by decide+kernel)),ba,(aN (i:=1) Dj (rm hr) (aa (ao 2) af))⟩)) (aa ah (aa eh af)))))
 (aw (kP ZP rfl (cx (a8 aZ a7 (cA (Qg (aV (ao 4) (aV (aN (i:=2) (je 20) (rm hr) (aa (ao 4) af)) (aV (aN (i:=2) (je 20) (rm hr) (aa (ao 4) af)) (aV jg (aV (av af) nD))))))) (aN (i:=2) zh (rm hr) af))) (aW (i:=5) oY.nd)
 (aw (kP ZP rfl (cx (cA (aa (ao 3) (aa ah (aa (a8 aZ a7 (ao 3) ah) af))))) (aW (i:=6) oY.nd)
 (aw (bz (d0 (cL (aY zg (rm hr) (aa (ao 5) (aa (ao 6) af))))) (aw (aH eh)) aM))))))))))
 (aw (aH eh)))
end
inductive mZ (K:Ye)(x:Str)(st:ab4):Prop
 |mk {f:YG} {od an:Option YG} {sl:Array (Option Yj)} {oc kV dc pm cd ct:Yj}:Zw K Y2 x=some (some (.ref f))->K.lookup f=some ⟨oc,od,.func (aaf x x (gG st) (dE st) (ar st) .none kV dc pm an cd ct),sl⟩->ac3 K cd x=true->aa7 K (.ref f)=true->mZ K x st
theorem du (q:mZ K x st)(X:K.In h)(G:h.Ns Y2 mg):Df K mg x st:=by
 obtain⟨a,l,c,k⟩:=q;exact⟨_,_,abY X G a,GY (st:=st) l c k⟩
theorem all_mk {fa:YG}(X:K.In h)(G:h.Ns Y2 mg)(Xf:mg "law"=some (.ref fa))(q0:mZ K "is_whole" lF)(q1:mZ K "is_card" nI)(q2:mZ K "is_order" jV)(q3:mZ K "is_shuffle" fS)(q4:mZ K "are_places" fT)(q5:mZ K "is_way" oV)(q6:mZ K "are_ways" i7)(q7:mZ K "has_form" lG)(q8:mZ K "plans_within" eH)(q9:mZ K "is_plan" l_)(Xg:mZ K "levels_of" jD)(Xh:mZ K "plans_in" jW)(Xi:mZ K "_law_cell_at" iL)(Xj:mZ K "_law_state" jE)(Xk:mZ K "_law_take" lH)(Xl:mZ K "_law_row" kI)(Xm:mZ K "_law_order" iM)(Xn:mZ K "_law_laid" jX)(Xo:mZ K "_law_shuffle" dk)(Xp:mZ K "_law_end" nJ)(Xq:mZ K "_law_look" fI)(Xr:mZ K "_law_plan" g7)(Xs:mZ K "_law_size" i8)(Xt:mZ K "_law_drawn" jF)(Xu:mZ K "_law_number" iN)(Xv:mZ K "_law_are_places" dW)(Xw:mZ K "_law_are_ways" fh)(Xx:mZ K "_law_counts" de)(Xy:mZ K "_law_other" jG)(Xz:mZ K "_law_bent" jY)(XA:mZ K "_law_right" jH)(XB:mZ K "_law_great" gc)(XC:mZ K "law" yK)(zmq:Zw K Y2 "all"=some none)(zjq:Zw K Y2 "bool"=some none)(zlq:Zw K Y2 "int"=some none)(zeq:Zw K Y2 "isinstance"=some none)(zsq:Zw K Y2 "len"=some none)(ziq:Zw K Y2 "list"=some none)(zpq:Zw K Y2 "max"=some none)(zqq:Zw K Y2 "min"=some none)(zgq:Zw K Y2 "range"=some none)(znq:Zw K Y2 "set"=some none)(zfq:Zw K Y2 "sorted"=some none)(zkq:Zw K Y2 "str"=some none)(zoq:Zw K Y2 "sum"=some none)(zhq:Zw K Y2 "tuple"=some none)(zrq:Zw K Y2 "zip"=some none){lL:Tok}(zaq:Zw K Y2 "GREATEST_CARD"=some (some (.int 9 lL))){nh:Tok}(zbq:Zw K Y2 "MOST_ORDERS"=some (some (.int 24 nh))){oD:Tok}(zdq:Zw K Y2 "MOST_PLANS"=some (some (.int 60 oD))){nj:Tok}(zcq:Zw K Y2 "MOST_WITHIN"=some (some (.int 12 nj)))(hp:∀ns:List Int,ns.length<=63->AR [.scr (ns.map .int)]=.ok (.bl true))
  : ∃fd:acu,(∀(s:Yv) (v:Yj),BindsTo s fd ⟨[v],[]⟩ [("script",v)])/\∀base:aaX,K.In base->base.Ns Y2 mg->nQ PySem.Challenge.pw_hushcards_k21_plans_looked_at w K mg base zw 29 fa fd ["script"] (zN K):=by
 obtain @⟨f_,od_,an32,sl_,oc_,kV32,dc32,pm32,cd32,ct32,a32,l32,c32,k32⟩:=XC;have e:=Xf.symm.trans (abY X G a32);cases e;have T:nZ mg:=⟨Zc X G zmq,Zc X G zjq,Zc X G zlq,Zc X G zeq,Zc X G zsq,Zc X G ziq,Zc X G zpq,Zc X G zqq,Zc X G zgq,Zc X G znq,Zc X G zfq,Zc X G zkq,Zc X G zoq,Zc X G zhq,Zc X G zrq,⟨_,abY X G zaq⟩,⟨_,abY X G zbq⟩,⟨_,abY X G zdq⟩,⟨_,abY X G zcq⟩⟩;have j3:=du q0 X G;have lJ:=du q1 X G;have j4:=du q2 X G;have ic:=du q3 X G;have ig:=du q4 X G;have m_:=du q5 X G;have j5:=du q6 X G;have j6:=du q7 X G;have fk:=du q8 X G;have lK:=du q9 X G;have jb:=du Xg X G;have j7:=du Xh X G;have fo:=du Xi X G;have ij:=du Xj X G;have jc:=du Xk X G;have j9:=du Xl X G;have ik:=du Xm X G;have jd:=du Xn X G;have fq:=du Xo X G;have j_:=du Xp X G;have gj:=du Xq X G;have gr:=du Xr X G;have gu:=du Xs X G;have iq:=du Xt X G;have fK:=du Xu X G;have dR:=du Xv X G;have eM:=du Xw X G;have eP:=du Xx X G;have ir:=du Xy X G;have gD:=du Xz X G;have iw:=du XA X G;have iy:=du XB X G;have FL:=GY (st:=yK) l32 c32 k32;refine⟨aaf "law" "law" (gG yK) (dE yK) (ar yK) .none kV32 dc32 pm32 an32 cd32 ct32,λs v=>.of_eq rfl,λbase _ _=>?_⟩;exact Ph (P:=PySem.Challenge.pw_hushcards_k21_plans_looked_at) (w:=w) (base:=base) T  FL j3 lJ j4 ic ig m_ j5 j6 fk lK jb j7 fo ij jc j9 ik jd fq j_ gj gr gu iq fK dR eM eP ir gD iw iy hp
end Hc
namespace Hc
open L2
def NS:(0:Nat)<=Yf/\(1:Nat)<=Yf/\(2:Nat)<=Yf/\(3:Nat)<=Yf/\(4:Nat)<=Yf/\(5:Nat)<=Yf/\(6:Nat)<=Yf/\(10:Nat)<=Yf/\(16:Nat)<=Yf/\(18:Nat)<=Yf/\(22:Nat)<=Yf:=by decide
def Pzz:type_of% @au∧type_of% @bq∧type_of% @NS:=⟨@au,@bq,@NS⟩
theorem fJ {α:Type}{f:U->R (Option U)}{c g:α->U}:∀{xs:List α},(∀x∈xs,f (c x)=.ok (some (g x)))->lr f (xs.map c)=.ok (xs.map g)
 | [],_=>rfl
 |x::xs,h=>by
  rw[Yp,Yp];unfold lr;rw[h x Yb];show (lr f (xs.map c)).bind _=_;rw[fJ λy hy=>h y (Ya _ hy)];rfl
def Jg {ws:List U}:iR (.lst us) [.lst ws]=if us.length+ws.length<=Yf then .ok (.non,.lst (us++ws)) else .stk:=nr rfl
theorem fi (us:List U)(k:Nat):ju us none (some (k:Int))=us.take k:=by
 unfold ju;rw[HT.sIx_none,HT.sIx_nat,acg,Nat.sub_zero];rcases Nat.le_total k us.length with h|h
 ·rw[Z4 h]
 ·rw[Nat.min_eq_right h,aax,ZZ h]
theorem i9 (us:List U)(k:Nat):ju us (some (k:Int)) none=us.drop k:=by
 unfold ju;rw[HT.sIx_none,HT.sIx_nat];rcases Nat.le_total k us.length with h|h
 ·rw[Z4 h,ZZ (by rw[YO];lia)]
 ·rw[Nat.min_eq_right h,aby,List.drop_of_length_le h,List.take_nil]
def jI (s:U):Prop:=∃v b,s=.lst [.int v,.bl b]/\0<=v/\(b=false->v<2147483647)
theorem cJ {s:U}{m:Int}(h:jI s)(h0:0<m)(h1:m<18446744073709551616):∃r s',aA [s,.int m]=.ok (.int r,s')/\0<=r/\r<m/\jI s':=by
 obtain⟨v,b,rfl,hv,hb⟩:=h;cases b with
 |true=>
  refine⟨v % m,.lst [.int (v / m),.bl true],?_,abj _ (by lia),aaP _ h0,v / m,true,rfl,Int.ediv_nonneg hv (by lia),λh=>nomatch h⟩;simp only[Pzz,bg,Nat.reduceAdd,Nat.reduceSub,aA,kF,hG h0,yi h0 h1,Ef]
 |false=>
  have g1:0<=(v*48271+29) % 2147483647:=abj _ (by decide);have g2:(v*48271+29) % 2147483647<2147483647:=aaP _ (by decide);have c1:pO v 48271=true:=OW (by decide) (by decide);have d1:decide ((0:Int)<2147483647)=true:=by decide
  have d2:decide ((0:Int)<2147483629)=true:=by decide
  have d3:decide ((0:Int)<2147483587)=true:=by decide
  have e8:Ca (((((v*48271+29) % 2147483647)*((v*48271+29) % 2147483647)+39373*((v*48271+29) % 2147483647)+7) % 2147483629*((((v*48271+29) % 2147483647)*((v*48271+29) % 2147483647)+39373*((v*48271+29) % 2147483647)+7) % 2147483629)+16807*((((v*48271+29) % 2147483647)*((v*48271+29) % 2147483647)+39373*((v*48271+29) % 2147483647)+7) % 2147483629)) % 2147483587) 8=true:=yi (by decide) (by decide);have c2:pO ((v*48271+29) % 2147483647) ((v*48271+29) % 2147483647)=true:=qV g1 (by lia);have c3:pO 39373 ((v*48271+29) % 2147483647)=true:=qV (by decide) (by decide);generalize hs:(v*48271+29) % 2147483647=s1 at *;have g3:0<=(s1*s1+39373*s1+7) % 2147483629:=abj _ (by decide);have g4:(s1*s1+39373*s1+7) % 2147483629<2147483629:=aaP _ (by decide);have c4:pO ((s1*s1+39373*s1+7) % 2147483629) ((s1*s1+39373*s1+7) % 2147483629)=true:=qV g3 (by lia);have c5:pO 16807 ((s1*s1+39373*s1+7) % 2147483629)=true:=qV (by decide) (by decide);refine⟨((s1*s1+39373*s1+7) % 2147483629*((s1*s1+39373*s1+7) % 2147483629)+16807*((s1*s1+39373*s1+7) % 2147483629)) % 2147483587 / 8 % m,.lst [.int s1,.bl false],?_,abj _ (by lia),aaP _ h0,s1,false,rfl,g1,λ_=>g2⟩
  ·simp only[Pzz,bg,Nat.reduceAdd,Nat.reduceSub,aA,kF,hG h0,c1,d1,d2,d3,hs,c2,c3,c4,c5,e8,Ef]
theorem Jh {us:List U}{k:Int}(hu:u=.scr (ns.map .int)\/u=.lst (ns.map .int))(h0:0<=k):∃s,gX [u,.int k]=.ok s/\jI s:=by
 obtain⟨k,rfl⟩:∃n:Nat,k=n:=⟨k.toNat,by lia⟩;have sQ:∃c:Int,d7 [u,.int k]=.ok (.int c):=by
  by_cases hk:k<ns.length
  ·refine⟨ns[k],?_⟩;have d:decide ((k:Int)<((ns.map U.int).length:Nat))=true:=by rw[X8];exact hG (by lia)
   have e:lM (ns.map U.int) (k:Int)=some (.int ns[k]):=by rw[mR,YL,X7 hk];rfl
   rcases hu with rfl|rfl<;>simp only[Pzz,bg,Nat.reduceAdd,Nat.reduceSub,d7,gW,d,e]
  ·refine⟨0,?_⟩;have d:decide ((k:Int)<((ns.map U.int).length:Nat))=false:=by rw[X8];exact hJ (by lia)
   rcases hu with rfl|rfl<;>simp only[Pzz,bg,Nat.reduceAdd,Nat.reduceSub,d7,gW,d]
 obtain⟨c,hc⟩:=sQ;have V8:K4 10 18=true:=by decide
 have V9:(10:Int) ^ (18:Int).toNat=1000000000000000000:=by decide
 have dm:decide ((0:Int)<2147483647)=true:=by decide
 by_cases h:1000000000000000000<=c
 ·refine⟨.lst [.int (c-1000000000000000000),.bl true],?_,_,true,rfl,by lia,λh=>nomatch h⟩;simp only[Pzz,bg,Nat.reduceAdd,Nat.reduceSub,gX,jw,hc,V8,V9,hG h,hV]
 ·refine⟨.lst [.int (c % 2147483647),.bl false],?_,_,false,rfl,abj _ (by decide),λ_=>aaP _ (by decide)⟩;simp only[Pzz,bg,Nat.reduceAdd,Nat.reduceSub,gX,jw,hc,V8,V9,hJ h,dm,hV]
theorem vz {α:Type}:∀(l:List α) (i:Nat) (h:i<l.length),(l[i]::l.eraseIdx i).Perm l
 |x::l,0,_=>Z3 _
 |x::l,i+1,h=>by
  have h':i<l.length:=by simpa using h
  show (l[i]::x::l.eraseIdx i).Perm (x::l);exact (List.Perm.swap _ _ _).trans (List.Perm.cons x (vz l i h'))
theorem qi {α β:Type}(f:α->β):∀(l:List α) (i:Nat),(l.map f).eraseIdx i=(l.eraseIdx i).map f
 | [],_=>rfl
 |_::_,0=>rfl
 |x::l,i+1=>by
  show f x::(l.map f).eraseIdx i=f x::(l.eraseIdx i).map f;rw[qi f l i]
theorem Pj {k:Int}{y:U}(h1:adg k us.length=some j)(h2:us[j]? = some y)(h3:0<=k)(h4:k<1000000000):qP (.lst us) [.int k]=.ok (y,.lst (us.eraseIdx j)):=by
 unfold qP;dsimp only;rw[hV (by lia),h1];dsimp only;rw[h2]
def sI (n:Nat)(os:List Int):Prop:=os.Perm (bj n)
theorem m4 {s:U}(h:jI s)(h1:m<=1000):∃(os:List Int) (s':U),cv [s,.int m]=.ok (.tup (os.map .int),s')/\sI m os/\jI s':=by
 obtain⟨ys,⟨left,s'⟩,e,l,os,hr,hp,hs'⟩:=lC (G:=l5) (js:=[none,some 2,some 0]) (sg:=df 0) (ge:=gM "list" 1 qP (ae (iY 2 2 aA (ae (dZ dI (ae (ai 1) ak)) ak)) ak))
  (λx:List Int×U=>[some x.2,some (.int m),some (.lst (x.1.map .int))]) m (λys x=>∃os:List Int,ys=os.map .int/\(os++x.1).Perm (bj m)/\jI x.2)
  (λdone u x hd h00=>by
   obtain⟨os,hr,hp,hs⟩:=h00;obtain⟨left,s⟩:=x;have hl:0<left.length:=by
    have:=hp.length_eq;rw[Yc,e_] at this;have h2:done.length=os.length:=by rw[hr,X8]
    dsimp only at this;lia
   have JV:left.length<=m:=by
    have:=hp.length_eq;rw[Yc,e_] at this;dsimp only at this;lia
   obtain⟨r,s',b1,b2,b3,b4⟩:=cJ (m:=left.length) hs (by lia) (by lia);obtain⟨k,rfl⟩:∃n:Nat,r=n:=⟨r.toNat,by lia⟩;have hk:k<left.length:=by lia
   refine⟨[some u,some (.lst (left.map .int)),some s],.int left[k],[some u,some (.lst ((left.eraseIdx k).map .int)),some s'],(left.eraseIdx k,s'),rfl,?_,rfl,os++[left[k]],by rw[hr,YT];rfl,?_,b4⟩
   ·have hx:adg (k:Int) (left.map U.int).length=some k:=by
     unfold adg;rw[X8];simp;lia
    have hy:(left.map U.int)[k]? = some (.int left[k]):=by rw[YL,X7 hk];rfl
    have pp:=Pj hx hy (by lia) (by lia);rw[qi] at pp;simp only[Pzz,bg,Nat.reduceAdd,Nat.reduceSub,X8,b1,pp]
   ·rw[YB];refine List.Perm.trans (Zz os ?_) hp;exact vz left k hk) (aX 0 m) [] (bj m,s) (by rw[bD];simp) ⟨[],rfl,Z3 _,h⟩
 rw[bD] at l;have ln:os.length=m:=by
  have:=congrArg aai hr;rw[Zx,X8] at this;lia
 have le:left=[]:=by
  have:=hp.length_eq;rw[Yc,e_] at this;dsimp only at this;exact Zv (by lia)
 subst le;rw[YV] at hp;rw[Zx] at hr;dsimp only at e;refine⟨os,s',?_,hp,hs'⟩;rw[hr] at e;simp only[Pzz,bg,Nat.reduceAdd,Nat.reduceSub,cv,l7,kY m (by lia),Ec m (by lia),jO] at e ⊢;simp only[Pzz,bg,Nat.reduceAdd,Nat.reduceSub,e]
noncomputable def tO (os:List Int):U:=.tup (os.map .int)
def qj (n:Nat):aX 0 n=(YS n).map λi=>U.int (i:Nat):=by
 rw[jO];unfold bj;rw[Y9];rfl
def Bg (n:Nat):bj (n+1)=bj n++[(n:Int)]:=by
 unfold bj;rw[List.range_succ,YT];rfl
def Bh {z:Nat}(h:z<=m):(bj m).take z=bj z:=by
 unfold bj;rw[←abZ,List.take_range,Z4 h]
def LJ (us:List U)(a b:Nat)(h:a<=b)(h2:b<=us.length):ju us (some (a:Int)) (some (b:Int))=(us.drop a).take (b-a):=by
 unfold ju;rw[HT.sIx_nat,HT.sIx_nat,Z4 h2,Z4 (Zj h h2)]
noncomputable def Pl:Nat->Nat
 |0=>1
 |n+1=>Pl n*(n+1)
def Ji (h:os.Perm (bj k)):(os.take j++[(k:Int)]++os.drop j).Perm (bj (k+1)):=by
 rw[Bg,YB];refine (ZA).trans ?_;rw[YB];have:(os.drop j++os.take j).Perm (bj k):=(ZA).trans (by rw[Y_];exact h);exact ((Zz [(k:Int)] this)).trans ZA
theorem LK {a b c d e f g:Option U}{oss:List (List Int)}(hk:k<=8)(hl:oss.length<=1000)(hp:∀os∈oss,os.Perm (bj k))(v4:Option U) :
  ∃(ls:List (List Int)) (v4':Option U),kA (df 4) (lq (gM "list" 9 iR (ae (eX (iZ (ae (aK bM (ai 8) (zqc 1)) ak)) [none,some 4,some 8] (df 0) cb (aK bM (aK bM (mG lQ (ai 1) cV (cE (ai 0))) (az (ae (ai 2) ak))) (mG lQ (ai 1) (cE (ai 0)) cV))) ak))) (oss.map tO)
   [a,b,c,d,v4,e,f,g,some (.int k),some (.lst [])]=.nx [a,b,c,d,v4',e,f,g,some (.int k),some (.lst (ls.map tO))]/\ls.length=oss.length*(k+1)/\∀os∈ls,os.Perm (bj (k+1)):=by
 obtain⟨ρ',e1,ls,v,e2,l2,p2⟩:=fw (us:=oss.map tO) (sg:=df 4) (s:=lq (gM "list" 9 iR (ae (eX (iZ (ae (aK bM (ai 8) (zqc 1)) ak)) [none,some 4,some 8] (df 0) cb (aK bM (aK bM (mG lQ (ai 1) cV (cE (ai 0))) (az (ae (ai 2) ak))) (mG lQ (ai 1) (cE (ai 0)) cV))) ak)))
  (λi ρ=>∃(ls:List (List Int)) (v:Option U),ρ=[a,b,c,d,v,e,f,g,some (.int k),some (.lst (ls.map tO))]/\ls.length=i*(k+1)/\∀os∈ls,os.Perm (bj (k+1)))
  (λi u ρ hu h00=>by
   obtain⟨ls,v,hr,JV,Kd⟩:=h00;subst hr;rw[YL] at hu;cases ho:oss[i]? with
   |none=>rw[ho] at hu;cases hu
   |some os=>
    rw[ho] at hu;cases hu;have Ke:=hp os (Y6 ho);have lo:os.length=k:=by have:=Ke.length_eq;rwa [e_] at this
    have hi:i<oss.length:=by
     rcases aaO i oss.length with z|z
     ·exact z
     ·rw[Z2.mpr z] at ho;cases ho
    have sz:Yf=16777216:=rfl;have e0:lr (nq [none,some 4,some 8] (df 0) cb (aK bM (aK bM (mG lQ (ai 1) cV (cE (ai 0))) (az (ae (ai 2) ak))) (mG lQ (ai 1) (cE (ai 0)) cV)) [a,b,c,d,some (tO os),e,f,g,some (.int k),some (.lst (ls.map tO))]) ((YS (k+1)).map λi=>U.int (i:Nat))=.ok ((YS (k+1)).map λj=>tO (os.take j++[(k:Int)]++os.drop j)):=
     fJ λj hj=>by
      have q1:((os.map U.int).take j).length+1<=Yf:=by rw[Yy,X8];lia
      have q2:((os.map U.int).take j++[U.int k]).length+((os.map U.int).drop j).length<=Yf:=by rw[Yc,Yy,YO,X8,YA];lia
      simp only[Pzz,bg,Nat.reduceAdd,Nat.reduceSub,tO,fi,i9,q1,q2];simp only[YT,abZ,List.map_drop,Yp,aaz]
    have hm:i*(k+1)<=1000*9:=Nat.mul_le_mul (by lia) (by lia);have q3:(ls.map tO).length+((YS (k+1)).map λj=>tO (os.take j++[(k:Int)]++os.drop j)).length<=Yf:=by
     rw[X8,X8,Zh];lia
    have ek:(k:Int)+1=((k+1:Nat):Int):=rfl;refine⟨[a,b,c,d,some (tO os),e,f,g,some (.int k),some (.lst (ls.map tO))],[a,b,c,d,some (tO os),e,f,g,some (.int k),some (.lst ((ls++(YS (k+1)).map λj=>os.take j++[(k:Int)]++os.drop j).map tO))],rfl,.inl ?_,_,_,rfl,?_,?_⟩
    ·simp only[Pzz,bg,Nat.reduceAdd,Nat.reduceSub,ek,kY (k+1) (by lia),qj,e0,Jg,q3];simp only[YT,Y9];rfl
    ·rw[Yc,X8,Zh,JV,Nat.add_mul,Nat.one_mul]
    ·intro x hx;rcases Yx.mp hx with z|z
     ·exact Kd x z
     ·obtain⟨j,_,rfl⟩:=Yz.mp z;exact Ji Ke) (ρ:=[a,b,c,d,v4,e,f,g,some (.int k),some (.lst [])]) ⟨[],v4,rfl,by simp,λx hx=>by cases hx⟩
 subst e2;rw[X8] at l2;exact⟨ls,v,e1,l2,p2⟩
def Jj (l:List Int)(k:Nat):(l.drop k++l.take k).Perm l:=(ZA).trans (by rw[Y_])
def F6 (l:List Int)(h:Nat):(((l.drop h).take h++l.take h)++l.drop (h+h)).Perm l:=by
 have e:l=l.take h++((l.drop h).take h++l.drop (h+h)):=by
  rw[←ac9,Y_,Y_]
 have p:((l.drop h).take h++l.take h).Perm (l.take h++(l.drop h).take h):=ZA;refine (ZL _ p).trans ?_;rw[YB,←e]
def nK (m:Nat)(r:R (U×U)):Prop:=∃(oss:List (List Int)) (s':U),r=.ok (.tup (oss.map tO),s')/\(∀os∈oss,sI m os)/\1<=oss.length/\oss.length<=24/\jI s'
theorem LL {s:U}{w:Int}(h8:m<=8)(e1:aA [s,.int 6]=.ok (.int w,s1))(kg:jI s1)(hw:w=4\/w=5):nK m (br [s,.int m]):=by
 have sz:Yf=16777216:=rfl;obtain⟨t,s2,e2,t0,t1,dG⟩:=cJ (m:=4) kg (by decide) (by decide);obtain⟨n,hn⟩:∃n:Nat,1+t=n:=⟨(1+t).toNat,by lia⟩;obtain⟨ys,s3,e3,ly,oss,hy,ho,hs3⟩:=lC (G:=jU) (js:=[none,some 0,some 1]) (sg:=df 0) (ge:=iY 2 1 cv (ae (ai 2) ak))
  (λx:U=>[some x,some (.int m),some (.tup (aX 0 m)),some (.int w),none,none,none,none,none,none]) n (λys x=>∃oss:List (List Int),ys=oss.map tO/\(∀os∈oss,sI m os)/\jI x)
  (λdone u x hd h00=>by
   obtain⟨oss,hr,hp,hs⟩:=h00;obtain⟨os,x',b1,b2,b3⟩:=m4 (m:=m) hs (by lia);refine⟨[some u,some x,some (.int m)],tO os,[some u,some x',some (.int m)],x',rfl,?_,rfl,oss++[os],by rw[hr,YT];rfl,?_,b3⟩
   ·simp only[Pzz,bg,Nat.reduceAdd,Nat.reduceSub,b1,tO]
   ·intro y hy;rcases Yx.mp hy with z|z
    ·exact hp y z
    ·rw[Yw.mp z];exact b2) (aX 0 n) [] s2 (by rw[bD];simp) ⟨[],rfl,(λx hx=>by cases hx),dG⟩
 rw[Zx] at hy;rw[bD] at ly;have lo:oss.length=n:=by
  have:=congrArg aai hy;rw[X8] at this;lia
 refine⟨oss,s3,?_,ho,by lia,by lia,hs3⟩;rw[hy] at e3;rcases hw with rfl|rfl<;>simp only[Pzz,bg,Nat.reduceAdd,Nat.reduceSub,br,dC,pV m (by lia),e1,bo,Int.reduceBEq,id,e2,hn,kY n (by lia),e3]
theorem Pm {s:U}(h1:1<=m)(h8:m<=8)(e1:aA [s,.int 6]=.ok (.int 0,s1))(kg:jI s1):nK m (br [s,.int m]):=by
 have sz:Yf=16777216:=rfl;have e0:lr (nq [none,some 2] (df 0) cb (aK bM (mG lQ (ai 1) (cE (ai 0)) cV) (mG lQ (ai 1) cV (cE (ai 0)))) [some s1,some (.int m),some (.tup (aX 0 m)),some (.int 0),none,none,none,none,none,none]) (aX 0 m)
   = .ok ((YS m).map λk=>.tup ((aX 0 m).drop k++(aX 0 m).take k)):=by
  have:=fJ (f:=nq [none,some 2] (df 0) cb (aK bM (mG lQ (ai 1) (cE (ai 0)) cV) (mG lQ (ai 1) cV (cE (ai 0)))) [some s1,some (.int m),some (.tup (aX 0 m)),some (.int 0),none,none,none,none,none,none])
   (c:=λi:Nat=>U.int (i:Nat)) (g:=λk=>.tup ((aX 0 m).drop k++(aX 0 m).take k)) (xs:=YS m) λk hk=>by
    have q:((aX 0 m).drop k).length+((aX 0 m).take k).length<=Yf:=by rw[YO,Yy,bD];lia
    simp only[Pzz,bg,Nat.reduceAdd,Nat.reduceSub,fi,i9,q]
  rwa [←qj] at this
 refine⟨(YS m).map λk=>(bj m).drop k++(bj m).take k,s1,?_,?_,by rw[X8,Zh];exact h1,by rw[X8,Zh];lia,kg⟩
 ·simp only[Pzz,bg,Nat.reduceAdd,Nat.reduceSub,br,dC,pV m (by lia),e1,bo,Int.reduceBEq,id,kY m (by lia),e0];rw[Y9];congr 4;funext k;show U.tup _=tO _;unfold tO;rw[jO,YT,List.map_drop,abZ]
 ·intro os ho;obtain⟨k,_,rfl⟩:=Yz.mp ho;exact Jj _ _
theorem Pn {s:U}(h8:m<=8)(e1:aA [s,.int 6]=.ok (.int 1,s1))(kg:jI s1):nK m (br [s,.int m]):=by
 obtain⟨os,s2,b1,b2,b3⟩:=m4 (m:=m) kg (by lia);refine⟨[bj m,os],s2,?_,?_,by simp,by simp,b3⟩
 ·simp only[Pzz,bg,Nat.reduceAdd,Nat.reduceSub,br,dC,pV m (by lia),e1,bo,Int.reduceBEq,id,b1,tO,jO]
 ·intro x hx;simp only[Yk,aav,or_false] at hx;rcases hx with rfl|rfl
  ·exact Z3 _
  ·exact b2
theorem LM {s:U}(h1:1<=m)(h8:m<=8)(e1:aA [s,.int 6]=.ok (.int 2,s1))(kg:jI s1):nK m (br [s,.int m]):=by
 have sz:Yf=16777216:=rfl;have d1:Ca (m:Int) 2=true:=yi (by decide) (by decide);have d2:pO 2 ((m / 2:Nat):Int)=true:=qV (by decide) (by decide);have e2:(m:Int) / 2=((m / 2:Nat):Int):=by lia
 have e3:(2:Int)*((m / 2:Nat):Int)=((m / 2+m / 2:Nat):Int):=by lia
 have c1:ju (aX 0 m) (some ((m / 2:Nat):Int)) (some ((m / 2+m / 2:Nat):Int))=((aX 0 m).drop (m / 2)).take (m / 2):=by
  rw[LJ _ _ _ (by lia) (by rw[bD];lia),ac1]
 have q1:(((aX 0 m).drop (m / 2)).take (m / 2)).length+((aX 0 m).take (m / 2)).length<=Yf:=by rw[Yy,YO,Yy,bD];lia
 have q2:(((aX 0 m).drop (m / 2)).take (m / 2)++(aX 0 m).take (m / 2)).length+((aX 0 m).drop (m / 2+m / 2)).length<=Yf:=by rw[Yc,Yy,YO,Yy,YO,bD];lia
 refine⟨[bj m,((bj m).drop (m / 2)).take (m / 2)++(bj m).take (m / 2)++(bj m).drop (m / 2+m / 2)],s1,?_,?_,by simp,by simp,kg⟩
 ·simp only[Pzz,bg,Nat.reduceAdd,Nat.reduceSub,br,dC,pV m (by lia),e1,bo,Int.reduceBEq,id,d1,e2,d2,e3,c1,fi,i9,q1,q2];simp only[tO,YT,abZ,List.map_drop,jO]
 ·intro x hx;simp only[Yk,aav,or_false] at hx;rcases hx with rfl|rfl
  ·exact Z3 _
  ·exact F6 _ _
theorem Nq (h:n<=4):1<=Pl n/\Pl n<=24:=by
 have:n=0\/n=1\/n=2\/n=3\/n=4:=by lia
 rcases this with rfl|rfl|rfl|rfl|rfl<;>decide
theorem Po {s:U}(h1:1<=m)(h8:m<=8)(e1:aA [s,.int 6]=.ok (.int 3,s1))(kg:jI s1):nK m (br [s,.int m]):=by
 have sz:Yf=16777216:=rfl;obtain⟨t,s2,e2,t0,t1,dG⟩:=cJ (m:=3) kg (by decide) (by decide);obtain⟨z,hz⟩:∃z:Nat,(if 2+t<(m:Int) then 2+t else (m:Int))=z:=⟨(if 2+t<(m:Int) then 2+t else (m:Int)).toNat,by split<;>lia⟩;have zb:1<=z/\z<=4/\z<=m:=by split at hz<;>lia
 obtain⟨ρ',e3,oss,v4,v8,rfl,l3,p3⟩:=fw (us:=aX 0 z) (sg:=df 8) (s:=(aO (bK 9 (dh ak))
 (aO (qK (eW (ai 6)) (df 4)
 (lq (gM "list" 9 iR (ae (eX (iZ (ae (aK bM (ai 8) (zqc 1)) ak)) [none,some 4,some 8] (df 0) cb (aK bM (aK bM (mG lQ (ai 1) cV (cE (ai 0))) (az (ae (ai 2) ak))) (mG lQ (ai 1) (cE (ai 0)) cV))) ak))))
 (zJ 6 9))))
  (λi ρ=>∃(oss:List (List Int)) (v4 v8:Option U),ρ=[some s2,some (.int m),some (.tup (aX 0 m)),some (.int 3),v4,none,some (.lst (oss.map tO)),some (.int z),v8,none]/\oss.length=Pl i/\∀os∈oss,os.Perm (bj i))
  (λi u ρ hu h00=>by
   obtain⟨oss,v4,v8,hr,hl,hp⟩:=h00;subst hr;have hi:i<z:=by
    rcases aaO i z with y|y
    ·exact y
    ·rw[Z2.mpr (by rw[bD];exact y)] at hu;cases hu
   obtain rfl:u=.int i:=by
    rw[qj,YL,aa4 hi] at hu;cases hu;rfl
   obtain⟨ls,v4',g1,g2,g3⟩:=LK (a:=some s2) (b:=some (.int m)) (c:=some (.tup (aX 0 m))) (d:=some (.int 3)) (e:=none) (f:=some (.lst (oss.map tO))) (g:=some (.int z)) (k:=i) (oss:=oss) (by lia) (by have:=Nq (n:=i) (by lia);lia) hp v4;refine⟨[some s2,some (.int m),some (.tup (aX 0 m)),some (.int 3),v4,none,some (.lst (oss.map tO)),some (.int z),some (.int i),none],[some s2,some (.int m),some (.tup (aX 0 m)),some (.int 3),v4',none,some (.lst (ls.map tO)),some (.int z),some (.int i),none],rfl,.inl ?_,ls,v4',some (.int i),rfl,by rw[g2,hl];rfl,g3⟩;simp only[Pzz,bg,Nat.reduceAdd,Nat.reduceSub,g1])
  (ρ:=[some s2,some (.int m),some (.tup (aX 0 m)),some (.int 3),none,none,some (.lst [.tup []]),some (.int z),none,none]) ⟨[[]],none,none,rfl,rfl,λx hx=>by rw[Yw.mp hx];exact Z3 _⟩
 rw[bD] at l3 p3;have e4:lr (nq [none,some 2,some 7] (df 0) cb (aK bM (ai 0) (mG lQ (ai 1) (cE (ai 2)) cV)) [some s2,some (.int m),some (.tup (aX 0 m)),some (.int 3),v4,none,some (.lst (oss.map tO)),some (.int z),v8,none]) (oss.map tO)=.ok (oss.map λos=>tO (os++(bj m).drop z)):=
  fJ λos ho=>by
   have lo:os.length=z:=by have:=(p3 os ho).length_eq;rwa [e_] at this
   have q:(os.map U.int).length+((aX 0 m).drop z).length<=Yf:=by rw[X8,YO,bD];lia
   simp only[Pzz,bg,Nat.reduceAdd,Nat.reduceSub,tO,i9,q];simp only[YT,List.map_drop,jO]
 have fb:=Nq (n:=z) zb.2.1;refine⟨oss.map λos=>os++(bj m).drop z,s2,?_,?_,by rw[X8];lia,by rw[X8];lia,dG⟩
 ·simp only[Pzz,bg,Nat.reduceAdd,Nat.reduceSub,br,dC,pV m (by lia),e1,bo,Int.reduceBEq,id,e2,hz,kY z (by lia),e3,e4];rw[Y9];rfl
 ·intro x hx;obtain⟨os,ho,rfl⟩:=Yz.mp hx;have:(bj m)=bj z++(bj m).drop z:=by
   rw[←Bh zb.2.2,Y_]
  show (os++_).Perm (bj m);refine (ZL _ (p3 os ho)).trans ?_;rw[←this]
theorem CP {s:U}(h:jI s)(h1:1<=m)(h8:m<=8):nK m (br [s,.int m]):=by
 obtain⟨w,s1,e1,w0,w1,kg⟩:=cJ (m:=6) h (by decide) (by decide);have hw:w=0\/w=1\/w=2\/w=3\/w=4\/w=5:=by lia
 rcases hw with rfl|rfl|rfl|rfl|hw
 ·exact Pm h1 h8 e1 kg
 ·exact Pn h8 e1 kg
 ·exact LM h1 h8 e1 kg
 ·exact Po h1 h8 e1 kg
 ·exact LL h8 e1 kg hw
theorem jJ:∀ns:List Int,eo (ns.map U.int)=some ns
 | []=>rfl
 |n::ns=>by rw[Yp];show (eo (ns.map U.int)).map _=_;rw[jJ ns];rfl
noncomputable def ku (a b:List Int):List Int:=b.map λi=>a.getD i.toNat 0
theorem LN {a b:List Int}(h:∀i∈b,0<=i/\i<a.length):lr (nq [none,some 0] (df 0) cb (aK cO (ai 1) (ai 0)) [some (aP a),some (aP b)]) (b.map U.int)=.ok ((ku a b).map U.int):=by
 have e:=fJ (f:=nq [none,some 0] (df 0) cb (aK cO (ai 1) (ai 0)) [some (aP a),some (aP b)]) (c:=U.int) (g:=λi:Int=>U.int (a.getD i.toNat 0)) (xs:=b) λi hi=>by
  obtain⟨h0,h1⟩:=h i hi;obtain⟨n,rfl⟩:∃n:Nat,i=n:=⟨i.toNat,by lia⟩;have hn:n<a.length:=by lia
  have e1:lM (a.map U.int) (n:Int)=some (.int a[n]):=by rw[mR,YL,X7 hn];rfl
  have e2:a.getD (n:Int).toNat 0=a[n]:=by rw[Zu,acR,X7 hn];rfl
  simp only[Pzz,bg,Nat.reduceAdd,Nat.reduceSub,aP,e1,e2]
 rw[e];unfold ku;rw[Y9];rfl
theorem pS {a b:List Int}(h:∀i∈b,0<=i/\i<a.length)(hl:b.length<=1000):cF [aP a,aP b]=.ok (aP (ku a b)):=by
 have e:=LN h;have sz:((ku a b).map U.int).length<=Yf:=by rw[X8];unfold ku;rw[X8];have:Yf=16777216:=rfl;lia
 unfold cF mX;simp only[aP] at e ⊢;simp only[Pzz,bg,Nat.reduceAdd,Nat.reduceSub,e,sz]
theorem Pp {s:U}(h:jI s)(h1:m<=1000):∃(row:List Int) (s':U),iK [s,.int m]=.ok (.tup (row.map .int),s')/\row.length=m/\(∀c∈row,0<=c/\c<10)/\jI s':=by
 obtain⟨way,s1,e1,w0,w1,h1'⟩:=cJ (m:=4) h (by decide) (by decide);have key:∀(js:List (Option Nat)) (ge:Ev->R (U×Ev)) (s1:U),jI s1->(∀u s,jI s->∃ρi r ρi' s',df 0 u (kq js [some s,some (.int m),some (.int way)])=.ok ρi/\ge ρi=.ok (.int r,ρi')/\wb iJ js ρi' [some s,some (.int m),some (.int way)]=[some s',some (.int m),some (.int way)]/\0<=r/\r<10/\jI s')->
   ∃(row:List Int) (s':U),qM iJ js (df 0) cb ge (aX 0 m) [some s1,some (.int m),some (.int way)]=.ok (row.map .int,[some s',some (.int m),some (.int way)])/\row.length=m/\(∀c∈row,0<=c/\c<10)/\jI s':=by
  intro js ge s1 kg SQ;obtain⟨ys,s',e,l,row,hr,hc,hs'⟩:=lC (G:=iJ) (js:=js) (sg:=df 0) (ge:=ge) (λs:U=>[some s,some (.int m),some (.int way)]) m (λys s=>∃row:List Int,ys=row.map .int/\(∀c∈row,0<=c/\c<10)/\jI s)
   (λdone u s _ h00=>by
    obtain⟨row,hr,hc,hs⟩:=h00;obtain⟨ρi,r,ρi',s',a1,a2,a3,a4,a5,a6⟩:=SQ u s hs;refine⟨ρi,.int r,ρi',s',a1,a2,a3,row++[r],by rw[hr,YT];rfl,λc Tg=>?_,a6⟩;rcases Yx.mp Tg with z|z
    ·exact hc c z
    ·rw[Yw.mp z];exact⟨a4,a5⟩) (aX 0 m) [] s1 (by rw[bD];simp) ⟨[],rfl,(λc hc=>by cases hc),kg⟩
  rw[bD] at l;refine⟨row,s',by rw[e,←hr];rfl,?_,hc,hs'⟩;have:=congrArg aai hr;simp at this;lia
 by_cases c:way<2
 ·obtain⟨row,s',a1,a2,a3,a4⟩:=key [none,some 0] (iY 2 1 aA (ae (zqc 2) ak)) s1 h1' λu s hs=>by
   obtain⟨r,s',b1,b2,b3,b4⟩:=cJ (m:=2) hs (by decide) (by decide);refine⟨[some u,some s],r,[some u,some s'],s',rfl,?_,rfl,b2,by lia,b4⟩;simp only[Pzz,bg,Nat.reduceAdd,Nat.reduceSub,b1]
  refine⟨row,s',?_,a2,a3,a4⟩;simp only[Pzz,bg,Nat.reduceAdd,Nat.reduceSub,iK,l4,e1,hG c,kY m (by lia),a1]
 ·have XD:∃z:Int,lM [U.int 3,U.int 10] (way-2)=some (.int z)/\0<z/\z<=10:=by
   by_cases e:way=2
   ·subst e;exact⟨3,rfl,by decide,by decide⟩
   ·have e:way=3:=by lia
    subst e;exact⟨10,rfl,by decide,by decide⟩
  obtain⟨z,hz,z0,z1⟩:=XD;obtain⟨row,s',a1,a2,a3,a4⟩:=key [none,some 0,some 2] (iY 2 1 aA (ae (aK cO (dh (ae (zqc 3) (ae (zqc 10) ak))) (aK sV (ai 2) (zqc 2))) ak)) s1 h1' λu s hs=>by
   obtain⟨r,s',b1,b2,b3,b4⟩:=cJ (m:=z) hs z0 (by lia);refine⟨[some u,some s,some (.int way)],r,[some u,some s',some (.int way)],s',rfl,?_,rfl,b2,by lia,b4⟩;simp only[Pzz,bg,Nat.reduceAdd,Nat.reduceSub,hz,b1]
  refine⟨row,s',?_,a2,a3,a4⟩;simp only[Pzz,bg,Nat.reduceAdd,Nat.reduceSub,iK,l4,e1,hJ c,kY m (by lia),a1]
noncomputable def rl (x:Int):List Int->List (List Int)
 | []=>[[x]]
 |y::r=>(x::y::r)::(rl x r).map (y::·)
noncomputable def eU:List Int->List (List Int)
 | []=>[[]]
 |x::xs=>(eU xs).flatMap (rl x)
theorem Bi (x:Int):∀l,(rl x l).length=l.length+1
 | []=>rfl
 |y::r=>by unfold rl;rw[X_,X8,Bi x r,X_]
theorem Bj (x:Int):∀l r,(l++x::r)∈rl x (l++r)
 | [],[]=>by simp[rl]
 | [],y::r=>by simp[rl]
 |y::l,r=>by
  show (y::(l++x::r))∈rl x (y::(l++r));unfold rl;exact Ya _ (aaJ (Bj x l r))
theorem sJ:∀{xs r:List Int},r.Perm xs->r∈eU xs
 | [],r,h=>by rw[List.perm_nil.mp h];simp[eU]
 |x::xs,r,h=>by
  obtain⟨l1,l2,e⟩:=List.append_of_mem (h.mem_iff.mpr (Yb (a:=x) (l:=xs)));subst e;have h2:(l1++l2).Perm xs:=(List.perm_cons x).mp (List.perm_middle.symm.trans h);unfold eU;exact abE.mpr ⟨l1++l2,sJ h2,Bj x l1 l2⟩
theorem sL:∀(xs:List Int),(∀r∈eU xs,r.length=xs.length)/\(eU xs).length=Pl xs.length
 | []=>by simp[eU,Pl]
 |x::xs=>by
  obtain⟨h1,h2⟩:=sL xs;have ins:∀(l r:List Int),r∈rl x l->r.length=l.length+1:=by
   intro l
   induction l with
   |nil=>intro r h;simp[rl] at h;rw[h];rfl
   |cons y l ih=>
    intro r h;unfold rl at h;rcases Yk.mp h with rfl|h
    ·rfl
    ·obtain⟨q,hq,rfl⟩:=Yz.mp h;rw[X_,ih q hq,X_]
  refine⟨λr h=>?_,?_⟩
  ·unfold eU at h;obtain⟨q,hq,h⟩:=abE.mp h;rw[ins q r h,h1 q hq,X_]
  ·unfold eU;rw[List.length_flatMap];have e:(eU xs).map (λa=>(rl x a).length)=(eU xs).map λ_=>xs.length+1:=aam λq hq=>by rw[Bi,h1 q hq]
   rw[e,List.map_const',ab3,h2,X_];rfl
theorem Bk {α:Type}[DecidableEq α]:∀{l m:List α},l.Nodup->(∀x∈l,x∈m)->l.length<=m.length
 | [],m,_,_=>aak _
 |x::l,m,h,s=>by
  obtain⟨h1,h2⟩:=aaq.mp h;have hx:=s x Yb;have:=Bk (m:=m.erase x) h2 λy hy=>(List.mem_erase_of_ne λe=>h1 (by rw[←e];exact hy)).mpr (s y (Ya _ hy));rw[List.length_erase_of_mem hx] at this;have:0<m.length:=List.length_pos_of_mem hx;rw[X_];lia
theorem o3:∀(l bX:List (List Int)),bX.Nodup->(l.foldl vd bX).Nodup
 | [],bX,h=>h
 |x::l,bX,h=>by
  refine o3 l _ ?_;unfold vd;split
  ·exact h
  ·rename_i c;rw[acd];refine⟨h,by simp,λa ha b hb e=>c ?_⟩;rw[Yw.mp hb] at e;rw[←e];exact ha
theorem Bl:∀(l bX:List (List Int)) (x:List Int),(x∈bX\/x∈l)->x∈l.foldl vd bX
 | [],bX,x,h=>h.elim id λz=>by cases z
 |y::l,bX,x,h=>by
  refine Bl l _ x ?_;unfold vd;rcases h with h|h
  ·split
   ·exact .inl h
   ·exact .inl (ZY _ h)
  ·rcases Yk.mp h with rfl|h
   ·split
    ·rename_i c;exact .inl c
    ·exact .inl (YM _ Yb)
   ·exact .inr h
def F7 (base:List (List Int))(m:Nat):Prop:=base.length<=2/\1<=m/\m<=6/\∀b∈base,b.length=m
def RT (base rows:List (List Int)):Prop:=rows≠[]/\∀r∈rows,∃b∈base,r.Perm b
theorem RU (h:n<=6):Pl n<=720:=by
 have:n=0\/n=1\/n=2\/n=3\/n=4\/n=5\/n=6:=by lia
 rcases this with rfl|rfl|rfl|rfl|rfl|rfl|rfl<;>decide
theorem Jk (hb:F7 base m)(h:∀r∈rows,∃b∈base,r.Perm b):(i4 rows).length<=1440:=by
 have sub:∀x∈i4 rows,x∈base.flatMap eU:=λx hx=>by
  rcases p9 _ _ _ hx with z|z
  ·cases z
  ·obtain⟨b,h1,h2⟩:=h x z;exact abE.mpr ⟨b,h1,sJ h2⟩
 refine Zj (Bk (o3 rows [] ac6) sub) ?_;rw[List.length_flatMap];have lb:∀l:List (List Int),(∀b∈l,b.length=m)->(l.map λa=>(eU a).length).sum<=l.length*720:=by
  intro l
  induction l with
  |nil=>intro _;simp
  |cons b l ih=>
   intro h;rw[Yp,aa5,X_];have h1:=ih λc hc=>h c (Ya _ hc);have h2:(eU b).length<=720:=by rw[(sL b).2,h b Yb];exact RU hb.2.2.1
   lia
 have:=lb base hb.2.2.2;have:=hb.1;lia
theorem sM (few:(i4 rows).length<=1440)(ne:∀r∈rows,r≠[])(hn:rows≠[]):∃rows',fH [.lst (rows.map aP)]=.ok (.lst (rows'.map aP))/\rows'≠[]/\rows'.length<=1440/\(∀x,x∈rows'↔x∈rows)/\rows'.Nodup:=by
 have e1:xw (rows.map aP)=some rows:=by
  clear few hn
  induction rows with
  |nil=>rfl
  |cons r rows ih=>
   rw[Yp];unfold xw;have e:IT (aP r)=some r:=by
    unfold IT aP;dsimp only;rw[jJ];cases r with
    |nil=>exact absurd rfl (ne [] Yb)
    |cons=>rfl
   rw[e,ih λq hq=>ne q (Ya _ hq)]
 have mem:∀x,x∈sC (i4 rows)↔x∈rows:=λx=>by
  rw[(fc _).mem_iff];constructor
  ·intro hx;rcases p9 _ _ _ hx with z|z
   ·cases z
   ·exact z
  ·exact λhx=>Bl _ _ _ (.inr hx)
 refine⟨sC (i4 rows),?_,λe=>?_,by rw[(fc _).length_eq];exact few,mem,(fc _).nodup_iff.mpr (o3 rows [] ac6)⟩
 ·unfold fH;dsimp only;rw[e1];dsimp only;rw[hV (by lia)]
 ·obtain⟨r,hr⟩:=aao _ hn;have:=(mem r).mpr hr;rw[e] at this;cases this
theorem EB:∀(l bX:List (List Int)),(l.foldl vd bX).length<=bX.length+l.length
 | [],bX=>by simp
 |x::l,bX=>by
  refine Zj (EB l _) ?_;unfold vd;split<;>simp<;>lia
def Pq (base:List (List Int))(rows:List (List Int)):Prop:=RT base rows/\rows.length<=1440
theorem o5 (hb:F7 base m)(h:RT base rows):∀r∈rows,r.length=m:=λr hr=>by
 obtain⟨b,h1,h2⟩:=h.2 r hr;rw[h2.length_eq,hb.2.2.2 b h1]
theorem o7 (hb:F7 base m)(h:RT base rows):∃rows',fH [.lst (rows.map aP)]=.ok (.lst (rows'.map aP))/\Pq base rows'/\∀x,x∈rows'↔x∈rows:=by
 obtain⟨rows',a1,a2,a3,a4,_⟩:=sM (Jk hb h.2) (λr hr e=>by
  have h3:=o5 hb h r hr;have h4:=hb.2.1;rw[e] at h3;rw[←h3] at h4;exact absurd h4 (by decide)) h.1
 exact⟨rows',a1,⟨⟨a2,λr hr=>h.2 r ((a4 r).mp hr)⟩,a3⟩,a4⟩
open Hc.Ts
def Sm (l:List Int):Prop:=l≠[]/\l.length<=8
def cP:Nat->U->Prop
 |0,_=>False
 |d+1,u=>(∃cs,u=.tup [.str "end",aP cs]/\Sm cs)\/u=.tup [.str "again"]\/(∃p q,u=.tup [.str "lay",aP p,q]/\Sm p/\cP d q)\/(∃(ps:List (List Int)) (q:U),u=.tup [.str "mix",.tup (ps.map aP),q]/\(ps≠[]/\ps.length<=24/\∀p∈ps,Sm p)/\cP d q)\/∃(pl:List Int) (ws:List (List Int×U)),u=.tup [.str "look",aP pl,.tup (ws.map kj)]/\Sm pl/\ws≠[]/\ws.length<=5/\∀w∈ws,w.1.length<=8/\cP d w.2
abbrev PW (d:Nat)(w:List Int×U):Prop:=w.1.length<=8/\cP d w.2
def vA {cs:List Int}(h:Sm cs):cP (d+1) (.tup [.str "end",aP cs]):=by unfold cP;exact .inl ⟨cs,rfl,h⟩
def Jl:cP (d+1) (.tup [.str "again"]):=by unfold cP;exact .inr (.inl rfl)
def Pr {p:List Int}(hp:Sm p)(h:cP d q):cP (d+1) (.tup [.str "lay",aP p,q]):=by unfold cP;exact .inr (.inr (.inl ⟨p,q,rfl,hp,h⟩))
def Pt {ps:List (List Int)}(h1:ps≠[])(h2:ps.length<=24)(h3:∀p∈ps,Sm p)(h:cP d q):cP (d+1) (.tup [.str "mix",.tup (ps.map aP),q]):=by unfold cP;exact .inr (.inr (.inr (.inl ⟨ps,q,rfl,⟨h1,h2,h3⟩,h⟩)))
def yV {ws:List (List Int×U)}(hp:Sm pl)(h1:ws≠[])(h2:ws.length<=5)(h:∀w∈ws,PW d w):cP (d+1) (.tup [.str "look",aP pl,.tup (ws.map kj)]):=by unfold cP;exact .inr (.inr (.inr (.inr ⟨pl,ws,rfl,hp,h1,h2,h⟩)))
def CQ (h:sI m os):∀i∈os,0<=i/\i<m:=λi hi=>lV.mp (h.mem_iff.mp hi)
def ma (h:sI m os):os.length=m:=by rw[h.length_eq,e_]
theorem Jm (h:sI m os)(h1:1<=m)(h8:m<=8):Sm os:=⟨λz=>by have:=ma h;rw[z] at this;have e:(([]:List Int).length)=0:=rfl;lia,by rw[ma h];exact h8⟩
theorem yW {s:U}(h:jI s)(h1:1<=m)(h8:m<=8):∃cs s',fR [s,.int m]=.ok (.tup [.str "end",aP cs],s')/\Sm cs/\jI s':=by
 obtain⟨os,s1,e1,o1,h1'⟩:=m4 (m:=m) h (by lia);obtain⟨r,s2,e2,r0,r1,h2⟩:=cJ (m:=2) h1' (by decide) (by decide);have hz:∃z:Int,lM [U.int 2,U.int m] r=some (.int z)/\0<z/\z<=8:=by
  have:r=0\/r=1:=by lia
  rcases this with rfl|rfl
  ·exact⟨2,rfl,by decide,by decide⟩
  ·exact⟨m,rfl,by lia,by lia⟩
 obtain⟨z,hz,z0,z1⟩:=hz;obtain⟨t,s3,e3,t0,t1,h3⟩:=cJ (m:=z) h2 z0 (by lia);obtain⟨k,hk⟩:∃k:Nat,1+t=k:=⟨(1+t).toNat,by lia⟩;refine⟨os.take k,s3,?_,⟨λz=>by have:=congrArg aai z;rw[Yy,ma o1] at this;have e:(([]:List Int).length)=0:=rfl;lia,by rw[Yy,ma o1];lia⟩,h3⟩;simp only[Pzz,bg,Nat.reduceAdd,Nat.reduceSub,fR,oU,e1,e2,hz,e3,hk,fi];unfold aP;rw[abZ]
def Jn {a:List Int}(h:sI a.length os):(ku a os).Perm a:=by
 unfold ku;refine (h.map _).trans ?_;have e:(bj a.length).map (λi=>a.getD i.toNat 0)=a:=by
  unfold bj;rw[Y9];refine List.ext_getElem (by simp) λi h1 h2=>?_;rw[List.getElem_map,List.getElem_range];show a.getD ((i:Int)).toNat 0=_;rw[Zu,acR,X7 h2];rfl
 rw[e]
def Jo (Qd:∀u,df 0 u (kq js ρ)=.ok [some u,some (aP os)])(h:∀r∈rows,∀i∈os,0<=i/\i<r.length)(hl:os.length<=1000) :
  lr (nq js (df 0) cb (iE 2 cF (ae (ai 0) (ae (ai 1) ak))) ρ) (rows.map aP)=.ok ((rows.map λr=>ku r os).map aP):=by
 rw[Y9];refine fJ λr hr=>?_;unfold nq;rw[Qd];simp only[Pzz,bg,Nat.reduceAdd,Nat.reduceSub,pS (h r hr) hl];rfl
theorem vB (hb:F7 base m)(h:RT base rows):∃r,lM (rows.map aP) 0=some (aP r)/\r.length=m:=by
 obtain⟨r,rs,rfl⟩:=ZX h.1;exact⟨r,by rw[show (0:Int)=((0:Nat):Int) from rfl,mR];rfl,o5 hb h r Yb⟩
def tX (n:Nat):kQ 9 (cG n)=bU n:=rfl
def yX (n:Nat):kQ 11 (fZ n)=kH n:=rfl
def CS (base:List (List Int))(n:Nat)(k:Int)(d:Nat):Prop:=∀rows s b,Pq base rows->jI s->∃u s',bU n [s,.lst (rows.map aP),.int k,.bl b]=.ok (u,s')/\cP d u/\jI s'
def RV (base:List (List Int))(n:Nat)(k:Int)(d:Nat):Prop:=∀rows s b,Pq base rows->jI s->∃u s',kH n [s,.lst (rows.map aP),.int k,.bl b]=.ok (u,s')/\cP d u/\jI s'
def i_ {r:List Int}:aP r=.tup (r.map U.int):=rfl
theorem EC (hb:F7 base m)(h:RT base rows)(ho:sI m os):∀x∈rows.map (λr=>ku r os),∃b∈base,x.Perm b:=λx hx=>by
 obtain⟨r,hr,rfl⟩:=Yz.mp hx;obtain⟨b,h1,h2⟩:=h.2 r hr;have l:=o5 hb h r hr;subst l;exact⟨b,h1,(Jn ho).trans h2⟩
theorem Jp (hb:F7 base m){k:Int}(hk:k<2):CS base (n+1) k 1:=λrows s b hr hs=>by
 obtain⟨r,e0,l0⟩:=vB hb hr.1;obtain⟨w,s1,e1,w0,w1,kg⟩:=cJ (m:=12) hs (by decide) (by decide);obtain⟨cs,s2,e2,hcs,dG⟩:=yW (m:=m) kg hb.2.1 (by have:=hb.2.2.1;lia);refine⟨_,s2,?_,vA hcs,dG⟩;simp only[Pzz,bg,Nat.reduceAdd,Nat.reduceSub,bU,cG,e0,i_,X8,l0,e1,hG hk,e2]
theorem Jq (hb:F7 base m){k w:Int}(hp:CS base n (k-1) d){s:U}{b:Bool}(hr:Pq base rows)(hk:¬k<2)(e1:aA [s,.int 12]=.ok (.int w,s1))(kg:jI s1)(w0:¬w=0)(wb:w=1->b=false)(w4:w<4) :
  ∃u s',bU (n+1) [s,.lst (rows.map aP),.int k,.bl b]=.ok (u,s')/\cP (d+1) u/\jI s':=by
 obtain⟨r,e0,l0⟩:=vB hb hr.1;have m5:=hb.2.2.1;obtain⟨os,s2,e2,ho,dG⟩:=m4 (m:=m) kg (by lia);have e3:=Jo (js:=[none,some 6]) (ρ:=[some s2,some (.lst (rows.map aP)),some (.int k),some (.bl b),some (.int m),some (.int w),some (aP os),none,none]) (rows:=rows) (os:=os) (λu=>rfl)
  (λr jn=>by rw[o5 hb hr.1 r jn];exact CQ ho) (by rw[ma ho];lia)
 obtain⟨rows',e4,hr',_⟩:=o7 hb (rows:=rows.map λr=>ku r os) ⟨λz=>hr.1.1 (aaK.mp z),EC hb hr.1 ho⟩;obtain⟨u,s3,e5,hu,hs3⟩:=hp rows' s2 b hr' dG;refine⟨.tup [.str "lay",aP os,u],s3,?_,Pr (Jm ho hb.2.1 (by lia)) hu,hs3⟩;have b1:(w==0)=false:=beq_eq_false_iff_ne.mpr w0;rw[i_] at e3 ⊢;rw[bU,cG,tX,yX];by_cases c:w=1
 ·have b3:(w==1)=true:=beq_iff_eq.mpr c;rw[wb c] at *;simp only[Pzz,bg,Nat.reduceAdd,Nat.reduceSub,e0,i_,X8,l0,e1,hJ hk,bo,b1,b3,id,hG w4,e2,e3,e4,e5]
 ·have b3:(w==1)=false:=beq_eq_false_iff_ne.mpr c;simp only[Pzz,bg,Nat.reduceAdd,Nat.reduceSub,e0,i_,X8,l0,e1,hJ hk,bo,b1,b3,id,hG w4,e2,e3,e4,e5]
theorem Jr (hb:F7 base m){k w:Int}(hp:CS base n (k-1) d){s:U}{b:Bool}(hr:Pq base rows)(hk:¬k<2)(e1:aA [s,.int 12]=.ok (.int w,s1))(kg:jI s1)(w4:¬w<4)(w8:w<8) :
  ∃u s',bU (n+1) [s,.lst (rows.map aP),.int k,.bl b]=.ok (u,s')/\cP (d+1) u/\jI s':=by
 obtain⟨r,e0,l0⟩:=vB hb hr.1;have m5:=hb.2.2.1;have sz:Yf=16777216:=rfl;obtain⟨oss,s2,e2,ho,n1,n24,dG⟩:=CP (m:=m) kg hb.2.1 (by lia);have J2:=hr.2;obtain⟨ρ',e3,A,o,rfl,lA,hA⟩:=fw (sg:=df 6) (s:=lq (gM "list" 8 iR (ae (eX (eW (ai 1)) [none,some 6] (df 0) cb (iE 2 cF (ae (ai 0) (ae (ai 1) ak)))) ak)))
  (λi ρ=>∃(A:List (List Int)) (o:Option U),ρ=[some s2,some (.lst (rows.map aP)),some (.int k),some (.bl b),some (.int m),some (.int w),o,some (.tup (oss.map tO)),some (.lst (A.map aP))]/\A.length=i*rows.length/\∀r∈A,∃b∈base,r.Perm b) (us:=oss.map tO)
  (λi u ρ hu h00=>by
   obtain⟨A,o,hρ,lA,hA⟩:=h00;subst hρ;rw[YL] at hu;obtain⟨os,SG,rfl⟩:=aba.mp hu;have hm:=Y6 SG;have hi:i<oss.length:=(Yr.mp SG).1;have oo:=ho os hm;have e3:=Jo (js:=[none,some 6]) (ρ:=[some s2,some (.lst (rows.map aP)),some (.int k),some (.bl b),some (.int m),some (.int w),some (tO os),some (.tup (oss.map tO)),some (.lst (A.map aP))]) (rows:=rows) (os:=os) (λu=>rfl)
    (λr jn=>by rw[o5 hb hr.1 r jn];exact CQ oo) (by rw[ma oo];lia)
   have le:i*rows.length<=24*1440:=Nat.mul_le_mul (by lia) J2;have lx:(A.map aP).length+((rows.map λr=>ku r os).map aP).length<=Yf:=by simp only[X8];lia
   refine⟨_,_,rfl,.inl (by
    simp only[Pzz,bg,Nat.reduceAdd,Nat.reduceSub,Zb,YY,e3,Jg,lx];rfl),A++rows.map (λr=>ku r os),some (tO os),?_,?_,?_⟩
   ·rw[YT]
   ·rw[Yc,X8,lA,Nat.add_mul,Nat.one_mul]
   ·intro x hx;rcases Yx.mp hx with z|z
    ·exact hA x z
    ·exact EC hb hr.1 oo x z) (ρ:=[some s2,some (.lst (rows.map aP)),some (.int k),some (.bl b),some (.int m),some (.int w),none,some (.tup (oss.map tO)),some (.lst [])]) ⟨[],none,rfl,by simp,λr h=>by cases h⟩
 rw[X8] at lA;have XF:A≠[]:=λz=>by
  rw[z] at lA;have h1:0<rows.length:=ZF.mpr hr.1.1;have:=Nat.mul_pos (show 0<oss.length by lia) h1;rw[←lA] at this;exact absurd this (by decide)
 obtain⟨rows',e4,hr',_⟩:=o7 hb (rows:=A) ⟨XF,hA⟩;obtain⟨u,s3,e5,hu,hs3⟩:=hp rows' s2 b hr' dG;refine⟨.tup [.str "mix",.tup (oss.map tO),u],s3,?_,Pt (λz=>by rw[z] at n1;exact absurd n1 (by decide)) n24 (λp hp=>Jm (ho p hp) hb.2.1 (by lia)) hu,hs3⟩;have b1:(w==0)=false:=beq_eq_false_iff_ne.mpr (by lia);have b3:(w==1)=false:=beq_eq_false_iff_ne.mpr (by lia);rw[bU,cG,tX,yX];simp only[Pzz,bg,Nat.reduceAdd,Nat.reduceSub,e0,i_,X8,l0,e1,hJ hk,bo,b1,b3,id,hJ w4,hG w8,e2,e3,e4,e5]
theorem F8 (hb:F7 base m){k:Int}(hp:CS base n (k-1) d)(hl:RV base n k (d+1))(hk:¬k<2):CS base (n+1) k (d+1):=λrows s b hr hs=>by
 obtain⟨r,e0,l0⟩:=vB hb hr.1;have m5:=hb.2.2.1;obtain⟨w,s1,e1,w0,w1,kg⟩:=cJ (m:=12) hs (by decide) (by decide);by_cases c0:w=0
 ·obtain⟨cs,s2,e2,hcs,dG⟩:=yW (m:=m) kg hb.2.1 (by lia);refine⟨_,s2,?_,vA hcs,dG⟩;subst c0;simp only[Pzz,bg,Nat.reduceAdd,Nat.reduceSub,bU,cG,e0,i_,X8,l0,e1,hJ hk,bo,Int.reduceBEq,id,e2]
 by_cases c1:w=1/\b=true
 ·obtain⟨rfl,rfl⟩:=c1;refine⟨.tup [.str "again"],s1,?_,Jl,kg⟩;simp only[Pzz,bg,Nat.reduceAdd,Nat.reduceSub,bU,cG,e0,i_,X8,l0,e1,hJ hk,bo,Int.reduceBEq,id]
 by_cases c4:w<4
 ·exact Jq hb hp hr hk e1 kg c0 (λz=>by cases b with|false=>rfl|true=>exact absurd ⟨z,rfl⟩ c1) c4
 by_cases c8:w<8
 ·exact Jr hb hp hr hk e1 kg c4 c8
 obtain⟨u,s2,e5,hu,dG⟩:=hl rows s1 b hr kg;refine⟨u,s2,?_,hu,dG⟩;have b1:(w==0)=false:=beq_eq_false_iff_ne.mpr c0;have b3:(w==1)=false:=beq_eq_false_iff_ne.mpr (by lia);rw[bU,cG,tX,yX];simp only[Pzz,bg,Nat.reduceAdd,Nat.reduceSub,e0,i_,X8,l0,e1,hJ hk,bo,b1,b3,id,hJ c4,hJ c8,e5]
theorem xH {α:Type}{f:U->R (Option U)}{c:α->U}{p:α->Bool}:∀{xs:List α},(∀x∈xs,f (c x)=.ok (if p x=true then some (c x) else none))->lr f (xs.map c)=.ok ((xs.filter p).map c)
 | [],_=>rfl
 |x::xs,h=>by
  rw[Yp];unfold lr;rw[h x Yb];show (lr f (xs.map c)).bind _=_;rw[xH λy hy=>h y (Ya _ hy)];show R.ok _=_;rw[List.filter_cons];cases p x<;>rfl
noncomputable def VG (p:U->U->R U)(y:U×Ev)(o:Option (Option U)):R (U×Ev):=match o with
 |some (some u)=>(p u y.1).bind λz=>.ok (z,y.2)
 |_=>.stk
def RW {p:U->U->R U}{g:Ev->R (U×Ev)}:LD j p g ρ=if D3 ρ[j]? = true then (g ρ).bind λy=>VG p y y.2[j]? else .stk:=nr rfl
def RX {p:U->U->R U}{y:U×Ev}:VG p y (some (some u))=(p u y.1).bind λz=>.ok (z,y.2):=nr rfl
def yY {k:Bool}:K7 [.bl k]=.ok (.int (if k then 1 else 0)):=nr rfl
def ED:lR (.lst us) [u]=if us.length<Yf then .ok (.non,.lst (us++[u])) else .stk:=nr rfl
def RY {v:List Int}(Qd:∀u,df 0 u (kq js ρ)=.ok [some u,some (aP v),some (aP pl)])(h:∀r∈rows,∀i∈pl,0<=i/\i<r.length)(hl:pl.length<=1000) :
  lr (nq js (df 0) (gB (aK (lB id) (iE 2 cF (ae (ai 0) (ae (ai 2) ak))) (ai 1))) (ai 0) ρ) (rows.map aP)=.ok ((rows.filter λr=>decide (ku r pl=v)).map aP):=by
 refine xH λr hr=>?_;unfold nq;rw[Qd];have e:kR (aP (ku r pl)) (aP v)=.ok (decide (ku r pl=v)):=IH _ _;by_cases c:ku r pl=v
 ·rw[hG c] at e ⊢;simp only[Pzz,bg,Nat.reduceAdd,Nat.reduceSub,pS (h r hr) hl,e,id]
 ·rw[hJ c] at e ⊢;simp only[Pzz,bg,Nat.reduceAdd,Nat.reduceSub,pS (h r hr) hl,e,id]
theorem Js:∀{d:Nat} {u:U},cP d u->∃us,u=.tup us
 |0,_,h=>by cases h
 |d+1,u,h=>by
  unfold cP at h;rcases h with⟨_,rfl,_⟩|rfl|⟨_,_,rfl,_⟩|⟨_,_,rfl,_⟩|⟨_,_,rfl,_⟩<;>exact⟨_,rfl⟩
theorem lD:∀{ws:List (List Int×U)},(∀w∈ws,∃us,w.2=.tup us)->oQ (ws.map kj)=some ws
 | [],_=>rfl
 |w::ws,h=>by
  obtain⟨ks,u⟩:=w;obtain⟨us,hu⟩:=h _ Yb;dsimp only at hu;subst hu;rw[Yp];have e:EA (kj (ks,.tup us))=some (ks,.tup us):=by
   show (eo (ks.map U.int)).map _=_;rw[jJ];rfl
  unfold oQ;rw[e,lD λw hw=>h w (Ya _ hw)]
theorem Bm:∀{ps:List (List Int×U)} {k:List Int},k∈ps.map (·.1)->∃p∈ps,mw ps k=p.2
 |p::ps,k,h=>by
  unfold mw;rw[ZH];by_cases c:k=p.1
  ·rw[c,beq_self_eq_true];exact⟨p,Yb,rfl⟩
  ·rw[beq_eq_false_iff_ne.mpr c];rw[Yp] at h;obtain⟨q,h1,h2⟩:=Bm ((Yk.mp h).resolve_left c);exact⟨q,Ya _ h1,h2⟩
theorem Jt {ws:List (List Int×U)}(h:∀w∈ws,PW d w)(nd:(ws.map (·.1)).Nodup)(hl:ws.length<=1000):∃ws':List (List Int×U),vj [.lst (ws.map kj)]=.ok (.lst (ws'.map kj))/\ws'.length=ws.length/\∀w∈ws',PW d w:=by
 refine⟨AM ws,?_,?_,λw hw=>?_⟩
 ·unfold vj;dsimp only;rw[lD λw hw=>Js (h w hw).2];dsimp only;rw[hV ⟨by lia,nd⟩]
 ·unfold AM;rw[X8,(fc _).length_eq,X8]
 ·obtain⟨k,hk,rfl⟩:=Yz.mp hw;have hk:=(fc _).mem_iff.mp hk;obtain⟨p,h1,h2⟩:=Bm hk;obtain⟨p',h3,h4⟩:=Yz.mp hk;refine⟨?_,?_⟩
  ·show k.length<=8;rw[←h4];exact (h p' h3).1
  ·show cP d (mw ws k);rw[h2];exact (h p h1).2
def EE (r:List Int):fu (aP r)=some (.tup (r.map .int)):=by unfold aP fu;rw[qW];rfl
theorem vC {α:Type}{f:α->U}{g:α->D}(h:∀x,fu (f x)=some (g x)):∀xs:List α,d9 (xs.map f)=some (xs.map g)
 | []=>by unfold d9;rfl
 |x::xs=>by rw[Yp];unfold d9;rw[h,vC h xs];rfl
theorem LO (r:List Int):cT (.tup (r.map .int))<=1:=by unfold cT;rw[oJ];lia
def LQ (a b:List Int):iP (.tup (a.map .int)) (.tup (b.map .int))=decide (a=b):=by unfold iP;exact nE a b
theorem CT (c:List Int)(rows:List (List Int)):xF not (aP c) (.lst (rows.map aP))=.ok (.bl (!decide (c∈rows))):=by
 unfold xF yC;rw[EE];show (match some (D.tup (c.map .int)),d9 (rows.map aP) with|some dx,some ds=>_|_,_=>_)=_;rw[vC EE];dsimp only;rw[hV (by rw[acW];exact Yo.mpr λr _=>hG (by have:=LO r;show cT (.tup (r.map .int))<=30;lia))];congr 3;rw[List.any_map];have:((λd=>iP d (.tup (c.map .int)))∘λr:List Int=>D.tup (r.map .int))=λr=>decide (r=c):=funext λr=>LQ r c;rw[this];by_cases h:c∈rows
 ·rw[hG h];exact abD.mpr ⟨c,h,hG rfl⟩
 ·rw[hJ h];exact List.any_eq_false.mpr λr hr e=>h (by rw[←of_decide_eq_true e];exact hr)
theorem F9 (hb:F7 base m){k:Int}(hp:CS base n (k-1) d):RV base (n+1) k (d+1):=λrows s b hr hs=>by
 obtain⟨r,e0,l0⟩:=vB hb hr.1;have m5:=hb.2.2.1;have m1:=hb.2.1;have sz:Yf=16777216:=rfl;obtain⟨os,s1,e1,ho,kg⟩:=m4 (m:=m) hs (by lia);obtain⟨t,s2,e2,t0,t1,dG⟩:=cJ (m:=2) kg (by decide) (by decide);obtain⟨kk,hk,k1,km⟩:∃kk:Nat,1+t*(if decide (1<(m:Int))=true then 1 else 0)=(kk:Int)/\1<=kk/\kk<=m:=by
  have:t=0\/t=1:=by lia
  by_cases c:1<(m:Int)
  ·rw[hG c,hV rfl];rcases this with rfl|rfl
   ·exact⟨1,rfl,by lia,by lia⟩
   ·exact⟨2,rfl,by lia,by lia⟩
  ·rw[hJ c,hU (by decide)];exact⟨1,by lia,by lia,by lia⟩
 have c1:pO t (if decide (1<(m:Int))=true then 1 else 0)=true:=qV t0 (by lia);obtain⟨pl,pj⟩:∃pl,pl=os.take kk:=⟨_,rfl⟩;have Tp:(os.map U.int).take kk=pl.map U.int:=by rw[pj,abZ]
 have Vc:pl.length=kk:=by rw[pj,Yy,ma ho];lia
 have V_:∀i∈pl,0<=i/\i<(m:Int):=λi hi=>CQ ho i (Zd (pj▸hi));have e3:=Jo (js:=[none,some 5]) (ρ:=[some s2,some (.lst (rows.map aP)),some (.int k),some (.bl b),some (.int m),some (aP pl),none,none,none,none,none]) (rows:=rows) (os:=pl) (λu=>rfl)
  (λr jn=>by rw[o5 hb hr.1 r jn];exact V_) (by lia)
 have Vd:Sm pl:=⟨λz=>by rw[z] at Vc;have e:(([]:List Int).length)=0:=rfl;lia,by lia⟩;have J2:=hr.2;obtain⟨seen,e4,ns,_,ms,nds⟩:=sM (rows:=rows.map λr=>ku r pl) (by
   have:=EB (rows.map λr=>ku r pl) [];rw[X8] at this;have e:(([]:List (List Int)).length)=0:=rfl;unfold i4;lia) (λx hx e=>by
   obtain⟨r,_,rfl⟩:=Yz.mp hx;have:=congrArg aai e;unfold ku at this;rw[X8,Vc] at this;have e:(([]:List Int).length)=0:=rfl;lia) (λz=>hr.1.1 (aaK.mp z))
 rw[kH,fZ,tX];by_cases c4:4<seen.length
 ·obtain⟨cs,s3,e5,hcs,hs3⟩:=yW (m:=m) dG m1 (by lia);refine⟨_,s3,?_,vA hcs,hs3⟩;have d4:decide ((4:Int)<(seen.length:Nat))=true:=hG (by lia);rw[i_] at e3;simp only[Pzz,bg,Nat.reduceAdd,Nat.reduceSub,e0,i_,X8,l0,e1,e2,nW,yY,c1,hk,fi,Tp,e3,e4,d4,e5]
 ·have l2:(2:Nat)<=Yf:=by decide
  obtain⟨ρ',e5,s3,ws,o8,o9,rfl,hw,hws,hs3⟩:=fw (sg:=df 8) (s:=aO (bK 9 (eX (eW (ai 1)) [none,some 8,some 5] (df 0) (gB (aK (lB id) (iE 2 cF (ae (ai 0) (ae (ai 2) ak))) (ai 1))) (ai 0))) (lq (gM "list" 7 lR (ae (az (ae (ai 8) (ae (iY 4 0 (bU n) (ae (ai 9) (ae (aK sV (ai 2) (zqc 1)) (ae (ai 3) ak)))) ak))) ak))))
   (λi ρ=>∃(s:U) (ws:List (List Int×U)) (o8 o9:Option U),ρ=[some s,some (.lst (rows.map aP)),some (.int k),some (.bl b),some (.int m),some (aP pl),some (.lst (seen.map aP)),some (.lst (ws.map kj)),o8,o9,none]/\ws.map (·.1)=seen.take i/\(∀w∈ws,PW d w)/\jI s) (us:=seen.map aP)
   (λi u ρ hu h00=>by
    obtain⟨s,ws,o8,o9,hρ,hw,hws,hs⟩:=h00;subst hρ;rw[YL] at hu;obtain⟨v,hv,rfl⟩:=aba.mp hu;have f1:=RY (js:=[none,some 8,some 5]) (ρ:=[some s,some (.lst (rows.map aP)),some (.int k),some (.bl b),some (.int m),some (aP pl),some (.lst (seen.map aP)),some (.lst (ws.map kj)),some (aP v),o9,none]) (rows:=rows) (v:=v) (pl:=pl) (λu=>rfl)
     (λr jn=>by rw[o5 hb hr.1 r jn];exact V_) (by lia)
    obtain⟨r1,hr1,hv1⟩:=Yz.mp ((ms v).mp (Y6 hv));obtain⟨u,s',f2,hu,hs'⟩:=hp (rows.filter λr=>decide (ku r pl=v)) s b ⟨⟨List.ne_nil_of_mem (acy.mpr ⟨hr1,hG hv1⟩),λr jn=>hr.1.2 r (acy.mp jn).1⟩,Zj (List.length_filter_le _ _) J2⟩ hs;have lw:(ws.map kj).length<Yf:=by
     have:=congrArg aai hw;rw[X8,Yy] at this;rw[X8];lia
    refine⟨_,_,rfl,.inl (by
     simp only[Pzz,bg,Nat.reduceAdd,Nat.reduceSub,Zb,YY,f1,f2,l2,ED,lw];rfl),s',ws++[(v,u)],some (aP v),some (.lst ((rows.filter λr=>decide (ku r pl=v)).map aP)),?_,?_,?_,hs'⟩
    ·rw[YT];rfl
    ·rw[YT,hw,List.take_succ,hv];rfl
    ·intro w BD;rcases Yx.mp BD with z|z
     ·exact hws w z
     ·rw[Yw.mp z];exact⟨by rw[←hv1];unfold ku;rw[X8,Vc];lia,hu⟩) (ρ:=[some s2,some (.lst (rows.map aP)),some (.int k),some (.bl b),some (.int m),some (aP pl),some (.lst (seen.map aP)),some (.lst []),none,none,none]) ⟨s2,[],none,none,rfl,rfl,(λw h=>by cases h),dG⟩
  rw[X8,aax] at hw;have lw:ws.length=seen.length:=by rw[←hw,X8]
  have ls:0<seen.length:=ZF.mpr ns;have nw:ws≠[]:=λz=>by rw[z] at lw;have e:(([]:List (List Int×U)).length)=0:=rfl;lia
  obtain⟨q,s4,e6,q0,q1,hs4⟩:=cJ (m:=6) hs3 (by decide) (by decide);have d4:decide ((4:Int)<(seen.length:Nat))=false:=hJ (by lia);rw[i_] at e3 e5;by_cases cq:q=0
  ·subst cq;obtain⟨ys,s5,e7,ly,cs,hy,hs5⟩:=lC (G:=kG) (js:=[none,some 0]) (sg:=df 0) (ge:=iY 2 1 aA (ae (zqc 10) ak))
    (λx:U=>[some x,some (.lst (rows.map aP)),some (.int k),some (.bl b),some (.int m),some (.tup (pl.map U.int)),some (.lst (seen.map aP)),some (.lst (ws.map kj)),o8,o9,none]) pl.length (λys x=>∃cs:List Int,ys=cs.map U.int/\jI x)
    (λdone u x hd h00=>by
     obtain⟨cs,hr,hs⟩:=h00;obtain⟨r,x',b1,_,_,b4⟩:=cJ (m:=10) hs (by decide) (by decide);refine⟨[some u,some x],.int r,[some u,some x'],x',rfl,?_,rfl,cs++[r],by rw[hr,YT];rfl,b4⟩;simp only[Pzz,bg,Nat.reduceAdd,Nat.reduceSub,b1]) (pl.map U.int) [] s4 (by rw[X8];simp) ⟨[],rfl,hs4⟩
   rw[Zx] at hy;subst hy;have e8:xF not (.tup (cs.map U.int)) (.lst (seen.map aP))=.ok (.bl (!decide (cs∈seen))):=CT cs seen;by_cases cc:cs∈seen
   ·rw[hG cc] at e8;refine⟨.tup [.str "look",.tup (pl.map U.int),.tup (ws.map kj)],s5,?_,yV Vd nw (by lia) hws,hs5⟩;simp only[Pzz,bg,Nat.reduceAdd,Nat.reduceSub,e0,i_,X8,l0,e1,e2,nW,yY,c1,hk,fi,Tp,e3,e4,d4,e5,e6,bo,Int.reduceBEq,id,e7,e8,Ze]
   ·rw[hJ cc] at e8;obtain⟨ds,s6,e9,hds,hs6⟩:=yW (m:=m) hs5 m1 (by lia);obtain⟨ws',e10,lw',hws'⟩:=Jt (d:=d) (ws:=ws++[(cs,.tup [.str "end",aP ds])]) (λw BD=>by
     rcases Yx.mp BD with z|z
     ·exact hws w z
     ·rw[Yw.mp z];cases d with
      |zero=>obtain⟨w,hw3⟩:=aao _ nw;cases (hws w hw3).2
      |succ=>exact⟨by rw[X8,X8] at ly;show cs.length<=8;lia,vA hds⟩) (by
     rw[YT,hw];show (seen++[cs]).Nodup;rw[acd];exact⟨nds,by simp,λa ha c hc e=>cc (by rw[Yw.mp hc] at e;rw[←e];exact ha)⟩) (by rw[Yc];show ws.length+1<=1000;lia)
    rw[Yc] at lw';have Wa:ws'.length=ws.length+1:=lw';have lc:ws.length+1<=Yf:=by lia
    rw[YT] at e10;have XG:List.map kj [(cs,.tup [.str "end",aP ds])]=[.tup [.tup (cs.map U.int),.tup [.str "end",aP ds]]]:=rfl;rw[XG,i_] at e10;refine⟨.tup [.str "look",.tup (pl.map U.int),.tup (ws'.map kj)],s6,?_,yV Vd (λz=>by rw[z] at Wa;cases Wa) (by lia) hws',hs6⟩;simp only[Pzz,bg,Nat.reduceAdd,Nat.reduceSub,e0,i_,X8,l0,e1,e2,nW,yY,c1,hk,fi,Tp,e3,e4,d4,e5,e6,bo,Int.reduceBEq,id,e7,e8,YX,RW,RX,l2,e9,lc,e10]
  ·have b6:(q==0)=false:=beq_eq_false_iff_ne.mpr cq;refine⟨.tup [.str "look",.tup (pl.map U.int),.tup (ws.map kj)],s4,?_,yV Vd nw (by lia) hws,hs4⟩;simp only[Pzz,bg,Nat.reduceAdd,Nat.reduceSub,e0,i_,X8,l0,e1,e2,nW,yY,c1,hk,fi,Tp,e3,e4,d4,e5,e6,bo,b6,id]
theorem vD {base:List (List Int)}{m:Nat}(hb:F7 base m):∀(k n:Nat),CS base (2*k+n+1) ((k:Int)+1) (k+1)
 |0,n=>Jp hb (by lia)
 |k+1,n=>by
  have h1:=vD hb k (n+1);have h2:=vD hb k n;have e:((k+1:Nat):Int)+1-1=(k:Int)+1:=by lia
  rw[show 2*(k+1)+n+1=(2*k+(n+1)+1)+1 by lia];refine F8 hb (by rw[e];exact h1) ?_ (by lia);rw[show 2*k+(n+1)+1=(2*k+n+1)+1 by lia];exact F9 hb (by rw[e];exact h2)
def CU {bX:List Int}{n:Int}(h:bX.any (·==n)=true):ZW bX n=bX:=hV h
def CV {bX:List Int}{n:Int}(h:¬bX.any (·==n)=true):ZW bX n=bX++[n]:=hU h
theorem eV {vs:List U}(h:vP (.dct ks vs)):False:=by
 obtain⟨d,e,_⟩:=h;unfold fu at e;cases e
theorem ja (h:vP u):dz [u]=.ok (.bl (Aj u)):=by
 have hs:=cZ h;cases u<;>first|exact hs.elim|exact (eV h).elim|simp only[Pzz,bg,Nat.reduceAdd,Nat.reduceSub,dz,oR,Aj]
def m6 (h:∀x∈us,vP x){f:U->R (Option U)}{c:U->Bool}(hf:∀u,vP u->f u=.ok (some (.bl (c u)))):(lr f us)=.ok (us.map λu=>.bl (c u)):=gR λu hu=>hf u (h u hu)
def Bn (u:U):Prop:=match u with
 | .tup us=>(us.all Aj=true->us.length<60)/\∀x∈us,vP x
 | .scr _=>False
 | .dct _ _=>False
 |_=>True
noncomputable def rn (u:U)(n:Nat):Bool:=match u with
 | .tup us=>match eo us with
  |some ns=>decide (mO ns=bj n)
  |none=>false
 |_=>false
theorem CW (h:us.all Aj=false):eo us=none:=by
 cases e:eo us with
 |none=>rfl
 |some ns=>
  rw[fM e] at h;have:(ns.map U.int).all Aj=true:=by rw[Yo];intro x hx;obtain⟨i,_,rfl⟩:=Yz.mp hx;rfl
  rw[this] at h;cases h
theorem sN (h:Bn u)(hn:n<=1000):eD [u,.int n]=.ok (.bl (rn u n)):=by
 cases u<;>first|exact h.elim|skip
 case tup us=>
  have e:lr (nq [none] (df 0) cb (iE 1 dz (ae (ai 0) ak)) [some (U.tup us),some (U.int n)]) us=.ok (us.map λu=>.bl (Aj u)):=
   m6 h.2 λu hu=>by simp only[Pzz,bg,Nat.reduceAdd,Nat.reduceSub,ja hu]
  cases c:us.all Aj with
  |false=>
   simp only[Pzz,bg,Nat.reduceAdd,Nat.reduceSub,eD,lZ,e,b9,c,rn,CW c]
  |true=>
   obtain⟨ns,rfl⟩:=yj c;have hl:ns.length<64:=by have:=h.1 c;rw[X8] at this;lia
   simp only[Pzz,bg,Nat.reduceAdd,Nat.reduceSub,eD,lZ,e,b9,c,rn,fE,FR hl,Ec n (by lia),jO,Lj,id]
 all_goals kernel_rfl
theorem xI:∀(ns bX:List Int) (x:Int),x∈ns.foldl ZW bX↔x∈bX\/x∈ns
 | [],bX,x=>by simp
 |n::ns,bX,x=>by
  rw[abU,xI ns,Yk];by_cases h:bX.any (·==n)=true
  ·rw[CU h];rw[abD] at h;obtain⟨y,hy,e⟩:=h;have e:y=n:=by simpa using e
   subst e;constructor
   ·rintro (z|z)
    ·exact .inl z
    ·exact .inr (.inr z)
   ·rintro (z|z|z)
    ·exact .inl z
    ·subst z;exact .inl hy
    ·exact .inr z
  ·rw[CV h,Yx,Yw];constructor
   ·rintro ((z|z)|z)
    ·exact .inl z
    ·exact .inr (.inl z)
    ·exact .inr (.inr z)
   ·rintro (z|z|z)
    ·exact .inl (.inl z)
    ·exact .inl (.inr z)
    ·exact .inr z
theorem sO:∀(ns bX:List Int),bX.Nodup->(ns.foldl ZW bX).Nodup
 | [],bX,h=>h
 |n::ns,bX,h=>by
  rw[abU];refine sO ns _ ?_;by_cases z:bX.any (·==n)=true
  ·rw[CU z];exact h
  ·rw[CV z,acd];refine⟨h,by simp,λa ha b hb e=>?_⟩;rw[Yw] at hb;subst e hb;exact z (abD.mpr ⟨a,ha,by simp⟩)
theorem vE:∀(ns bX:List Int),(ns.foldl ZW bX).length<=bX.length+ns.length/\((ns.foldl ZW bX).length=bX.length+ns.length->ns.foldl ZW bX=bX++ns)
 | [],bX=>⟨Yl _,λ_=>by rw[YV];rfl⟩
 |n::ns,bX=>by
  rw[abU,X_];by_cases z:bX.any (·==n)=true
  ·rw[CU z];have:=(vE ns bX).1;exact⟨by lia,λh=>by exfalso;lia⟩
  ·rw[CV z];have h1:=vE ns (bX++[n]);rw[Yc,YA] at h1;refine⟨by have:=h1.1;lia,λh=>?_⟩;rw[h1.2 (by lia),YB];rfl
theorem qk (n:Nat):(bj n).Nodup:=by
 unfold bj ads;rw[Z9];exact List.pairwise_lt_range.imp λh=>by lia
theorem F_ (n:Nat):(bj n).Pairwise (·<=·):=by
 unfold bj;rw[Z9];exact List.pairwise_lt_range.imp λh=>by lia
def Bo:mO ns=bj n↔ns.Perm (bj n):=by
 constructor
 ·intro h;rw[←h];exact (jL ns).symm
 ·intro h;exact PySem.W.ksm_same ((jL ns).trans h) (zZ ns) (F_ n)
theorem Ju (hl:ns.length=n)(hb:∀x∈ns,0<=x/\x<n):(jN ns).length=n↔mO ns=bj n:=by
 rw[Bo];have nd:(jN ns).Nodup:=sO ns [] ac6;constructor
 ·intro h;have e:jN ns=ns:=by
   have:=(vE ns []).2 (by rw[YN,aaA,hl];exact h);rw[Zx] at this;exact this
  rw[e] at nd;refine (abp nd (qk n)).mpr λx=>⟨λhx=>lV.mpr (hb x hx),λhx=>?_⟩;refine aan λhn=>?_;have:=aas (l₁:=x::ns) (l₂:=bj n) (aaq.mpr ⟨hn,nd⟩) (λy hy=>by
   rcases Yk.mp hy with z|z
   ·rw[z];exact hx
   ·exact lV.mpr (hb y z))
  rw[X_,e_] at this;lia
 ·intro h;have XH:ns.Nodup:=h.nodup_iff.mpr (qk n);have p:(jN ns).Perm ns:=(abp nd XH).mpr λx=>by unfold jN;rw[xI];simp
  rw[p.length_eq,hl]
def Jv (h:mO ns=bj n):ns.length=n:=by
 have:=(Bo.mp h).length_eq
 rwa [e_] at this
def Nr (u:U):Prop:=match u with
 | .tup us=>∀x∈us,vP x/\Bn x
 | .scr _=>False
 | .dct _ _=>False
 |_=>True
noncomputable def Ga (u:U)(n:Nat):Bool:=match u with
 | .tup us=>decide (1<=us.length)&&decide (us.length<=24)&&us.all λx=>rn x n
 |_=>false
theorem wH (h:Nr u)(hn:n<=1000):eE [u,.int n]=.ok (.bl (Ga u n)):=by
 cases u<;>first|exact h.elim|skip
 case tup us=>
  have e:lr (nq [none,some 1] (df 0) cb (iE 2 eD (ae (ai 0) (ae (ai 1) ak))) [some (U.tup us),some (U.int n)]) us=.ok (us.map λu=>.bl (rn u n)):=
   gR λu hu=>by simp only[Pzz,bg,Nat.reduceAdd,Nat.reduceSub,sN (h u hu).2 hn]
  by_cases c1:(1:Int)<=us.length
  ·by_cases c2:(us.length:Int)<=24
   ·simp only[Pzz,bg,Nat.reduceAdd,Nat.reduceSub,eE,gT,hG c1,hG c2,e,b9,Ga];rw[hG (show 1<=us.length by lia),hG (show us.length<=24 by lia)];rfl
   ·simp only[Pzz,bg,Nat.reduceAdd,Nat.reduceSub,eE,gT,hG c1,hJ c2,Ga];rw[hJ (show ¬us.length<=24 by lia),Zy];rfl
  ·simp only[Pzz,bg,Nat.reduceAdd,Nat.reduceSub,eE,gT,hJ c1,Ga];rw[hJ (show ¬1<=us.length by lia)];rfl
 all_goals kernel_rfl
noncomputable def wI (u:U):Bool:=match u with|.tup us=>us.all Aj|_=>false
noncomputable def cC:Nat->U->Bool
 |0,u=>match u with|.tup _=>false|.lst _=>false|.dct _ _=>false|.scr _=>false|_=>true
 |n+1,u=>match u with
  | .tup us=>(decide (us.length<60)||us.all wI)&&decide (us.length<=2000)&&us.all (cC n)
  | .lst us=>us.all (cC n)
  | .dct _ _=>false
  | .scr _=>false
  |_=>true
theorem yZ {B:Nat}:∀{ds:List D},(∀d∈ds,cT d<=B)->gH ds<=B
 | [],_=>by unfold gH;lia
 |d::ds,h=>by
  have h1:=h d Yb;have h2:=yZ λx hx=>h x (Ya _ hx);unfold gH;lia
theorem Pu:∀{n:Nat} {u:U},cC n u=true->∃d,fu u=some d/\cT d<=n:=by
 intro n
 induction n with
 |zero=>
  intro u h;cases u<;>first|(cases h;done)|exact⟨_,by unfold fu;rfl,by unfold cT;lia⟩
 |succ n ih=>
  have all:∀{us:List U},us.all (cC n)=true->∃ds,d9 us=some ds/\∀d∈ds,cT d<=n:=by
   intro us
   induction us with
   |nil=>intro _;exact⟨[],by unfold d9;rfl,λd h=>by cases h⟩
   |cons u us iu=>
    intro h;rw[ZU,Ys] at h;obtain⟨d,e,l⟩:=ih h.1;obtain⟨ds,e2,l2⟩:=iu h.2;refine⟨d::ds,by unfold d9;rw[e,e2];rfl,λx hx=>?_⟩;rcases Yk.mp hx with rfl|z
    ·exact l
    ·exact l2 x z
  intro u h;cases u<;>first|(cases h;done)|skip
  case tup us=>
   unfold cC at h;dsimp only at h;rw[Ys] at h;obtain⟨ds,e,l⟩:=all h.2;exact⟨.tup ds,by unfold fu;rw[e];rfl,by unfold cT;have:=yZ l;lia⟩
  case lst us=>
   unfold cC at h;dsimp only at h;obtain⟨ds,e,l⟩:=all h;exact⟨.lst ds,by unfold fu;rw[e];rfl,by unfold cT;have:=yZ l;lia⟩
  all_goals exact⟨_,by unfold fu;rfl,by unfold cT;lia⟩
theorem fj (h:cC n u=true)(hn:n<=20):vP u:=by
 obtain⟨d,e,l⟩:=Pu h;exact⟨d,e,by lia⟩
theorem Jw:∀{n:Nat} {u:U},cC n u=true->cC (n+1) u=true:=by
 intro n
 induction n with
 |zero=>intro u h;cases u<;>first|(cases h;done)|rfl
 |succ n ih=>
  intro u h;cases u<;>first|(cases h;done)|skip
  case tup us=>
   unfold cC at h ⊢;dsimp only at h ⊢;rw[Ys] at h ⊢;exact⟨h.1,Yo.mpr λx hx=>ih (Yo.mp h.2 x hx)⟩
  case lst us=>
   unfold cC at h ⊢;dsimp only at h ⊢;exact Yo.mpr λx hx=>ih (Yo.mp h x hx)
  all_goals rfl
theorem jZ (h:cC n u=true)(hk:n<=k):cC k u=true:=by
 induction hk with
 |refl=>exact h
 |step _ ih=>exact Jw ih
theorem Pw (h1:us.all wI=true)(h2:us.all Aj=true):us=[]:=by
 cases us with
 |nil=>rfl
 |cons v us=>
  rw[ZU,Ys] at h1 h2;have a:=h1.1;have b:=h2.1;cases v<;>first|(cases a;done)|cases b
def dJ (h:cC (n+1) (.tup us)=true):(us.all Aj=true->us.length<60)/\us.length<=2000/\∀x∈us,cC n x=true:=by
 unfold cC at h;dsimp only at h;simp only[Ys,abh,decide_eq_true_eq] at h;exact⟨λz=>h.1.1.elim id λq=>by rw[Pw q z];decide,h.1.2,λx hx=>Yo.mp h.2 x hx⟩
def Px (h:cC (n+1) (.tup us)=true):us.length<60\/us.all wI=true:=by
 unfold cC at h;dsimp only at h;simp only[Ys,abh,decide_eq_true_eq] at h;exact h.1.1
theorem g8 (h:cC n u=true)(hn:n<=20):Bn u:=by
 cases u<;>try trivial
 case tup us=>
  cases n with
  |zero=>cases h
  |succ n=>exact⟨(dJ h).1,λx hx=>fj ((dJ h).2.2 x hx) (by lia)⟩
 all_goals (cases n<;>cases h)
theorem Jx (h:cC n u=true)(hn:n<=20):Nr u:=by
 cases u<;>try trivial
 case tup us=>
  cases n with
  |zero=>cases h
  |succ n=>exact λx hx=>⟨fj ((dJ h).2.2 x hx) (by lia),g8 ((dJ h).2.2 x hx) (by lia)⟩
 all_goals (cases n<;>cases h)
noncomputable def fN (s:Str)(u:U):Bool:=match u with
 | .str x=>x==s
 |_=>false
theorem d_ {s:Str}(h:vP u):kR u (.str s)=.ok (fN s u):=by
 obtain⟨d,e,l⟩:=h;unfold kR;rw[e,show fu (.str s)=some (.str s) by unfold fu;rfl];dsimp only;rw[hV (by lia)];cases u
 case dct=>unfold fu at e;cases e
 case scr=>unfold fu at e;cases e
 case tup us=>
  unfold fu at e;obtain⟨ds,_,rfl⟩:=aba.mp e;unfold iP;rfl
 case lst us=>
  unfold fu at e;obtain⟨ds,_,rfl⟩:=aba.mp e;unfold iP;rfl
 all_goals (unfold fu at e;cases e;unfold iP;rfl)
theorem EF (h:∀u∈us,vP u):kR (.tup us) (.tup [])=.ok us.isEmpty:=by
 obtain⟨ds,e,l,n⟩:=uH h;unfold kR;rw[show fu (.tup us)=some (.tup ds) by unfold fu;rw[e];rfl,show fu (.tup [])=some (.tup []) by unfold fu d9;rfl];dsimp only;rw[hV (by unfold cT;lia)];cases us with
 |nil=>cases ds with
  |nil=>unfold iP k_;rfl
  |cons d ds=>cases n
 |cons u us=>cases ds with
  |nil=>cases n
  |cons d ds=>unfold iP k_;rfl
theorem rq (h:vP u):cu [u,.int lo,.int hi]=.ok (.bl (sW lo hi u)):=by
 have hs:=cZ h;cases u<;>first|exact hs.elim|exact (eV h).elim|skip
 case int i=>
  by_cases c:lo<=i
  ·simp only[Pzz,bg,Nat.reduceAdd,Nat.reduceSub,cu,iU,sW,hG c,Y1]
  ·simp only[Pzz,bg,Nat.reduceAdd,Nat.reduceSub,cu,iU,sW,hJ c,YU]
 all_goals kernel_rfl
theorem LS (h:vP u):iI [u]=.ok (.bl (sW 0 9 u)):=by
 have hs:=cZ h;cases u<;>first|exact hs.elim|exact (eV h).elim|skip
 case int i=>
  by_cases c:(0:Int)<=i
  ·simp only[Pzz,bg,Nat.reduceAdd,Nat.reduceSub,iI,nH,ja h,Aj,sW,hG c,Y1]
  ·simp only[Pzz,bg,Nat.reduceAdd,Nat.reduceSub,iI,nH,ja h,Aj,sW,hJ c,YU]
 all_goals kernel_rfl
noncomputable def wJ (m:Nat)(u:U):Bool:=match u with
 | .tup us=> !us.isEmpty&&us.all (sW 0 (m-1))&&(match eo us with
  |some ns=>(jN ns).length==ns.length
  |none=>false)
 |_=>false
theorem xJ (h:ns.length<60):lU [.tup (ns.map .int)]=.ok (.int (jN ns).length):=by
 unfold lU;dsimp only;rw[fE];dsimp only;rw[hV (by lia)]
def y3 (c:us.all (sW lo hi)=true):∃ns:List Int,us=ns.map .int:=yj (us:=us) (by rw[Yo] at c ⊢;exact λx hx=>Ll (c x hx))
theorem g9 (a b:Nat):((a:Int)==(b:Int))=(a==b):=by
 by_cases h:a=b
 ·subst h;simp
 ·rw[beq_eq_false_iff_ne.mpr h,beq_eq_false_iff_ne.mpr (by lia)]
theorem k7 (h:Bn u):dO [u,.int m]=.ok (.bl (wJ m u)):=by
 cases u<;>first|exact h.elim|skip
 case tup us=>
  have e:lr (nq [none,some 1] (df 0) cb (mC (iE 1 dz (ae (ai 0) ak)) (kO Gu Gs (zqc 0) (ai 0) (ai 1))) [some (U.tup us),some (U.int m)]) us=.ok (us.map λu=>.bl (sW 0 (m-1) u)):=
   m6 h.2 λu hu=>by
    have hs:=cZ hu;cases u<;>first|exact hs.elim|exact (eV hu).elim|skip
    case int i=>
     by_cases c:(0:Int)<=i
     ·have e2:decide (i<=(m:Int)-1)=decide (i<m):=decide_eq_decide.mpr (by lia);simp only[Pzz,bg,Nat.reduceAdd,Nat.reduceSub,ja hu,Aj,sW,hG c,Y1,e2]
     ·simp only[Pzz,bg,Nat.reduceAdd,Nat.reduceSub,ja hu,Aj,sW,hJ c,YU]
    all_goals kernel_rfl
  by_cases hz:us=[]
  ·subst hz;simp only[Pzz,bg,Nat.reduceAdd,Nat.reduceSub,dO,gU,aR,YN,wJ,abC,Ze,YU,id];rfl
  ·have l0:((us.length:Int)==0)=false:=beq_eq_false_iff_ne.mpr (by have:=ZF.mpr hz;lia);have ie:us.isEmpty=false:=by cases us with|nil=>exact absurd rfl hz|cons=>rfl
   by_cases c:us.all (sW 0 (m-1))=true
   ·obtain⟨ns,rfl⟩:=y3 c;have SS:ns.length<60:=by
     have:=h.1 (by rw[Yo];intro x hx;obtain⟨i,_,rfl⟩:=Yz.mp hx;rfl)
     rwa [X8] at this
    rw[X8] at l0;simp only[Pzz,bg,Nat.reduceAdd,Nat.reduceSub,dO,gU,aR,X8,l0,e,b9,c,xJ SS,wJ,ie,fE,YX,Y1,id,g9]
   ·have c:=ZT.mpr c;simp only[Pzz,bg,Nat.reduceAdd,Nat.reduceSub,dO,gU,aR,l0,e,b9,c,wJ,Zy,YU,id]
 all_goals kernel_rfl
theorem cz (h:Bn u):bu [u,.int m]=.ok (.bl (wJ m u)):=by
 cases u<;>first|exact h.elim|skip
 case tup us=>
  have e:lr (nq [none,some 1] (df 0) cb (iE 3 cu (ae (ai 0) (ae (zqc 0) (ae (aK sV (ai 1) (zqc 1)) ak)))) [some (U.tup us),some (U.int m)]) us=.ok (us.map λu=>.bl (sW 0 (m-1) u)):=
   m6 h.2 λu hu=>by simp only[Pzz,bg,Nat.reduceAdd,Nat.reduceSub,rq hu]
  have q:=EF h.2;by_cases hz:us=[]
  ·subst hz;simp only[Pzz,bg,Nat.reduceAdd,Nat.reduceSub,bu,dP,q,wJ,abC,Ze,YU,id]
  ·have ie:us.isEmpty=false:=by cases us with|nil=>exact absurd rfl hz|cons=>rfl
   rw[ie] at q;by_cases c:us.all (sW 0 (m-1))=true
   ·obtain⟨ns,rfl⟩:=y3 c;have SS:ns.length<60:=by
     have:=h.1 (by rw[Yo];intro x hx;obtain⟨i,_,rfl⟩:=Yz.mp hx;rfl)
     rwa [X8] at this
    simp only[Pzz,bg,Nat.reduceAdd,Nat.reduceSub,bu,dP,q,aR,e,b9,c,xJ SS,wJ,ie,fE,YX,Y1,id,g9,X8]
   ·have c:=ZT.mpr c;simp only[Pzz,bg,Nat.reduceAdd,Nat.reduceSub,bu,dP,q,e,b9,c,wJ,Zy,YU,id]
 all_goals kernel_rfl
noncomputable def Gb (u:U):Nat:=match u with
 | .tup us=>us.length
 |_=>0
theorem vF (h0:0<m):rn u m=(wJ m u&&(Gb u==m)):=by
 cases u<;>try rfl
 case tup us=>
  unfold rn wJ Gb;dsimp only;cases e:eo us with
  |none=>simp
  |some ns=>
   have hu:=fM e;dsimp only;by_cases hl:us.length=m
   ·by_cases c:us.all (sW 0 (m-1))=true
    ·have hb:∀x∈ns,0<=x/\x<m:=λx hx=>by
      have:=Yo.mp c (.int x) (by rw[hu];exact Yz.mpr ⟨x,hx,rfl⟩);unfold sW at this;simp at this;lia
     have Wb:ns.length=m:=by rw[hu,X8] at hl;exact hl
     have ne:us.isEmpty=false:=by cases us with|nil=>simp at hl;lia|cons=>rfl
     rw[c,ne,hl,beq_self_eq_true,YX,Y1,Y1,aaN,aap,decide_eq_true_iff,←Ju Wb hb,beq_iff_eq,Wb]
    ·rw[ZT.mpr c,Zy,YU,YU];refine hJ λz=>c ?_;rw[hu,Yo];intro x hx;obtain⟨i,hi,rfl⟩:=Yz.mp hx;have:=lV.mp (z▸(jL ns).mem_iff.mpr hi);unfold sW;simp;lia
   ·rw[beq_eq_false_iff_ne.mpr hl,Zy];refine hJ λz=>hl ?_;rw[hu,X8];exact Jv z
theorem Jy {α:Type}(xs:List α)(c:α->Bool):mN [.lst (xs.map λx=>.bl (c x))]=.ok (.bl (xs.all c)):=by
 have e:kS (xs.map λx=>.bl (c x))=some (xs.map c):=by
  induction xs with
  |nil=>rfl
  |cons x xs ih=>rw[Yp];unfold kS;rw[ih];rfl
 unfold mN;dsimp only;rw[e];dsimp only;rw[acW];rfl
noncomputable def RZ (us:List U)(ρ:Ev):R (List U×Ev):=match us with
 | [u,w]=>match FP u,FP w with
  |some us,some ws=>.ok (List.zipWith (λa b=>.tup [a,b]) us ws,ρ)
  |_,_=>.stk
 |_=>.stk
def R0 {ga:Ev->R (List U×Ev)}:Lg ga ρ=(ga ρ).bind λx=>RZ x.1 x.2:=nr rfl
def LU {ws:List U}:RZ [.tup us,.tup ws] ρ=.ok (List.zipWith (λa b=>.tup [a,b]) us ws,ρ):=nr rfl
def Ww {a b:U}:zG 2 (mL (df i) (mL (df j) zF)) (.tup [a,b]) ρ=.ok ((ρ.set i (some a)).set j (some b)):=nr rfl
def dX:lM (u::us) 0=some u:=by rw[show (0:Int)=((0:Nat):Int) from rfl,mR];rfl
def iC {v:U}:lM (u::v::us) 1=some v:=by rw[show (1:Int)=((1:Nat):Int) from rfl,mR];rfl
def tq {v w:U}:lM (u::v::w::us) 2=some w:=by rw[show (2:Int)=((2:Nat):Int) from rfl,mR];rfl
noncomputable def Bp (k:Nat)(u:U):Bool:=match u with
 | .tup [.tup cs,_]=>cs.length==k&&cs.all (sW 0 9)
 |_=>false
noncomputable def tY (u:U):List Int:=match u with
 | .tup (.tup cs::_)=>(eo cs).getD []
 |_=>[]
theorem two (h:us.length=2):∃a b,us=[a,b]:=by
 match us,h with
 | [a,b],_=>exact⟨a,b,rfl⟩
theorem Py (h:us.length≠2):Bp k (.tup us)=false:=by
 unfold Bp;split
 ·rename_i e;cases e;exact absurd rfl h
 ·rfl
theorem Gd (h:cC n u=true)(hn:n<=20):i5 [u,.int k]=.ok (.bl (Bp k u)):=by
 have ok:=fj h hn;have hs:=cZ ok;cases u<;>first|exact hs.elim|exact (eV ok).elim|skip
 case tup us=>
  by_cases hl:us.length=2
  ·obtain⟨a,b,rfl⟩:=two hl;cases n with
   |zero=>cases h
   |succ n=>
    have ha:=(dJ h).2.2 a Yb;have SU:=fj ha (by lia);have Ve:=cZ SU;have e2:(((2:Nat):Int)==2)=true:=by decide
    cases a<;>first|exact Ve.elim|exact (eV SU).elim|skip
    case tup cs=>
     have hc:=g8 ha (by lia);have e:lr (nq [none] (df 0) cb (iE 1 iI (ae (ai 0) ak)) [some (.tup [.tup cs,b]),some (.int k),some (.tup cs)]) cs=.ok (cs.map λu=>.bl (sW 0 9 u)):=
      m6 hc.2 λu hu=>by simp only[Pzz,bg,Nat.reduceAdd,Nat.reduceSub,LS hu]
     cases c:cs.length==k with
     |true=>
      simp only[Pzz,bg,Nat.reduceAdd,Nat.reduceSub,i5,mV,X_,YN,aR,bo,e2,Ze,dX,g9,c,e,b9,Bp,Y1,id]
     |false=>
      simp only[Pzz,bg,Nat.reduceAdd,Nat.reduceSub,i5,mV,X_,YN,aR,bo,e2,Ze,dX,g9,c,Bp,YU,id]
    all_goals kernel_rfl
  ·have e2:((us.length:Int)==2)=false:=beq_eq_false_iff_ne.mpr (by lia);simp only[Pzz,bg,Nat.reduceAdd,Nat.reduceSub,i5,mV,aR,bo,e2,YX,Py hl]
 all_goals kernel_rfl
theorem m7 (h:Bp k u=true):∃(ns:List Int) (x:U),u=.tup [.tup (ns.map .int),x]/\tY u=ns/\ns.length=k/\(ns.map U.int).all (sW 0 9)=true:=by
 unfold Bp at h;split at h
 ·rename_i cs x;rw[Ys] at h;obtain⟨ns,rfl⟩:=y3 h.2;refine⟨ns,x,rfl,?_,?_,h.2⟩
  ·unfold tY;dsimp only;rw[fE];rfl
  ·have:=h.1;rw[beq_iff_eq,X8] at this;exact this
 ·cases h
noncomputable def wK:List (List Int)->Bool
 |a::b::r=>HT.lexLt a b&&wK (b::r)
 |_=>true
noncomputable def EG (k:Nat)(u:U):Bool:=match u with
 | .tup us=> !us.isEmpty&&us.all (Bp k)&&wK (us.map tY)
 |_=>false
theorem Pz (us ws:List U):List.zipWith (λa b=>U.tup [a,b]) us ws=(us.zip ws).map λp=>U.tup [p.1,p.2]:=by
 induction us generalizing ws with
 |nil=>rfl
 |cons u us ih=>cases ws with
  |nil=>rfl
  |cons w ws=>rw[List.zipWith_cons_cons,ih,aat,Yp]
theorem EH:∀us:List U,((us.zip (us.drop 1)).all λp=>HT.lexLt (tY p.1) (tY p.2))=wK (us.map tY)
 | []=>rfl
 | [_]=>rfl
 |a::b::r=>by
  have ih:=EH (b::r);rw[Yp,Yp] at *;unfold wK;rw[←ih];rfl
def PB {a b:List Int}:Jc (.tup (a.map .int)) (.tup (b.map .int))=.ok (.bl (HT.lexLt a b)):=by
 unfold Jc Qm;dsimp only;rw[fE,fE]
def Jz {a b:List Int}:LF (.tup (a.map .int)) (.tup (b.map .int))=.ok (.bl (HT.lexLe a b)):=by
 unfold LF Qm;dsimp only;rw[fE,fE]
def Nt:ju us (some 1) none=us.drop 1:=i9 us 1
theorem Bq (h:cC n u=true)(hn:n<=20):fQ [u,.int k]=.ok (.bl (EG k u)):=by
 have ok:=fj h hn;have hs:=cZ ok;cases u<;>first|exact hs.elim|exact (eV ok).elim|skip
 case tup us=>
  cases n with
  |zero=>cases h
  |succ n=>
   have hm:=(dJ h).2.2;by_cases hz:us=[]
   ·subst hz;simp only[Pzz,bg,Nat.reduceAdd,Nat.reduceSub,fQ,jR,aR,bo,YN,EG,abC,Ze,YU,id];rfl
   ·have l0:((us.length:Int)==0)=false:=beq_eq_false_iff_ne.mpr (by have:=ZF.mpr hz;lia);have ie:us.isEmpty=false:=by cases us with|nil=>exact absurd rfl hz|cons=>rfl
    have e:lr (nq [none,some 1] (df 0) cb (iE 2 i5 (ae (ai 0) (ae (ai 1) ak))) [some (U.tup us),some (U.int k)]) us=.ok (us.map λu=>.bl (Bp k u)):=
     gR λu hu=>by simp only[Pzz,bg,Nat.reduceAdd,Nat.reduceSub,Gd (hm u hu) (by lia)]
    cases c:us.all (Bp k) with
    |false=>simp only[Pzz,bg,Nat.reduceAdd,Nat.reduceSub,fQ,jR,aR,bo,l0,e,b9,c,EG,Zy,YU,id]
    |true=>
     have e2:lr (nq [none,none] (zG 2 (mL (df 0) (mL (df 1) zF))) cb (aK Jc (zqb 0 0) (zqb 1 0)) [some (U.tup us),some (U.int k)]) ((us.zip (us.drop 1)).map λp=>U.tup [p.1,p.2])=.ok ((us.zip (us.drop 1)).map λp=>U.bl (HT.lexLt (tY p.1) (tY p.2))):=
      fJ λp hp=>by
       obtain⟨a,b⟩:=p;have m1:=acD hp;obtain⟨ns,x,rfl,k1,_,_⟩:=m7 (Yo.mp c a m1.1);obtain⟨ms,y,rfl,k2,_,_⟩:=m7 (Yo.mp c b (Zr m1.2));dsimp only;rw[k1,k2];simp only[Pzz,bg,Nat.reduceAdd,Nat.reduceSub,Ww,YY,Zb,dX,PB]
     simp only[Pzz,bg,Nat.reduceAdd,Nat.reduceSub,fQ,jR,aR,bo,l0,e,b9,c,R0,Nt,LU,Pz,e2,Jy,EH,EG,ie,YX,Y1,id]
 all_goals kernel_rfl
theorem JA:∀a b:List Int,HT.lexLe b a = !HT.lexLt a b
 | [],[]=>rfl
 | [],_::_=>rfl
 |_::_,[]=>rfl
 |x::xs,y::ys=>by
  rw[HT.lexLe_cons,HT.lexLt_cons];by_cases h:x=y
  ·subst h;rw[hV rfl,hV rfl];exact JA xs ys
  ·rw[hU h,hU (λz=>h z.symm)];by_cases c:y<x
   ·rw[hG c,hJ (by lia)];rfl
   ·rw[hJ c,hG (by lia)];rfl
noncomputable def j0:Option (List Int)->U
 |none=>.non
 |some ns=>.tup (ns.map .int)
noncomputable def fV:Option (List Int)->List (List Int)->Bool
 |_,[]=>true
 |none,b::r=>fV (some b) r
 |some a,b::r=>HT.lexLt a b&&fV (some b) r
theorem xK:∀(a:List Int) (r:List (List Int)),fV (some a) r=wK (a::r)
 |_,[]=>by unfold fV wK;rfl
 |a,b::r=>by unfold fV wK;rw[xK b r]
theorem Ge (l:List (List Int)):fV none l=wK l:=by
 cases l with
 |nil=>unfold fV wK;rfl
 |cons b r=>unfold fV;exact xK b r
def y4:w9 .non=true:=rfl
def ql:w9 (.tup us)=false:=rfl
def EI:w9 (.lst us)=false:=rfl
theorem R1 {t:U}{l:Option (List Int)}(h:cC n u=true)(hn:n<=20)(c:Bp k u=false):bW [some t,some (.int k),some (.int m),some (j0 l),some u]=.rt (.bl false) [some t,some (.int k),some (.int m),some (j0 l),some u]:=by
 have ok:=fj h hn;have hs:=cZ ok;unfold bW;cases u<;>first|exact hs.elim|exact (eV ok).elim|skip
 case tup us=>
  by_cases hl:us.length=2
  ·obtain⟨a,b,rfl⟩:=two hl;cases n with
   |zero=>cases h
   |succ n=>
    have ha:=(dJ h).2.2 a Yb;have SU:=fj ha (by lia);have Ve:=cZ SU;have e2:(((2:Nat):Int)==2)=true:=by decide
    cases a<;>first|exact Ve.elim|exact (eV SU).elim|skip
    case tup cs=>
     have hc:=g8 ha (by lia);have e:lr (nq [none] (df 0) cb (iE 3 cu (ae (ai 0) (ae (zqc 0) (ae (zqc 9) ak)))) [some t,some (.int k),some (.int m),some (j0 l),some (.tup [.tup cs,b])]) cs=.ok (cs.map λu=>.bl (sW 0 9 u)):=
      m6 hc.2 λu hu=>by simp only[Pzz,bg,Nat.reduceAdd,Nat.reduceSub,rq hu]
     cases c1:cs.length==k with
     |true=>
      have c2:cs.all (sW 0 9)=false:=by unfold Bp at c;dsimp only at c;rw[c1,Y1] at c;exact c
      simp only[Pzz,bg,Nat.reduceAdd,Nat.reduceSub,X_,YN,aR,bo,e2,Ze,dX,g9,c1,e,b9,c2]
     |false=>
      simp only[Pzz,bg,Nat.reduceAdd,Nat.reduceSub,X_,YN,aR,bo,e2,Ze,dX,g9,c1,YX]
    all_goals kernel_rfl
  ·have e2:((us.length:Int)==2)=false:=beq_eq_false_iff_ne.mpr (by lia);simp only[Pzz,bg,Nat.reduceAdd,Nat.reduceSub,aR,bo,e2,YX]
 all_goals kernel_rfl
theorem JB {t:U}{l:Option (List Int)}(h:cC n u=true)(hn:n<=20)(c:Bp k u=true):bW [some t,some (.int k),some (.int m),some (j0 l),some u]=if fV l [tY u]=true then .nx [some t,some (.int k),some (.int m),some (j0 (some (tY u))),some u] else .rt (.bl false) [some t,some (.int k),some (.int m),some (j0 l),some u]:=by
 obtain⟨ns,x,rfl,k1,k2,k3⟩:=m7 c;subst k2;rw[k1];have e2:(((2:Nat):Int)==2)=true:=by decide
 have e:lr (nq [none] (df 0) cb (iE 3 cu (ae (ai 0) (ae (zqc 0) (ae (zqc 9) ak)))) [some t,some (.int ns.length),some (.int m),some (j0 l),some (.tup [.tup (ns.map .int),x])]) (ns.map .int)=.ok ((ns.map U.int).map λu=>.bl (sW 0 9 u)):=
  gR λu hu=>by
   obtain⟨i,_,rfl⟩:=Yz.mp hu;simp only[Pzz,bg,Nat.reduceAdd,Nat.reduceSub,rq (Lk i)]
 have k3:mN [.lst ((ns.map U.int).map λu=>.bl (sW 0 9 u))]=.ok (.bl true):=by rw[b9,k3]
 unfold bW;cases l with
 |none=>
  have z:fV none [ns]=true:=by unfold fV fV;rfl
  simp only[z,if_true];simp only[j0] at e ⊢;simp only[Pzz,bg,Nat.reduceAdd,Nat.reduceSub,X_,YN,X8,aR,bo,e2,Ze,dX,beq_self_eq_true,e,k3,y4]
 |some a=>
  have z:fV (some a) [ns]=HT.lexLt a ns:=by unfold fV fV;exact aaN _
  rw[z];cases c2:HT.lexLt a ns with
  |true=>
   have c3:HT.lexLe ns a=false:=by rw[JA,c2];rfl
   simp only[if_true];simp only[j0] at e ⊢;simp only[Pzz,bg,Nat.reduceAdd,Nat.reduceSub,X_,YN,X8,aR,bo,e2,Ze,dX,beq_self_eq_true,e,k3,ql,YX,Jz,c3]
  |false=>
   have c3:HT.lexLe ns a=true:=by rw[JA,c2];rfl
   simp only[Yn,if_false];simp only[j0] at e ⊢;simp only[Pzz,bg,Nat.reduceAdd,Nat.reduceSub,X_,YN,X8,aR,bo,e2,Ze,dX,beq_self_eq_true,e,k3,ql,YX,Jz,c3]
theorem xM {n k m:Nat}{t:U}(hn:n<=20):∀(ws:List U),(∀x∈ws,cC n x=true)->∀(l:Option (List Int)) (o:Option U),∃ρ':Ev,
  kA (df 4) bW ws [some t,some (.int k),some (.int m),some (j0 l),o]=if (ws.all (Bp k)&&fV l (ws.map tY))=true then .nx ρ' else .rt (.bl false) ρ'
 | [],_,l,o=>⟨[some t,some (.int k),some (.int m),some (j0 l),o],by simp only[yg,List.all_nil,aaz,fV,Bool.and_self,if_true]⟩
 |u::ws,h,l,o=>by
  have hu:=h u Yb;rw[Ah];cases c:Bp k u with
  |false=>
   refine⟨[some t,some (.int k),some (.int m),some (j0 l),some u],?_⟩;rw[ZU,c,YU,YU,hU (by decide)];simp only[Pzz,bg,Nat.reduceAdd,Nat.reduceSub,YY,Zb,R1 hu hn c]
  |true=>
   obtain⟨ρ',e⟩:=xM hn (k:=k) (m:=m) (t:=t) ws (λx hx=>h x (Ya _ hx)) (some (tY u)) (some u);rw[ZU,c,Y1,Yp];cases d:fV l [tY u] with
   |true=>
    have q:fV l (tY u::ws.map tY)=fV (some (tY u)) (ws.map tY):=by
     cases l with
     |none=>rfl
     |some a=>
      have z:fV (some a) [tY u]=HT.lexLt a (tY u):=by unfold fV fV;exact aaN _
      rw[z] at d;rw[fV,d,Y1]
    refine⟨ρ',?_⟩;rw[q,←e];simp only[Pzz,bg,Nat.reduceAdd,Nat.reduceSub,YY,Zb,JB hu hn c,d,if_true]
   |false=>
    have q:fV l (tY u::ws.map tY)=false:=by
     cases l with
     |none=>unfold fV fV at d;cases d
     |some a=>
      have z:fV (some a) [tY u]=HT.lexLt a (tY u):=by unfold fV fV;exact aaN _
      rw[z] at d;rw[fV,d,YU]
    refine⟨[some t,some (.int k),some (.int m),some (j0 l),some u],?_⟩;rw[q,Zy,hU (by decide)];simp only[Pzz,bg,Nat.reduceAdd,Nat.reduceSub,YY,Zb,JB hu hn c,d,Yn,if_false]
theorem Br (h:cC n u=true)(hn:n<=20):eL [u,.int k,.int m]=.ok (.bl (EG k u)):=by
 have ok:=fj h hn;have hs:=cZ ok;unfold eL jj;cases u<;>first|exact hs.elim|exact (eV ok).elim|skip
 case tup us=>
  cases n with
  |zero=>cases h
  |succ n=>
   have hm:=(dJ h).2.2;have q:=EF λx hx=>fj (hm x hx) (by lia);by_cases hz:us=[]
   ·subst hz;simp only[Pzz,bg,Nat.reduceAdd,Nat.reduceSub,q,EG,abC,Ze,YU,id]
   ·have ie:us.isEmpty=false:=by cases us with|nil=>exact absurd rfl hz|cons=>rfl
    rw[ie] at q;obtain⟨ρ',e⟩:=xM (n:=n) (k:=k) (m:=m) (t:=.tup us) (by lia) us hm none none;rw[Ge] at e;have ln:j0 none=.non:=rfl;rw[ln] at e;cases c:us.all (Bp k)&&wK (us.map tY) with
    |true=>
     rw[c,hV rfl] at e;simp only[Pzz,bg,Nat.reduceAdd,Nat.reduceSub,q,e,EG,ie,YX,Y1,c,id]
    |false=>
     rw[c,hU (by decide)] at e;simp only[Pzz,bg,Nat.reduceAdd,Nat.reduceSub,q,e,EG,ie,YX,Y1,c,id]
 all_goals kernel_rfl
noncomputable def gf (m:Nat)(u:U):Bool:=match u with
 | .tup (w::r)=>if fN "again" w then r.isEmpty else if fN "end" w then (match r with
   | [p]=>wJ m p
   |_=>false) else (match r with
   | [p,q]=>if fN "lay" w then rn p m else if fN "mix" w then Ga p m else fN "look" w&&(wJ m p&&EG (Gb p) q)
   |_=>false)
 |_=>false
theorem y7 (h:wJ m p=true):∃us,p=.tup us/\Gb p=us.length:=by
 cases p<;>first|(cases h;done)|exact⟨_,rfl,rfl⟩
def PD {w:U}(hw:vP w)(c1:fN "again" w=false)(c2:fN "end" w=false):b_ [.tup [w,p,q],.int m]=Co .S (hR [some (.tup [w,p,q]),some (.int m)]):=by
 have e0:(((3:Nat):Int)==0)=false:=by decide
 have e3:(((3:Nat):Int)==3)=true:=by decide
 have l3:([w,p,q]:List U).length=3:=rfl;simp only[Pzz,bg,Nat.reduceAdd,Nat.reduceSub,b_,dA,l3,aR,bo,e0,dX,d_ hw,c1,c2,e3,id,Ze]
theorem sP (h:cC n u=true)(hn:n<=20)(hm:m<=1000):b_ [u,.int m]=.ok (.bl (gf m u)):=by
 have ok:=fj h hn;have hs:=cZ ok;cases u<;>first|exact hs.elim|exact (eV ok).elim|skip
 case tup us=>
  cases n with
  |zero=>cases h
  |succ n=>
   have hg:=(dJ h).2.2;cases us with
   |nil=>simp only[Pzz,bg,Nat.reduceAdd,Nat.reduceSub,b_,dA,aR,bo,YN,gf,id];rfl
   |cons w r=>
    have l0:(((r.length+1:Nat):Int)==0)=false:=beq_eq_false_iff_ne.mpr (by lia);have hw:=fj (hg w Yb) (by lia);cases c1:fN "again" w with
    |true=>
     have e1:(((r.length+1:Nat):Int)==1)=r.isEmpty:=by
      cases r with
      |nil=>rfl
      |cons x r=>exact beq_eq_false_iff_ne.mpr (by rw[X_];lia)
     simp only[Pzz,bg,Nat.reduceAdd,Nat.reduceSub,b_,dA,X_,aR,bo,l0,dX,d_ hw,c1,e1,gf,id,if_true]
    |false=>
     cases c2:fN "end" w with
     |true=>
      match r with
      | []=>
       have e0:(((1:Nat):Int)==0)=false:=by decide
       have e2:(((1:Nat):Int)==2)=false:=by decide
       have l3:([w]:List U).length=1:=rfl;simp only[Pzz,bg,Nat.reduceAdd,Nat.reduceSub,b_,dA,l3,aR,bo,e0,dX,d_ hw,c1,c2,e2,gf,id,if_true,Yn,if_false]
      | [p]=>
       have e0:(((2:Nat):Int)==0)=false:=by decide
       have e2:(((2:Nat):Int)==2)=true:=by decide
       have l3:([w,p]:List U).length=2:=rfl;have hp:=g8 (hg p (Ya _ Yb)) (by lia);simp only[Pzz,bg,Nat.reduceAdd,Nat.reduceSub,b_,dA,l3,aR,bo,e0,e2,dX,iC,d_ hw,c1,c2,k7 hp,gf,id,if_true,Yn,if_false]
      |p::q::r=>
       have l3:(w::p::q::r).length=r.length+3:=rfl;have e0:(((r.length+3:Nat):Int)==0)=false:=beq_eq_false_iff_ne.mpr (by lia);have e2:(((r.length+3:Nat):Int)==2)=false:=beq_eq_false_iff_ne.mpr (by lia);simp only[Pzz,bg,Nat.reduceAdd,Nat.reduceSub,b_,dA,l3,aR,bo,e0,dX,d_ hw,c1,c2,e2,gf,id,if_true,Yn,if_false]
     |false=>
      match r with
      | []=>
       have e0:(((1:Nat):Int)==0)=false:=by decide
       have e2:(((1:Nat):Int)==3)=false:=by decide
       have l3:([w]:List U).length=1:=rfl;simp only[Pzz,bg,Nat.reduceAdd,Nat.reduceSub,b_,dA,l3,aR,bo,e0,dX,d_ hw,c1,c2,e2,gf,id,YX,if_true,Yn,if_false]
      | [p]=>
       have e0:(((2:Nat):Int)==0)=false:=by decide
       have e2:(((2:Nat):Int)==3)=false:=by decide
       have l3:([w,p]:List U).length=2:=rfl;simp only[Pzz,bg,Nat.reduceAdd,Nat.reduceSub,b_,dA,l3,aR,bo,e0,dX,d_ hw,c1,c2,e2,gf,id,YX,if_true,Yn,if_false]
      |p::q::x::r=>
       have l3:(w::p::q::x::r).length=r.length+4:=rfl;have e0:(((r.length+4:Nat):Int)==0)=false:=beq_eq_false_iff_ne.mpr (by lia);have e2:(((r.length+4:Nat):Int)==3)=false:=beq_eq_false_iff_ne.mpr (by lia);simp only[Pzz,bg,Nat.reduceAdd,Nat.reduceSub,b_,dA,l3,aR,bo,e0,dX,d_ hw,c1,c2,e2,gf,id,YX,if_true,Yn,if_false]
      | [p,q]=>
       have hp:=hg p (Ya _ Yb);have hq:=hg q (Ya _ (Ya _ Yb));have tp:=g8 hp (by lia);rw[PD hw c1 c2,hR];cases c3:fN "lay" w with
       |true=>simp only[Pzz,bg,Nat.reduceAdd,Nat.reduceSub,dX,iC,d_ hw,c1,c2,c3,sN tp hm,gf,id,if_true,Yn,if_false]
       |false=>
        cases c4:fN "mix" w with
        |true=>simp only[Pzz,bg,Nat.reduceAdd,Nat.reduceSub,dX,iC,d_ hw,c1,c2,c3,c4,wH (Jx hp (by lia)) hm,gf,id,if_true,Yn,if_false]
        |false=>
         cases c5:fN "look" w with
         |false=>simp only[Pzz,bg,Nat.reduceAdd,Nat.reduceSub,dX,iC,d_ hw,c1,c2,c3,c4,c5,gf,id,Yn,if_false,YU]
         |true=>
          cases c6:wJ m p with
          |false=>simp only[Pzz,bg,Nat.reduceAdd,Nat.reduceSub,dX,iC,d_ hw,c1,c2,c3,c4,c5,k7 tp,c6,gf,id,Yn,if_false,YU,Zy]
          |true=>
           obtain⟨us,rfl,lu⟩:=y7 c6;simp only[Pzz,bg,Nat.reduceAdd,Nat.reduceSub,dX,iC,tq,d_ hw,c1,c2,c3,c4,c5,k7 tp,c6,Bq hq (show n<=20 by lia),gf,lu,id,Yn,if_false,Y1]
 all_goals kernel_rfl
noncomputable def wL (u:U):U:=match u with
 | .tup [_,x]=>x
 |_=>.non
noncomputable def bB (u:U):List U:=match u with
 | .tup [w,_,q]=>if fN "look" w then (match q with
   | .tup ws=>ws.map wL
   |_=>[]) else [q]
 |_=>[]
theorem md {s:Str}(h:fN s u=true):u=.str s:=by
 cases u<;>first|(cases h;done)|skip
 unfold fN at h;rw[beq_iff_eq.mp h]
def m9:fN "end" (.str "again")=false/\fN "lay" (.str "again")=false/\fN "mix" (.str "again")=false/\fN "look" (.str "again")=false/\fN "again" (.str "again")=true/\fN "again" (.str "end")=false/\fN "end" (.str "end")=true/\fN "lay" (.str "end")=false/\fN "mix" (.str "end")=false/\fN "look" (.str "end")=false/\fN "again" (.str "lay")=false/\fN "end" (.str "lay")=false/\fN "lay" (.str "lay")=true/\fN "mix" (.str "lay")=false/\fN "look" (.str "lay")=false/\fN "again" (.str "mix")=false/\fN "end" (.str "mix")=false/\fN "lay" (.str "mix")=false/\fN "mix" (.str "mix")=true/\fN "look" (.str "mix")=false/\fN "again" (.str "look")=false/\fN "end" (.str "look")=false/\fN "lay" (.str "look")=false/\fN "mix" (.str "look")=false/\fN "look" (.str "look")=true:=by decide
theorem Bs (h:gf m u=true):u=.tup [.str "again"]\/(∃p,u=.tup [.str "end",p]/\wJ m p=true)\/(∃p q,u=.tup [.str "lay",p,q]/\rn p m=true)\/(∃p q,u=.tup [.str "mix",p,q]/\Ga p m=true)\/∃p ws,u=.tup [.str "look",p,.tup ws]/\wJ m p=true/\EG (Gb p) (.tup ws)=true:=by
 unfold gf at h;split at h
 ·rename_i w r;by_cases c1:fN "again" w=true
  ·rw[hV c1] at h;rw[md c1];cases r with
   |nil=>exact .inl rfl
   |cons=>cases h
  ·rw[hU c1] at h;by_cases c2:fN "end" w=true
   ·rw[hV c2] at h;rw[md c2];split at h
    ·exact .inr (.inl ⟨_,rfl,h⟩)
    ·cases h
   ·rw[hU c2] at h;split at h
    ·rename_i p q;by_cases c3:fN "lay" w=true
     ·rw[hV c3] at h;rw[md c3];exact .inr (.inr (.inl ⟨p,q,rfl,h⟩))
     ·rw[hU c3] at h;by_cases c4:fN "mix" w=true
      ·rw[hV c4] at h;rw[md c4];exact .inr (.inr (.inr (.inl ⟨p,q,rfl,h⟩)))
      ·rw[hU c4,Ys,Ys] at h;rw[md h.1];have h3:=h.2.2;cases q<;>first|(cases h3;done)|skip
       exact .inr (.inr (.inr (.inr ⟨p,_,rfl,h.2.1,h3⟩)))
    ·cases h
 ·cases h
def CY {ws:List U}(h:EG k (.tup ws)=true):ws≠[]/\∀w∈ws,Bp k w=true:=by
 unfold EG at h;dsimp only at h;rw[Ys,Ys] at h;exact⟨λz=>by rw[z] at h;exact absurd h.1.1 (by decide),Yo.mp h.1.2⟩
theorem EJ (g:cC n u=true)(h:gf m u=true):bB u=[]\/(∃q k,n=k+1/\bB u=[q]/\cC k q=true)\/∃k,n=k+3/\bB u≠[]/\(bB u).length<60/\∀q∈bB u,cC k q=true:=by
 rcases Bs h with rfl|⟨p,rfl,_⟩|⟨p,q,rfl,_⟩|⟨p,q,rfl,_⟩|⟨p,ws,rfl,_,hw⟩
 ·exact .inl rfl
 ·exact .inl rfl
 ·cases n with
  |zero=>cases g
  |succ n=>
   refine .inr (.inl ⟨q,n,rfl,?_,(dJ g).2.2 q (Ya _ (Ya _ Yb))⟩);simp only[bB,m9,Yn,if_false]
 ·cases n with
  |zero=>cases g
  |succ n=>
   refine .inr (.inl ⟨q,n,rfl,?_,(dJ g).2.2 q (Ya _ (Ya _ Yb))⟩);simp only[bB,m9,Yn,if_false]
 ·obtain⟨ne,hy⟩:=CY hw;have ek:bB (.tup [.str "look",p,.tup ws])=ws.map wL:=by simp only[bB,m9,if_true]
  rw[ek];cases n with
  |zero=>cases g
  |succ n=>
   have g1:=(dJ g).2.2 (.tup ws) (Ya _ (Ya _ Yb));cases n with
   |zero=>cases g1
   |succ n=>
    have g2:=(dJ g1).2.2;have few:ws.length<60:=(Px g1).elim id λz=>by
     obtain⟨w,r,rfl⟩:=ZX ne;obtain⟨ns,x,rfl,_⟩:=m7 (hy w Yb);rw[ZU,Ys] at z;exact absurd z.1 (by unfold wI Aj;simp)
    cases n with
    |zero=>
     obtain⟨w,r,rfl⟩:=ZX ne;obtain⟨ns,x,rfl,_⟩:=m7 (hy w Yb);exact absurd (g2 _ Yb) (by unfold cC;simp)
    |succ n=>
     refine .inr (.inr ⟨n,rfl,λz=>ne (aaK.mp z),by rw[X8];exact few,λq hq=>?_⟩);obtain⟨w,BD,rfl⟩:=Yz.mp hq;obtain⟨ns,x,rfl,_⟩:=m7 (hy w BD);exact (dJ (g2 _ BD)).2.2 x (Ya _ Yb)
theorem qm (g:cC (n+1) u=true)(h:gf m u=true):(∀q∈bB u,cC n q=true)/\(bB u).length<60:=by
 rcases EJ g h with z|⟨q,k,e,z,gq⟩|⟨k,e,_,l,gq⟩
 ·rw[z];exact⟨λq hq=>(by cases hq),by decide⟩
 ·rw[z];refine⟨λq' hq=>?_,by rw[YA];decide⟩;rw[Yw.mp hq];exact jZ gq (by lia)
 ·exact⟨λq hq=>jZ (gq q hq) (by lia),l⟩
theorem CZ (g:cC 0 u=true):gf m u=false:=by
 cases u<;>first|(cases g;done)|rfl
noncomputable def mx:List Nat->Nat
 | []=>0
 |x::xs=>max x (mx xs)
noncomputable def aF (m:Nat):Nat->U->Bool
 |0,_=>false
 |n+1,u=>gf m u&&(bB u).all (aF m n)
noncomputable def sz:Nat->U->Nat
 |0,_=>0
 |n+1,u=>1+((bB u).map (sz n)).sum
noncomputable def hg:Nat->U->Nat
 |0,_=>0
 |n+1,u=>1+mx ((bB u).map (hg n))
theorem EK {B:Nat}:∀{zs:List Nat},(∀z∈zs,z<=B)->zs.sum<=zs.length*B
 | [],_=>by simp
 |z::zs,h=>by
  have h1:=EK λy hy=>h y (Ya _ hy);have h2:=h z Yb;rw[aa5,X_,Nat.add_mul];lia
theorem EL {m:Nat}:∀{N n:Nat} {u:U},cC n u=true->aF m N u=true->sz N u<=4 ^ n
 |0,_,_,_,h=>by cases h
 |N+1,n,u,g,h=>by
  unfold aF at h;rw[Ys] at h;have ha:=Yo.mp h.2;unfold sz;rcases EJ g h.1 with z|⟨q,k,rfl,z,gq⟩|⟨k,rfl,_,l,gq⟩
  ·rw[z];have:=Nat.pow_pos (n:=n) (show 0<4 by decide);simp;lia
  ·rw[z] at ha ⊢;have:=EL gq (ha q Yb);have p:=Nat.pow_pos (n:=k) (show 0<4 by decide);rw[aaB];simp;lia
  ·have b:=EK (B:=4 ^ k) (zs:=(bB u).map (sz N)) λz hz=>by
    obtain⟨q,hq,rfl⟩:=Yz.mp hz;exact EL (gq q hq) (ha q hq)
   rw[X8] at b;have p:=Nat.pow_pos (n:=k) (show 0<4 by decide);have b2:(bB u).length*4 ^ k<=60*4 ^ k:=Nat.mul_le_mul_right _ (by lia);rw[show 4 ^ (k+3)=64*4 ^ k by rw[Nat.pow_add];lia];lia
noncomputable def cU:Option (Nat×Nat)->U
 |none=>.non
 |some c=>.tup [.int c.1,.int c.2]
noncomputable def cD:Option (Nat×Nat)->D
 |none=>.non
 |some c=>.tup [.int c.1,.int c.2]
noncomputable def cN (m N:Nat)(u:U):Option (Nat×Nat):=if aF m N u then some (sz N u,hg N u) else none
theorem R3 (z:Option (Nat×Nat)):fu (cU z)=some (cD z):=by cases z<;>simp[cU,cD,fu,d9]
theorem R4 (z:Option (Nat×Nat)):cT (cD z)<=30:=by cases z<;>simp[cD,cT,gH]
def Uz {f:Bool->Bool}(hx:fu u=some dx)(hs:d9 us=some ds)(hd:∀d∈ds,cT d<=30):xF f u (.lst us)=.ok (.bl (f (ds.any λd=>iP d dx))):=by
 unfold xF;rw[hx,show (yC (.lst us)).bind d9=some ds from hs];dsimp only;rw[hV (Yo.mpr λd h=>hG (hd d h))]
theorem EM (zs:List (Option (Nat×Nat))):xF id .non (.lst (zs.map cU))=.ok (.bl (zs.any Option.isNone)):=by
 rw[Uz (dx:=.non) (by simp[fu]) (vC R3 zs) λd hd=>by
  obtain⟨z,_,rfl⟩:=Yz.mp hd;exact R4 z]
 congr 2;rw[List.any_map];have:((λd=>iP d D.non)∘cD)=Option.isNone:=funext λz=>by cases z<;>simp[cD,iP]
 rw[this];rfl
theorem vG:∀(a:Nat) (xs:List Nat),vi (a:Int) (xs.map λx=>((x:Nat):Int))=((max a (mx xs):Nat):Int)
 |a,[]=>by unfold mx vi;simp
 |a,x::xs=>by
  rw[Yp];unfold vi;by_cases h:(a:Int)<x
  ·rw[hV h,vG x xs];show _=((max a (max x (mx xs)):Nat):Int);congr 1;lia
  ·rw[hU h,vG a xs];show _=((max a (max x (mx xs)):Nat):Int);congr 1;lia
theorem LV {xs:List Nat}(h:xs≠[]):AK [.lst (xs.map λx:Nat=>U.int x)]=.ok (.int (mx xs:Nat)):=by
 obtain⟨a,xs,rfl⟩:=ZX h;unfold AK;dsimp only;rw[show ((a::xs).map λx:Nat=>U.int x)=((a::xs).map λx=>((x:Nat):Int)).map U.int by rw[Y9];rfl,jJ];rw[Yp];dsimp only;rw[vG];rfl
theorem Bt:∀xs:List Nat,(xs.map λx=>((x:Nat):Int)).sum=((xs.sum:Nat):Int)
 | []=>rfl
 |x::xs=>by rw[Yp,aa5,aa5,Bt xs];lia
theorem EN {xs:List Nat}(h:xs.length<=1000000)(hb:∀x∈xs,x<=1000000000):p_ [.lst (xs.map λx:Nat=>U.int x)]=.ok (.int (xs.sum:Nat)):=by
 unfold p_;dsimp only;rw[show (xs.map λx:Nat=>U.int x)=(xs.map λx=>((x:Nat):Int)).map U.int by rw[Y9];rfl,jJ];dsimp only;rw[hV,Bt];unfold q_;rw[Ys];refine⟨hG (by rw[X8];exact h),Yo.mpr λz hz=>?_⟩;obtain⟨x,hx,rfl⟩:=Yz.mp hz;have:=hb x hx;exact hG (by lia)
def dv {rc:List U->R U}:Co .S (bT rc [some u,some (.int m),some .non,none])=.ok .non:=by
 unfold bT;simp only[Pzz,bg,Nat.reduceAdd,Nat.reduceSub,y4,id]
theorem EO {rc:List U->R U}{ps:List U}(ne:ps≠[])(hl:ps.length<60)(h:∀q∈ps,rc [q,.int m]=.ok (cU (cN m N q)))(hb:∀q∈ps,aF m N q=true->sz N q<=1000000000) :
  Co .S (bT rc [some u,some (.int m),some (.lst ps),none])=.ok (cU (if ps.all (aF m N) then some (1+(ps.map (sz N)).sum,1+mx (ps.map (hg N))) else none)):=by
 have e1:lr (nq [none,some 1] (df 0) cb (iE 2 rc (ae (ai 0) (ae (ai 1) ak))) [some u,some (.int m),some (.lst ps),none]) ps=.ok ((ps.map (cN m N)).map cU):=by
  rw[Y9];exact gR λq hq=>by simp only[Pzz,bg,Nat.reduceAdd,Nat.reduceSub,h q hq];rfl
 have a:(ps.map (cN m N)).any Option.isNone = !ps.all (aF m N):=by
  have f:(Option.isNone∘cN m N)=λq=> !aF m N q:=funext λq=>by
   show (cN m N q).isNone=_;unfold cN;cases aF m N q<;>rfl
  rw[List.any_map,f,List.not_all_eq_any_not]
 unfold bT;cases c:ps.all (aF m N) with
 |false=>
  rw[c] at a;simp only[Pzz,bg,Nat.reduceAdd,Nat.reduceSub,EI,e1,EM,a,YX,id];rfl
 |true=>
  rw[c] at a;have ha:=Yo.mp c;have e2:(ps.map (cN m N)).map cU=ps.map λq=>U.tup [.int (sz N q),.int (hg N q)]:=by
   rw[Y9];refine aam λq hq=>?_;show cU (cN m N q)=_;unfold cN;rw[ha q hq];rfl
  have e3:∀ρ:Ev,lr (nq [none] (df 0) cb (zqb 0 0) ρ) (ps.map λq=>U.tup [.int (sz N q),.int (hg N q)])=.ok ((ps.map (sz N)).map λx:Nat=>U.int x):=λρ=>by
   rw[Y9];exact fJ λq hq=>by simp only[Pzz,bg,Nat.reduceAdd,Nat.reduceSub,dX];rfl
  have e4:∀ρ:Ev,lr (nq [none] (df 0) cb (zqb 0 1) ρ) (ps.map λq=>U.tup [.int (sz N q),.int (hg N q)])=.ok ((ps.map (hg N)).map λx:Nat=>U.int x):=λρ=>by
   rw[Y9];exact fJ λq hq=>by simp only[Pzz,bg,Nat.reduceAdd,Nat.reduceSub,iC];rfl
  have e5:=EN (xs:=ps.map (sz N)) (by rw[X8];lia) λx hx=>by
   obtain⟨q,hq,rfl⟩:=Yz.mp hx;exact hb q hq (ha q hq)
  have e6:=LV (xs:=ps.map (hg N)) λz=>ne (aaK.mp z);have e7:xF id .non (.lst (ps.map λq=>U.tup [.int (sz N q),.int (hg N q)]))=.ok (.bl false):=by rw[←e2,EM,a];rfl
  rw[e2] at e1;simp only[Pzz,bg,Nat.reduceAdd,Nat.reduceSub,EI,e1,e7,id,e3,e4,e5,e6];rfl
def k8 (n:Nat):fB .S 4 (bw n)=aS n:=rfl
theorem PF {w:U}(h:vP w):kR (.tup [w]) (.tup [.str "again"])=.ok (fN "again" w):=by
 have e:=d_ (s:="again") h;obtain⟨d,e1,l⟩:=h;unfold kR at e ⊢;rw[e1,show fu (.str "again")=some (.str "again") by unfold fu;rfl] at e;dsimp only at e;rw[hV (by lia)] at e;rw[show fu (.tup [w])=some (.tup [d]) by unfold fu d9 d9;rw[e1];rfl,show fu (.tup [.str "again"])=some (.tup [.str "again"]) by unfold fu d9 d9 fu;rfl];dsimp only;rw[hV (by unfold cT gH gH;lia)];injection e with e
 show R.ok (iP d (.str "again")&&true)=_;rw[aaN,e]
theorem rz {w:U}{r:List U}(h:∀u∈w::p::r,vP u):kR (.tup (w::p::r)) (.tup [.str "again"])=.ok false:=by
 obtain⟨ds,e,l,n⟩:=uH h;unfold kR;rw[show fu (.tup (w::p::r))=some (.tup ds) by unfold fu;rw[e];rfl,show fu (.tup [.str "again"])=some (.tup [.str "again"]) by unfold fu d9 d9 fu;rfl];dsimp only;rw[hV (by unfold cT;lia)]
 match ds,n with
 |d::d'::ds,_=>
  show R.ok (iP d _&&false)=_;rw[Zy]
def jr (h:gf m u=false):cU (cN m (N+1) u)=.non:=by
 unfold cN aF;rw[h];rfl
def y8 (h:gf m u=true):cN m (N+1) u=if (bB u).all (aF m N) then some (1+((bB u).map (sz N)).sum,1+mx ((bB u).map (hg N))) else none:=by
 unfold cN aF sz hg;rw[h,Y1]
theorem JC {w:U}{r:List U}(h:∀s,fN s w=false):gf m (.tup (w::r))=false:=by
 unfold gf;dsimp only;rw[h,h,h,h,h];simp only[Yn,if_false,YU];split<;>rfl
def fW (m N:Nat)(u:U):Prop:=aS N [u,.int m]=.ok (cU (cN m N u))
theorem JD {w:U}{r:List U}(hw:vP w)(h:∀s,w≠.str s):fW m (N+1) (.tup (w::r)):=by
 have hs:=cZ hw;have l0:(((r.length+1:Nat):Int)==0)=false:=beq_eq_false_iff_ne.mpr (by lia);unfold fW;rw[jr (JC λs=>by cases w<;>first|rfl|exact absurd rfl (h _)),aS,bw,k8];cases w<;>first|exact hs.elim|exact (eV hw).elim|exact absurd rfl (h _)|simp only[Pzz,bg,Nat.reduceAdd,Nat.reduceSub,X_,aR,l0,dX,id]
theorem UA {s:Str}:fW m (N+1) (.tup [.str s]):=by
 have e0:(((1:Nat):Int)==0)=false:=by decide
 have e2:(((1:Nat):Int)==2)=false:=by decide
 have e3:(((1:Nat):Int)==3)=false:=by decide
 have l1:([U.str s]:List U).length=1:=rfl;have q:=PF (bN s);unfold fW;cases c:fN "again" (.str s) with
 |true=>
  have f:gf m (.tup [.str s])=true:=by unfold gf;dsimp only;rw[c];rfl
  rw[c] at q;rw[y8 f,aS,bw,k8];simp only[Pzz,bg,Nat.reduceAdd,Nat.reduceSub,cR,l1,aR,e0,dX,id,q];rfl
 |false=>
  have f:gf m (.tup [.str s])=false:=by unfold gf;dsimp only;rw[c];simp
  rw[c] at q;rw[jr f,aS,bw,k8];simp only[Pzz,bg,Nat.reduceAdd,Nat.reduceSub,cR,l1,aR,e0,e2,e3,dX,id,q,dv]
theorem UB {s:Str}(h:cC n p=true)(hn:n<=20):fW m (N+1) (.tup [.str s,p]):=by
 have e0:(((2:Nat):Int)==0)=false:=by decide
 have e2:(((2:Nat):Int)==2)=true:=by decide
 have e3:(((2:Nat):Int)==3)=false:=by decide
 have l1:([U.str s,p]:List U).length=2:=rfl;have q:=rz (w:=.str s) (p:=p) (r:=[]) (by
  intro u hu;simp only[Yk,YR,or_false] at hu;rcases hu with rfl|rfl
  ·exact bN s
  ·exact fj h hn)
 have tp:=g8 h hn;unfold fW;cases c:fN "end" (.str s) with
 |true=>
  have es:=md c;cases es;cases c2:wJ m p with
  |true=>
   have f:gf m (.tup [.str "end",p])=true:=by unfold gf;dsimp only;simp only[m9,Yn,if_false,if_true,c2]
   rw[y8 f,aS,bw,k8];simp only[Pzz,bg,Nat.reduceAdd,Nat.reduceSub,cR,l1,aR,e0,e2,dX,iC,id,q,d_ (bN _),m9,cz tp,c2];rfl
  |false=>
   have f:gf m (.tup [.str "end",p])=false:=by unfold gf;dsimp only;simp only[m9,Yn,if_false,if_true,c2]
   rw[jr f,aS,bw,k8];simp only[Pzz,bg,Nat.reduceAdd,Nat.reduceSub,cR,l1,aR,e0,e2,e3,dX,iC,id,q,d_ (bN _),m9,cz tp,c2,dv]
 |false=>
  have f:gf m (.tup [.str s,p])=false:=by
   unfold gf;dsimp only;cases fN "again" (.str s)
   ·rw[c];rfl
   ·rfl
  rw[jr f,aS,bw,k8];simp only[Pzz,bg,Nat.reduceAdd,Nat.reduceSub,cR,l1,aR,e0,e2,e3,dX,id,q,d_ (bN _),c,dv]
theorem UC {s:Str}{x:U}{r:List U}(h:∀u∈U.str s::p::q::x::r,vP u):fW m (N+1) (.tup (.str s::p::q::x::r)):=by
 have l1:(U.str s::p::q::x::r).length=r.length+4:=rfl;have e0:(((r.length+4:Nat):Int)==0)=false:=beq_eq_false_iff_ne.mpr (by lia);have e2:(((r.length+4:Nat):Int)==2)=false:=beq_eq_false_iff_ne.mpr (by lia);have e3:(((r.length+4:Nat):Int)==3)=false:=beq_eq_false_iff_ne.mpr (by lia);have q':=rz h;have f:gf m (.tup (.str s::p::q::x::r))=false:=by
  unfold gf;dsimp only;cases fN "again" (.str s)
  ·cases fN "end" (.str s)<;>rfl
  ·rfl
 unfold fW;rw[jr f,aS,bw,k8];simp only[Pzz,bg,Nat.reduceAdd,Nat.reduceSub,cR,l1,aR,e0,e2,e3,dX,id,q',dv]
theorem LW {s:Str}(hp:cC n p=true)(hq:cC n q=true)(hn:n<=20):∀u∈[U.str s,p,q],vP u:=by
 intro u hu;simp only[Yk,YR,or_false] at hu;rcases hu with rfl|rfl|rfl
 ·exact bN s
 ·exact fj hp hn
 ·exact fj hq hn
theorem Nu {s:Str}(hk:bB (.tup [.str s,p,q])=[q])(hq:cC n q=true)(hn:n<=14)(f:gf m (.tup [.str s,p,q])=true)(ih:fW m N q) :
  Co .S (bT (aS N) [some u,some (.int m),some (.lst [q]),none])=.ok (cU (cN m (N+1) (.tup [.str s,p,q]))):=by
 rw[EO (m:=m) (N:=N) (ps:=[q]) (by simp) (by rw[YA];decide) (λx hx=>by rw[Yw.mp hx];exact ih) λx hx ha=>by
  rw[Yw.mp hx] at ha ⊢;have:=EL hq ha;have:4 ^ n<=4 ^ 14:=abr (by decide) hn;lia]
 rw[y8 f,hk]
def jl {s:Str}(ag:kR (.tup [.str s,p,q]) (.tup [.str "again"])=.ok false):aS (N+1) [.tup [.str s,p,q],.int m]=Co .S (cR (aS N) [some (.tup [.str s,p,q]),some (.int m),some .non,none]):=by
 have e0:(((3:Nat):Int)==0)=false:=by decide
 have e2:(((3:Nat):Int)==2)=false:=by decide
 have l3:([U.str s,p,q]:List U).length=3:=rfl;rw[aS,bw,k8];simp only[Pzz,bg,Nat.reduceAdd,Nat.reduceSub,l3,aR,e0,e2,dX,id,ag]
theorem PH (h0:0<m)(hp:cC n p=true)(hq:cC n q=true)(hn:n<=14)(ih:fW m N q):fW m (N+1) (.tup [.str "lay",p,q]):=by
 have e3:(((3:Nat):Int)==3)=true:=by decide
 have l3:([U.str "lay",p,q]:List U).length=3:=rfl;have ag:=rz (LW (s:="lay") hp hq (by lia));have tp:=g8 hp (by lia);have ff:gf m (.tup [.str "lay",p,q])=rn p m:=by unfold gf;dsimp only;simp only[m9,Yn,if_false,if_true]
 have hk:bB (.tup [.str "lay",p,q])=[q]:=by simp only[bB,m9,Yn,if_false]
 rw[vF h0] at ff;cases c:wJ m p with
 |false=>
  rw[c,YU] at ff;unfold fW;rw[jr ff,jl ag,cR];simp only[Pzz,bg,Nat.reduceAdd,Nat.reduceSub,l3,aR,e3,dX,iC,tq,id,d_ (bN _),m9,cz tp,c,dv]
 |true=>
  obtain⟨us,rfl,lu⟩:=y7 c;rw[c,Y1,lu] at ff;cases c2:us.length==m with
  |false=>
   rw[c2] at ff;unfold fW;rw[jr ff,jl ag,cR];simp only[Pzz,bg,Nat.reduceAdd,Nat.reduceSub,l3,aR,e3,dX,iC,tq,id,d_ (bN _),m9,cz tp,c,g9,c2,dv]
  |true=>
   rw[c2] at ff;unfold fW;rw[←Nu hk hq hn ff ih (u:=.tup [.str "lay",.tup us,q]),jl ag,cR];simp only[Pzz,bg,Nat.reduceAdd,Nat.reduceSub,l3,aR,e3,dX,iC,tq,id,d_ (bN _),m9,cz tp,c,g9,c2]
theorem PJ (h0:0<m)(hp:cC n p=true)(hq:cC n q=true)(hn:n<=14)(ih:fW m N q):fW m (N+1) (.tup [.str "mix",p,q]):=by
 have e3:(((3:Nat):Int)==3)=true:=by decide
 have l3:([U.str "mix",p,q]:List U).length=3:=rfl;have ag:=rz (LW (s:="mix") hp hq (by lia));have Wc:=fj hp (by lia);have hs:=cZ Wc;have ff:gf m (.tup [.str "mix",p,q])=Ga p m:=by unfold gf;dsimp only;simp only[m9,Yn,if_false,if_true]
 have hk:bB (.tup [.str "mix",p,q])=[q]:=by simp only[bB,m9,Yn,if_false]
 cases p<;>first|exact hs.elim|exact (eV Wc).elim|skip
 case tup us=>
  cases n with
  |zero=>cases hp
  |succ n=>
   have hg:=(dJ hp).2.2;have e:lr (nq [none,some 1] (df 0) cb (mC (iE 2 bu (ae (ai 0) (ae (ai 1) ak))) (aK (lB id) (dZ dI (ae (ai 0) ak)) (ai 1))) [some (.tup [.str "mix",.tup us,q]),some (.int m),some .non,none]) us=.ok (us.map λu=>.bl (rn u m)):=
    gR λu hu=>by
     have tu:=g8 (hg u hu) (by lia);rw[vF h0];cases c:wJ m u with
     |false=>simp only[Pzz,bg,Nat.reduceAdd,Nat.reduceSub,cz tu,c,YU]
     |true=>
      obtain⟨vs,rfl,lu⟩:=y7 c;simp only[Pzz,bg,Nat.reduceAdd,Nat.reduceSub,cz tu,c,aR,g9,lu,Y1,id]
   by_cases c1:(1:Int)<=us.length
   ·by_cases c2:(us.length:Int)<=24
    ·have fs:Ga (.tup us) m=us.all λx=>rn x m:=by
      unfold Ga;dsimp only;rw[hG (show 1<=us.length by lia),hG (show us.length<=24 by lia)];rfl
     rw[fs] at ff;cases c3:us.all λx=>rn x m with
     |true=>
      rw[c3] at ff;unfold fW;rw[←Nu hk hq (by lia) ff ih (u:=.tup [.str "mix",.tup us,q]),jl ag,cR];simp only[Pzz,bg,Nat.reduceAdd,Nat.reduceSub,l3,aR,e3,dX,iC,tq,id,d_ (bN _),m9,hG c1,hG c2,e,b9,c3]
     |false=>
      rw[c3] at ff;unfold fW;rw[jr ff,jl ag,cR];simp only[Pzz,bg,Nat.reduceAdd,Nat.reduceSub,l3,aR,e3,dX,iC,tq,id,d_ (bN _),m9,hG c1,hG c2,e,b9,c3,dv]
    ·have fs:Ga (.tup us) m=false:=by
      unfold Ga;dsimp only;rw[hJ (show ¬us.length<=24 by lia),Zy];rfl
     rw[fs] at ff;unfold fW;rw[jr ff,jl ag,cR];simp only[Pzz,bg,Nat.reduceAdd,Nat.reduceSub,l3,aR,e3,dX,iC,tq,id,d_ (bN _),m9,hG c1,hJ c2,dv]
   ·have fs:Ga (.tup us) m=false:=by
     unfold Ga;dsimp only;rw[hJ (show ¬1<=us.length by lia)];rfl
    rw[fs] at ff;unfold fW;rw[jr ff,jl ag,cR];simp only[Pzz,bg,Nat.reduceAdd,Nat.reduceSub,l3,aR,e3,dX,iC,tq,id,d_ (bN _),m9,hJ c1,dv]
 all_goals (
  unfold fW;rw[jr ff,jl ag,cR];simp only[Pzz,bg,Nat.reduceAdd,Nat.reduceSub,l3,aR,e3,dX,iC,tq,id,d_ (bN _),m9,dv])
theorem LX (hp:cC n p=true)(hq:cC n q=true)(hn:n<=14)(ih:∀x∈bB (.tup [.str "look",p,q]),gf m (.tup [.str "look",p,q])=true->fW m N x/\∃k,k<=14/\cC k x=true)(hl:gf m (.tup [.str "look",p,q])=true->(bB (.tup [.str "look",p,q])).length<60):fW m (N+1) (.tup [.str "look",p,q]):=by
 have e3:(((3:Nat):Int)==3)=true:=by decide
 have l3:([U.str "look",p,q]:List U).length=3:=rfl;have ag:=rz (LW (s:="look") hp hq (by lia));have tp:=g8 hp (by lia);have ff:gf m (.tup [.str "look",p,q])=(wJ m p&&EG (Gb p) q):=by unfold gf;dsimp only;simp only[m9,Yn,if_false,Y1]
 cases c:wJ m p with
 |false=>
  rw[c,YU] at ff;unfold fW;rw[jr ff,jl ag,cR];simp only[Pzz,bg,Nat.reduceAdd,Nat.reduceSub,l3,aR,e3,dX,iC,tq,id,d_ (bN _),m9,cz tp,c,dv]
 |true=>
  obtain⟨us,rfl,lu⟩:=y7 c;rw[c,Y1,lu] at ff;have wo:=Br (n:=n) (k:=us.length) (m:=m) hq (by lia);cases c2:EG us.length q with
  |false=>
   rw[c2] at ff wo;unfold fW;rw[jr ff,jl ag,cR];simp only[Pzz,bg,Nat.reduceAdd,Nat.reduceSub,l3,aR,e3,dX,iC,tq,id,d_ (bN _),m9,cz tp,c,wo,dv]
  |true=>
   rw[c2] at ff wo;cases q<;>first|(cases c2;done)|skip
   rename_i ws;obtain⟨ne,hy⟩:=CY c2;have hk:bB (.tup [.str "look",.tup us,.tup ws])=ws.map wL:=by simp only[bB,m9,if_true]
   rw[hk] at ih hl;have e:lr (nq [none] (df 0) cb (zqb 0 1) [some (.tup [.str "look",.tup us,.tup ws]),some (.int m),some .non,none]) ws=.ok (ws.map wL):=
    gR λu hu=>by
     obtain⟨ns,x,rfl,_⟩:=m7 (hy u hu);simp only[Pzz,bg,Nat.reduceAdd,Nat.reduceSub,iC,wL]
   have tl:=EO (rc:=aS N) (u:=.tup [.str "look",.tup us,.tup ws]) (m:=m) (N:=N) (ps:=ws.map wL) (λz=>ne (aaK.mp z)) (hl ff) (λx hx=>(ih x hx ff).1) λx hx ha=>by
    obtain⟨k,hk14,gk⟩:=(ih x hx ff).2;have:=EL gk ha;have:4 ^ k<=4 ^ 14:=abr (by decide) hk14;lia
   unfold fW;rw[y8 ff,hk,←tl,jl ag,cR];simp only[Pzz,bg,Nat.reduceAdd,Nat.reduceSub,l3,aR,e3,dX,iC,tq,id,d_ (bN _),m9,cz tp,c,wo,e]
theorem UD {s:Str}(hp:cC n p=true)(hq:cC n q=true)(hn:n<=14)(h1:fN "lay" (.str s)=false)(h2:fN "mix" (.str s)=false)(h3:fN "look" (.str s)=false):fW m (N+1) (.tup [.str s,p,q]):=by
 have e3:(((3:Nat):Int)==3)=true:=by decide
 have l3:([U.str s,p,q]:List U).length=3:=rfl;have ag:=rz (LW (s:=s) hp hq (by lia));have ff:gf m (.tup [.str s,p,q])=false:=by
  unfold gf;dsimp only;rw[h1,h2,h3];cases fN "again" (.str s)
  ·cases fN "end" (.str s)<;>rfl
  ·rfl
 unfold fW;rw[jr ff,jl ag,cR];simp only[Pzz,bg,Nat.reduceAdd,Nat.reduceSub,l3,aR,e3,dX,iC,tq,id,d_ (bN _),h1,h2,h3,dv]
theorem nM {m:Nat}(h0:0<m):∀{N n:Nat} {u:U},cC n u=true->n<=14->n<N->fW m N u
 |0,_,_,_,_,h=>by lia
 |N+1,n,u,g,hn,hN=>by
  have ok:=fj g (by lia);have hs:=cZ ok;cases u<;>first|exact hs.elim|exact (eV ok).elim|skip
  case tup us=>
   cases n with
   |zero=>cases g
   |succ n=>
    have hg:=(dJ g).2.2;have hok:∀x∈us,vP x:=λx hx=>fj (hg x hx) (by lia);cases us with
    |nil=>
     unfold fW;rw[jr (show gf m (.tup [])=false from rfl),aS,bw,k8];simp only[Pzz,bg,Nat.reduceAdd,Nat.reduceSub,YN,aR,id];rfl
    |cons w r=>
     by_cases hw:∃s,w=.str s
     ·obtain⟨s,rfl⟩:=hw
      match r with
      | []=>exact UA
      | [p]=>exact UB (hg p (Ya _ Yb)) (by lia)
      |p::q::x::r=>exact UC hok
      | [p,q]=>
       have hp:=hg p (Ya _ Yb);have hq:=hg q (Ya _ (Ya _ Yb));cases c1:fN "lay" (.str s) with
       |true=>rw[md c1];exact PH h0 hp hq (by lia) (nM h0 hq (by lia) (by lia))
       |false=>
        cases c2:fN "mix" (.str s) with
        |true=>rw[md c2];exact PJ h0 hp hq (by lia) (nM h0 hq (by lia) (by lia))
        |false=>
         cases c3:fN "look" (.str s) with
         |true=>
          have es:=md c3;cases es;exact LX hp hq (by lia) (λx hx ff=>by
           have gx:=(qm g ff).1 x hx;exact⟨nM h0 gx (by lia) (by lia),n,by lia,gx⟩) λff=>(qm g ff).2
         |false=>exact UD hp hq (by lia) c1 c2 c3
     ·exact JD (hok w Yb) λs e=>hw ⟨s,e⟩
  all_goals (
   unfold fW;rw[jr rfl,aS,bw,k8];simp only[au,bq,NS,bg,Nat.reduceAdd,Nat.reduceSub])
theorem ER (g:cC n u=true)(h:gf m u=true):(bB u).length<60:=by
 cases n with
 |zero=>rw[CZ g] at h;cases h
 |succ n=>exact (qm g h).2
theorem Bu {m n:Nat}:∀{us:List U},(∀u∈us,cC n u=true)->(∀u∈us,gf m u=true)->(us.flatMap bB).length<=60*us.length
 | [],_,_=>by simp
 |u::us,g,h=>by
  have h1:=Bu (m:=m) (λx hx=>g x (Ya _ hx)) λx hx=>h x (Ya _ hx);have h2:=ER (g u Yb) (h u Yb);rw[adm,Yc,X_];lia
theorem xN (hl:us.length<=60)(g:∀u∈us,cC n u=true)(h:∀u∈us,gf m u=true):dB [.lst us]=.ok (.lst (us.flatMap bB)):=by
 have Qr:Yf=16777216:=rfl;obtain⟨ρ',e,o,rfl⟩:=fw (sg:=df 2) (s:=bP) (us:=us) (λi ρ=>∃o,ρ=[some (.lst us),some (.lst ((us.take i).flatMap bB)),o])
  (λi u ρ hu h00=>by
   obtain⟨o,hρ⟩:=h00;subst hρ;have hm:=Y6 hu;have tk:us.take (i+1)=us.take i++[u]:=by rw[List.take_succ,hu];rfl
   have b:((us.take i).flatMap bB).length<=3600:=by
    have:=Bu (m:=m) (us:=us.take i) (λx hx=>g x (Zd hx)) λx hx=>h x (Zd hx);have l2:(us.take i).length<=60:=by rw[Yy];lia
    lia
   refine⟨_,_,rfl,.inl ?_,some u,rfl⟩;rw[tk,List.flatMap_append,List.flatMap_singleton];generalize (us.take i).flatMap bB=K at b ⊢;unfold bP;rcases Bs (h u hm) with rfl|⟨p,rfl,_⟩|⟨p,q,rfl,_⟩|⟨p,q,rfl,_⟩|⟨p,ws,rfl,_,hw⟩
   ·have hk:bB (.tup [.str "again"])=[]:=rfl;rw[hk,YV];simp only[Pzz,bg,Nat.reduceAdd,Nat.reduceSub,Zb,YY,dX,d_ (bN _),m9,id]
   ·have hk:bB (.tup [.str "end",p])=[]:=rfl;rw[hk,YV];simp only[Pzz,bg,Nat.reduceAdd,Nat.reduceSub,Zb,YY,dX,d_ (bN _),m9,id]
   ·have hk:bB (.tup [.str "lay",p,q])=[q]:=by simp only[bB,m9,Yn,if_false]
    have lk:K.length<Yf:=by lia
    rw[hk];simp only[Pzz,bg,Nat.reduceAdd,Nat.reduceSub,Zb,YY,dX,tq,d_ (bN _),m9,ED,lk,id]
   ·have hk:bB (.tup [.str "mix",p,q])=[q]:=by simp only[bB,m9,Yn,if_false]
    have lk:K.length<Yf:=by lia
    rw[hk];simp only[Pzz,bg,Nat.reduceAdd,Nat.reduceSub,Zb,YY,dX,tq,d_ (bN _),m9,ED,lk,id]
   ·have hk:bB (.tup [.str "look",p,.tup ws])=ws.map wL:=by simp only[bB,m9,if_true]
    have lw:=ER (g _ hm) (h _ hm);rw[hk] at lw ⊢;rw[X8] at lw;have lk:K.length+(ws.map wL).length<=Yf:=by rw[X8];lia
    obtain⟨ne,hy⟩:=CY hw;have e:lr (nq [none] (df 0) cb (zqb 0 1) [some (.lst us),some (.lst K),some (.tup [.str "look",p,.tup ws])]) ws=.ok (ws.map wL):=
     gR λu hu=>by
      obtain⟨ns,x,rfl,_⟩:=m7 (hy u hu);simp only[Pzz,bg,Nat.reduceAdd,Nat.reduceSub,iC,wL]
    simp only[Pzz,bg,Nat.reduceAdd,Nat.reduceSub,Zb,YY,dX,tq,d_ (bN _),m9,e,Jg,lk,id]) (ρ:=[some (.lst us),some (.lst []),none]) ⟨none,rfl⟩
 rw[aax] at e;rw[dB,jS];simp only[Pzz,bg,Nat.reduceAdd,Nat.reduceSub,e]
def Bv (h:∀u∈us,gf m u=true):us.all (aF m (N+1))=(us.flatMap bB).all (aF m N):=by
 rw[List.all_flatMap];rw[aap,Yo,Yo];refine⟨λz u hu=>?_,λz u hu=>?_⟩
 ·have:=z u hu;unfold aF at this;exact (Ys _ _▸this).2
 ·have:=z u hu;unfold aF;rw[h u hu,Y1];exact this
theorem qo {N:Nat}:∀us:List U,(us.map (sz (N+1))).sum=us.length+((us.flatMap bB).map (sz N)).sum
 | []=>rfl
 |u::us=>by
  rw[Yp,aa5,qo us,adm,YT,List.sum_append,X_];have:sz (N+1) u=1+((bB u).map (sz N)).sum:=by rw[sz]
  lia
theorem JE:∀a b:List Nat,mx (a++b)=max (mx a) (mx b)
 | [],b=>by simp[mx]
 |x::a,b=>by
  rw[abB];show max x (mx (a++b))=max (max x (mx a)) (mx b);rw[JE a b];lia
theorem y9 {N:Nat}:∀{us:List U},us≠[]->mx (us.map (hg (N+1)))=1+mx ((us.flatMap bB).map (hg N))
 | [],h=>absurd rfl h
 | [u],_=>by
  rw[List.flatMap_singleton];show max (hg (N+1) u) 0=_;rw[hg];lia
 |u::v::us,_=>by
  have ih:=y9 (N:=N) (us:=v::us) (by simp);rw[adm,YT,JE,Yp];show max (hg (N+1) u) (mx ((v::us).map (hg (N+1))))=_;rw[ih,hg];lia
noncomputable def LP (m N met dep:Nat)(us:List U):Bool:=us.all (aF m N)&&(decide (met+(us.map (sz N)).sum<=60)&&decide (us=[]\/dep+mx (us.map (hg N))<=12))
theorem LY {met:Nat}(ne:us≠[])(h:∀u∈us,gf m u=true)(hd:dep+1<=12):LP m (N+1) met dep us=LP m N (met+us.length) (dep+1) (us.flatMap bB):=by
 unfold LP;rw[Bv h,qo,y9 ne];congr 2
 ·exact decide_eq_decide.mpr (by lia)
 ·refine decide_eq_decide.mpr ⟨λz=>.inr ?_,λz=>.inr ?_⟩
  ·rcases z with z|z
   ·exact absurd z ne
   ·lia
  ·rcases z with z|z
   ·rw[z];show dep+(1+0)<=12;lia
   ·lia
theorem JF:∀us:List U,us.length<=(us.map (sz (N+1))).sum:=λus=>by rw[qo];lia
def LZ {f:Int->Int->Int}{i j:Int}:Rk f (.int i) (.int j)=.ok (.int (f i j)):=nr rfl
def Nv:hI [x0,x1,some (.lst us),x3,x4]=.ok (decide ((0:Int)<((us.length:Nat):Int)),[x0,x1,some (.lst us),x3,x4]):=by
 unfold hI;simp only[Pzz,bg,Nat.reduceAdd,Nat.reduceSub,nW]
theorem Nw {met:Nat}{t:U}(hm:m<=1000)(hn:n<=20)(g:∀u∈us,cC n u=true)(c:¬(met+us.length<=60/\dep+1<=12/\us.all (gf m)=true)) :
  ∃ρ',bI [some t,some (.int m),some (.lst us),some (.int met),some (.int dep)]=.rt (.bl false) ρ':=by
 have e:lr (nq [none,some 1] (df 0) cb (iE 2 b_ (ae (ai 0) (ae (ai 1) ak))) [some t,some (.int m),some (.lst us),some (.int (met+(us.length:Nat))),some (.int (dep+1))]) us=.ok (us.map λu=>.bl (gf m u)):=
  gR λu hu=>by simp only[Pzz,bg,Nat.reduceAdd,Nat.reduceSub,sP (g u hu) hn hm]
 refine⟨[some t,some (.int m),some (.lst us),some (.int (met+(us.length:Nat))),some (.int (dep+1))],?_⟩;unfold bI;by_cases c1:(60:Int)<(met+(us.length:Nat):Int)
 ·simp only[Pzz,bg,Nat.reduceAdd,Nat.reduceSub,nW,LZ,hG c1]
 ·by_cases c2:(12:Int)<(dep+1:Int)
  ·simp only[Pzz,bg,Nat.reduceAdd,Nat.reduceSub,nW,LZ,hJ c1,hG c2]
  ·have c3:us.all (gf m)=false:=by
    rw[ZT];exact λz=>c ⟨by lia,by lia,z⟩
   simp only[Pzz,bg,Nat.reduceAdd,Nat.reduceSub,nW,LZ,hJ c1,hJ c2,e,b9,c3]
theorem PL {met:Nat}{t:U}(hm:m<=1000)(hn:n<=20)(g:∀u∈us,cC n u=true)(h1:met+us.length<=60)(h2:dep+1<=12)(h3:us.all (gf m)=true) :
  bI [some t,some (.int m),some (.lst us),some (.int met),some (.int dep)]=.nx [some t,some (.int m),some (.lst (us.flatMap bB)),some (.int ((met+us.length:Nat):Int)),some (.int ((dep+1:Nat):Int))]:=by
 have e:lr (nq [none,some 1] (df 0) cb (iE 2 b_ (ae (ai 0) (ae (ai 1) ak))) [some t,some (.int m),some (.lst us),some (.int (met+(us.length:Nat))),some (.int (dep+1))]) us=.ok (us.map λu=>.bl (gf m u)):=
  gR λu hu=>by simp only[Pzz,bg,Nat.reduceAdd,Nat.reduceSub,sP (g u hu) hn hm]
 have wi:=xN (m:=m) (us:=us) (by lia) g (Yo.mp h3);have c1:¬(60:Int)<(met+(us.length:Nat):Int):=by lia
 have c2:¬(12:Int)<(dep+1:Int):=by lia
 have m1:((met+us.length:Nat):Int)=(met:Int)+(us.length:Nat):=by lia
 have m2:((dep+1:Nat):Int)=(dep:Int)+1:=by lia
 unfold bI;simp only[Pzz,bg,Nat.reduceAdd,Nat.reduceSub,nW,LZ,hJ c1,hJ c2,e,b9,h3,wi,m1,m2]
theorem Ny {met:Nat}(ne:us≠[])(c:¬(met+us.length<=60/\dep+1<=12/\us.all (gf m)=true)):LP m (N+1) met dep us=false:=by
 rw[ZT];intro z;unfold LP at z;rw[Ys,Ys,decide_eq_true_iff,decide_eq_true_iff] at z;obtain⟨z1,z2,z3⟩:=z;refine c ⟨?_,?_,?_⟩
 ·have:=JF (N:=N) us;lia
 ·have:=y9 (N:=N) ne;rcases z3 with z3|z3
  ·exact absurd z3 ne
  ·lia
 ·exact Yo.mpr λu hu=>by
   have:=Yo.mp z1 u hu;unfold aF at this;exact (Ys _ _▸this).1
theorem L0 {t:U}(hm:m<=1000):∀(n N cy met dep:Nat) (us:List U),n<=20->n<N->n+1<cy->met<=60->(∀u∈us,cC n u=true)->∃ρ',iF hI bI cy [some t,some (.int m),some (.lst us),some (.int met),some (.int dep)]=if LP m N met dep us=true then .nx ρ' else .rt (.bl false) ρ':=by
 intro n
 induction n with
 |zero=>
  intro N cy met dep us hn hN hf Vf g;obtain⟨cy,rfl⟩:∃f,cy=f+1:=⟨cy-1,by lia⟩;obtain⟨N,rfl⟩:∃f,N=f+1:=⟨N-1,by lia⟩;rw[pU,Nv];by_cases hz:us=[]
  ·subst hz;have l:LP m (N+1) met dep []=true:=by unfold LP;simp;lia
   exact⟨[some t,some (.int m),some (.lst []),some (.int met),some (.int dep)],by rw[l];rfl⟩
  ·have lp:=ZF.mpr hz;rw[hG (show (0:Int)<((us.length:Nat):Int) by lia)];have c:¬(met+us.length<=60/\dep+1<=12/\us.all (gf m)=true):=λz=>by
    obtain⟨u,hu⟩:=aao _ hz;have:=Yo.mp z.2.2 u hu;rw[CZ (g u hu)] at this;cases this
   obtain⟨ρ',e⟩:=Nw (t:=t) (met:=met) (dep:=dep) hm hn g c;refine⟨ρ',?_⟩;rw[Ny hz c];show (bI _).turn _=_;rw[e];rfl
 |succ n ih=>
  intro N cy met dep us hn hN hf Vf g;obtain⟨cy,rfl⟩:∃f,cy=f+1:=⟨cy-1,by lia⟩;obtain⟨N,rfl⟩:∃f,N=f+1:=⟨N-1,by lia⟩;rw[pU,Nv];by_cases hz:us=[]
  ·subst hz;have l:LP m (N+1) met dep []=true:=by unfold LP;simp;lia
   exact⟨[some t,some (.int m),some (.lst []),some (.int met),some (.int dep)],by rw[l];rfl⟩
  ·have lp:=ZF.mpr hz;rw[hG (show (0:Int)<((us.length:Nat):Int) by lia)];by_cases c:met+us.length<=60/\dep+1<=12/\us.all (gf m)=true
   ·have fm:=Yo.mp c.2.2;have gk:∀q∈us.flatMap bB,cC n q=true:=λq hq=>by
     obtain⟨u,hu,hq⟩:=abE.mp hq;exact (qm (g u hu) (fm u hu)).1 q hq
    obtain⟨ρ',ih⟩:=ih N cy (met+us.length) (dep+1) (us.flatMap bB) (by lia) (by lia) (by lia) c.1 gk;rw[←LY hz fm c.2.1] at ih;refine⟨ρ',?_⟩;rw[←ih];show (bI _).turn _=_;rw[PL hm hn g c.1 c.2.1 c.2.2];rfl
   ·obtain⟨ρ',e⟩:=Nw (t:=t) (met:=met) (dep:=dep) hm hn g c;refine⟨ρ',?_⟩;rw[Ny hz c];show (bI _).turn _=_;rw[e];rfl
theorem C0 (hm:m<=1000)(hn:n<=20)(hN:n<N)(g:cC n u=true):lE [u,.int m]=.ok (.bl (aF m N u&&(decide (sz N u<=60)&&decide (hg N u<=12)))):=by
 obtain⟨ρ',e⟩:=L0 (t:=u) hm n N 1000 0 0 [u] hn hN (by lia) (by lia) (λx hx=>by rw[Yw.mp hx];exact g);have l:LP m N 0 0 [u]=(aF m N u&&(decide (sz N u<=60)&&decide (hg N u<=12))):=by
  unfold LP;rw[ZU,List.all_nil,aaN];congr 2
  ·exact decide_eq_decide.mpr (by simp)
  ·refine decide_eq_decide.mpr ⟨λz=>?_,λz=>.inr ?_⟩
   ·rcases z with z|z
    ·cases z
    ·have:mx ([u].map (hg N))=max (hg N u) 0:=rfl;lia
   ·have:mx ([u].map (hg N))=max (hg N u) 0:=rfl;lia
 rw[l] at e;have z0:(((0:Nat):Int))=0:=rfl;rw[z0] at e;rw[lE,rh];cases c:aF m N u&&(decide (sz N u<=60)&&decide (hg N u<=12)) with
 |true=>
  rw[c,hV rfl] at e;simp only[Pzz,bg,Nat.reduceAdd,Nat.reduceSub,e]
 |false=>
  rw[c,hU (by decide)] at e;simp only[Pzz,bg,Nat.reduceAdd,Nat.reduceSub,e]
def JG:hL [x0,x1,some (.lst us)]=.ok (decide ((0:Int)<((us.length:Nat):Int)),[x0,x1,some (.lst us)]):=by
 unfold hL;simp only[Pzz,bg,Nat.reduceAdd,Nat.reduceSub,nW]
theorem Gf {t:U}:∀(n N cy:Nat) (us:List U) (Ls:List (List U)),n<=20->n<N->n+1<cy->(∀u∈us,cC n u=true)->us.all (aF m N)=true->(us.map (sz N)).sum<=60->Ls.length+n<=1000->
  ∃Ms:List (List U),iF hL Qn cy [some t,some (.lst (Ls.map U.lst)),some (.lst us)]=.nx [some t,some (.lst ((Ls++Ms).map U.lst)),some (.lst [])]/\(Ms.map aai).sum=(us.map (sz N)).sum/\(∀l∈Ms,l.length<=60)/\Ms.length<=n+1:=by
 intro n
 induction n with
 |zero=>
  intro N cy us Ls hn hN hf g ha hs hl;obtain⟨cy,rfl⟩:∃f,cy=f+1:=⟨cy-1,by lia⟩;obtain⟨N,rfl⟩:∃f,N=f+1:=⟨N-1,by lia⟩;have hz:us=[]:=by
   cases us with
   |nil=>rfl
   |cons u r=>
    rw[ZU,Ys] at ha;have:=ha.1;unfold aF at this;rw[CZ (g u Yb)] at this;cases this
  subst hz;refine⟨[],?_,rfl,(λl h=>by cases h),by decide⟩;rw[pU,JG,YV];rfl
 |succ n ih=>
  intro N cy us Ls hn hN hf g ha hs hl;obtain⟨cy,rfl⟩:∃f,cy=f+1:=⟨cy-1,by lia⟩;obtain⟨N,rfl⟩:∃f,N=f+1:=⟨N-1,by lia⟩;by_cases hz:us=[]
  ·subst hz;refine⟨[],?_,rfl,(λl h=>by cases h),by rw[YN];lia⟩;rw[pU,JG,YV];rfl
  ·have lp:=ZF.mpr hz;have fm:∀u∈us,gf m u=true:=λu hu=>by
    have:=Yo.mp ha u hu;unfold aF at this;exact (Ys _ _▸this).1
   have ll:=JF (N:=N) us;have sk:=qo (N:=N) us;have wi:=xN (m:=m) (us:=us) (by lia) g fm;have Qr:Yf=16777216:=rfl;have lk:Ls.length<Yf:=by lia
   have gk:∀q∈us.flatMap bB,cC n q=true:=λq hq=>by
    obtain⟨u,hu,hq⟩:=abE.mp hq;exact (qm (g u hu) (fm u hu)).1 q hq
   obtain⟨Ms,e,h1,h2,h3⟩:=ih N cy (us.flatMap bB) (Ls++[us]) (by lia) (by lia) (by lia) gk (by rw[←Bv fm];exact ha) (by lia) (by rw[Yc,YA];lia);refine⟨us::Ms,?_,by rw[Yp,aa5,h1,sk],λl JV=>?_,by rw[X_];lia⟩
   ·rw[pU,JG,hG (show (0:Int)<((us.length:Nat):Int) by lia)];show (Qn _).turn _=_;have b:Qn [some t,some (.lst (Ls.map U.lst)),some (.lst us)]=.nx [some t,some (.lst ((Ls++[us]).map U.lst)),some (.lst (us.flatMap bB))]:=by
     unfold Qn;simp only[Pzz,bg,Nat.reduceAdd,Nat.reduceSub,ED,X8,lk,wi,YT,Yp,aaz]
    rw[b];show iF hL Qn cy _=_;rw[e,YB];rfl
   ·rcases Yk.mp JV with rfl|z
    ·lia
    ·exact h2 l z
theorem Bw (hn:n<=20)(hN:n<N)(g:cC n u=true)(ha:aF m N u=true)(hs:sz N u<=60):jT [u]=.ok (.int (sz N u:Nat)):=by
 have s1:([u].map (sz N)).sum=sz N u:=by simp
 obtain⟨Ms,e,h1,h2,h3⟩:=Gf (m:=m) (t:=u) n N 1000 [u] [] hn hN (by lia) (λx hx=>by rw[Yw.mp hx];exact g) (by rw[ZU,ha];rfl) (by rw[s1];exact hs) (by rw[YN];lia);rw[s1] at h1;rw[Zx] at e;have lv:i6 [u]=.ok (.lst (Ms.map U.lst)):=by
  rw[i6,mW];have en:List.map U.lst []=[]:=rfl;rw[en] at e;simp only[Pzz,bg,Nat.reduceAdd,Nat.reduceSub,e]
 have e2:lr (nq [none] (df 0) cb (dZ dI (ae (ai 0) ak)) [some u]) (Ms.map U.lst)=.ok ((Ms.map aai).map λx:Nat=>U.int x):=by
  rw[Y9];exact fJ λl hl=>by simp only[au,bq,NS,bg,Nat.reduceAdd,Nat.reduceSub];rfl
 have e3:=EN (xs:=Ms.map aai) (by rw[X8];lia) λx hx=>by
  obtain⟨l,hl,rfl⟩:=Yz.mp hx;have:=h2 l hl;lia
 rw[h1] at e3;simp only[Pzz,bg,Nat.reduceAdd,Nat.reduceSub,jT,oT,lv,e2,e3]
theorem JH (h0:0<m)(hm:m<=1000)(hn:n<=14)(g:cC n u=true):eG [u,.int m]=.ok (.bl true):=by
 have e1:=C0 (N:=24) hm (by lia) (by lia) g;have e2:aS 24 [u,.int m]=.ok (cU (cN m 24 u)):=nM h0 g hn (by lia);cases c:aF m 24 u with
 |false=>
  have e3:cU (cN m 24 u)=.non:=by unfold cN;rw[c];rfl
  rw[c,YU] at e1;rw[e3] at e2;simp only[Pzz,bg,Nat.reduceAdd,Nat.reduceSub,eG,fx,e1,e2,y4,Eh,rg,beq_self_eq_true,Ze,YX]
 |true=>
  have e3:cU (cN m 24 u)=.tup [.int (sz 24 u:Nat),.int (hg 24 u:Nat)]:=by unfold cN;rw[c];rfl
  rw[c,Y1] at e1;rw[e3] at e2;have d1:decide (((sz 24 u:Nat):Int)<61)=decide (sz 24 u<=60):=decide_eq_decide.mpr (by lia);have d2:decide (((hg 24 u:Nat):Int)<13)=decide (hg 24 u<=12):=decide_eq_decide.mpr (by lia);by_cases c1:sz 24 u<=60
  ·by_cases c2:hg 24 u<=12
   ·have e4:=Bw (N:=24) (by lia) (by lia) g c c1;rw[hG c1] at d1 e1;rw[hG c2] at d2 e1;simp only[Pzz,bg,Nat.reduceAdd,Nat.reduceSub,eG,fx,e1,e2,ql,dX,iC,d1,d2,Eh,rg,Y1,beq_self_eq_true,Ze,YX,e4,aR,bo,id]
   ·rw[hG c1] at d1 e1;rw[hJ c2] at d2 e1;simp only[Pzz,bg,Nat.reduceAdd,Nat.reduceSub,eG,fx,e1,e2,ql,dX,iC,d1,d2,Eh,rg,Y1,beq_self_eq_true,Ze,YX]
  ·rw[hJ c1] at d1 e1;rw[YU] at e1;simp only[Pzz,bg,Nat.reduceAdd,Nat.reduceSub,eG,fx,e1,e2,ql,dX,iC,d1,Eh,rg,beq_self_eq_true,Ze,YX]
theorem Bx {i:Int}:cC n (.int i)=true:=by cases n<;>rfl
theorem my {s:Str}:cC n (.str s)=true:=by cases n<;>rfl
theorem R5:cC n .non=true:=by cases n<;>rfl
theorem UE {b:Bool}:cC n (.bl b)=true:=by cases n<;>rfl
def ES:cC (n+1) (.tup us)=((decide (us.length<60)||us.all wI)&&decide (us.length<=2000)&&us.all (cC n)):=rfl
def R6:cC (n+1) (.lst us)=us.all (cC n):=rfl
theorem g_ (hl:us.length<60)(h:∀x∈us,cC n x=true):cC (n+1) (.tup us)=true:=by
 rw[ES,hG hl,hG (show us.length<=2000 by lia),Yo.mpr h];rfl
theorem mf {l:List Int}(hl:l.length<60):cC (n+1) (.tup (l.map U.int))=true:=g_ (by rw[X8];exact hl) λx hx=>by
 obtain⟨i,_,rfl⟩:=Yz.mp hx;exact Bx
theorem C3 (l:List Int):wI (.tup (l.map U.int))=true:=by
 unfold wI;exact Yo.mpr λx hx=>by obtain⟨i,_,rfl⟩:=Yz.mp hx;rfl
def tZ (hl:us.length<=2000)(h:∀x∈us,wI x=true/\cC (n+1) x=true):cC (n+2) (.tup us)=true:=by
 rw[ES,Yo.mpr λx hx=>(h x hx).1,hG hl,Yo.mpr λx hx=>(h x hx).2];simp
theorem kJ:∀{d:Nat} {u:U},cP (d+1) u->cC (3*d+2) u=true
 |d,u,h=>by
  unfold cP at h;rcases h with⟨cs,rfl,hc⟩|rfl|⟨p,q,rfl,hp,hq⟩|⟨ps,q,rfl,hp,hq⟩|⟨pl,ws,rfl,hp,h1,h5,hw⟩
  ·have:cC (3*d+1) (aP cs)=true:=mf (by have:=hc.2;lia);exact g_ (by simp) λx hx=>by
    simp only[Yk,YR,or_false] at hx;rcases hx with rfl|rfl
    ·exact my
    ·exact this
  ·exact g_ (by simp) λx hx=>by rw[Yw.mp hx];exact my
  ·cases d with
   |zero=>cases hq
   |succ d=>
    have g1:=kJ hq;have:cC (3*d+4) (aP p)=true:=mf (by have:=hp.2;lia);exact g_ (n:=3*d+4) (by simp) λx hx=>by
     simp only[Yk,YR,or_false] at hx;rcases hx with rfl|rfl|rfl
     ·exact my
     ·exact this
     ·exact jZ g1 (by lia)
  ·cases d with
   |zero=>cases hq
   |succ d=>
    have g1:=kJ hq;have:cC (3*d+4) (.tup (ps.map aP))=true:=tZ (n:=3*d+2) (by rw[X8];have:=hp.2.1;lia) λx hx=>by
     obtain⟨r,hr,rfl⟩:=Yz.mp hx;exact⟨C3 r,mf (by have:=(hp.2.2 r hr).2;lia)⟩
    exact g_ (n:=3*d+4) (by simp) λx hx=>by
     simp only[Yk,YR,or_false] at hx;rcases hx with rfl|rfl|rfl
     ·exact my
     ·exact this
     ·exact jZ g1 (by lia)
  ·cases d with
   |zero=>obtain⟨w,BD⟩:=aao _ h1;cases (hw w BD).2
   |succ d=>
    have gw:∀x∈ws.map kj,cC (3*d+3) x=true:=λx hx=>by
     obtain⟨w,BD,rfl⟩:=Yz.mp hx;have g1:=kJ (hw w BD).2;have:cC (3*d+2) (.tup (w.1.map U.int))=true:=mf (by have:=(hw w BD).1;lia);exact g_ (n:=3*d+2) (by simp) λx hx=>by
      simp only[Yk,YR,or_false] at hx;rcases hx with rfl|rfl
      ·exact this
      ·exact g1
    have g2:cC (3*d+4) (.tup (ws.map kj))=true:=g_ (by rw[X8];lia) gw;have:cC (3*d+4) (aP pl)=true:=mf (by have:=hp.2;lia);exact g_ (n:=3*d+4) (by simp) λx hx=>by
     simp only[Yk,YR,or_false] at hx;rcases hx with rfl|rfl|rfl
     ·exact my
     ·exact this
     ·exact g2
noncomputable def vH (us:List U):List U:=[.non,.tup [],.str "end",.tup [.str "again",.int 1],.tup [.str "end"],.tup [.str "end",.tup []],.tup [.str "end",.tup [.int 0,.int 0]],.tup [.str "end",.lst [.int 0]],.tup [.str "end",.tup [.bl true]],.bl true,
 .tup [.str "end",.tup [.int (-1)]],.tup [.str "mix",.tup [],.tup us],.tup [.str "lay",.tup [.int 0],.tup us],.lst [.str "again"],.tup [.str "look",.tup [.int 0],.tup []],.tup (us++[.int 0]),
 .tup [.str "look",.tup [.int 0],.tup [.tup [.tup [.int 0],.tup us],.tup [.tup [.int 0],.tup us]]],.tup [.str "look",.tup [.int 0],.tup [.tup [.tup [.int 1],.tup us],.tup [.tup [.int 0],.tup us]]],
 .tup [.str "look",.tup [.int 0],.tup [.tup [.tup [.int 10],.tup us]]],.tup [.str "look",.tup [.int 0],.tup [.tup [.tup [.int 0,.int 0],.tup us]]],.tup [.str "Again"],.lst us]
theorem C4 (hl:us.length<=3)(h:cC (k+2) (.tup us)=true):∀x∈vH us,cC (k+5) x=true:=by
 have h3:=Jw h;have h4:=Jw h3;have he:=(dJ h).2.2;have a1:us.all (cC (k+4))=true:=Yo.mpr λx hx=>jZ (he x hx) (by lia);have SS:us.length+1<60:=by lia
 have l2:us.length+1<=2000:=by lia
 have:(vH us).all (cC (k+5))=true:=by
  simp only[vH,ZU,List.all_nil,ES,R6,Bx,my,R5,UE,X_,YN,Yc,List.all_append,a1,hG SS,hG l2,Bool.and_self,Y1,aaN,Bool.true_or];simp only[←ES,h,h3,h4];rfl
 exact λx hx=>Yo.mp this x hx
theorem y_ (h1:us.length*n<=100000)(hn:n<=100)(h2:us.isEmpty=false):ou (.lst us) (.int n)=.ok (.lst (YZ n us).flatten):=by
 unfold ou;dsimp only;rw[Zu,hV ⟨by lia,by lia,h1,h2⟩]
theorem ET (h1:us.length*n<=100000)(hn:2<=n)(h2:us≠[]):rO (.tup us) (.int n)=.ok (.tup (YZ n us).flatten):=by
 unfold rO;dsimp only;rw[Zu,hV ⟨by lia,h1,h2⟩]
theorem EU {x:U}(h:x∈(YZ n us).flatten):x∈us:=by
 obtain⟨l,hl,hx⟩:=List.mem_flatten.mp h;rw[List.eq_of_mem_replicate hl] at hx;exact hx
def R7 {f:Bool->Bool}(hx:fu u=some dx)(hs:d9 us=some ds)(hd:∀d∈ds,cT d<=30):xF f u (.tup us)=.ok (.bl (f (ds.any λd=>iP d dx))):=by
 unfold xF;rw[hx,show (yC (.tup us)).bind d9=some ds from hs];dsimp only;rw[hV (Yo.mpr λd h=>hG (hd d h))]
theorem xO:∀ss:List Str,d9 (ss.map U.str)=some (ss.map D.str)
 | []=>by unfold d9;rfl
 |s::ss=>by rw[Yp];unfold d9;rw[xO ss];unfold fu;rfl
theorem EV {a:Str}{ss:List Str}:xF id (.str a) (.tup (ss.map U.str))=.ok (.bl (ss.any λs=>s==a)):=by
 rw[R7 (dx:=.str a) (by unfold fu;rfl) (xO ss) (λd h=>by
  obtain⟨s,_,rfl⟩:=Yz.mp h;unfold cT;lia)]
 rw[List.any_map];congr 2
def R8 {a b c d:Str}:xF id (.str a) (.tup [.str b,.str c,.str d])=.ok (.bl (b==a||(c==a||(d==a||false)))):=EV (ss:=[b,c,d])
def JI {a b c:Str}:xF id (.str a) (.tup [.str b,.str c])=.ok (.bl (b==a||(c==a||false))):=EV (ss:=[b,c])
theorem C5 {s:U}(hl:us.length<=3):gZ [some s,some (.tup us),none,none,none,none,none]=(aO oA (aO oB oC)) [some s,some (.tup us),some (.lst (vH us)),none,none,none,none]:=by
 have Qr:Yf=16777216:=rfl;have lu:us.length+1<=Yf:=by lia
 unfold gZ;simp only[Pzz,bg,Nat.reduceAdd,Nat.reduceSub,lu,X_,YN,abB,Zx];rfl
theorem C6 {s:U}{L:List U}(hs:jI s)(ne:L≠[])(hl:L.length<=1000):∃x s' ρ,oC [some s,x1,some (.lst L),x3,x4,x5,x6]=.rt x (some s'::ρ)/\x∈L/\jI s':=by
 have lp:=ZF.mpr ne;obtain⟨r,s1,e1,r0,r1,h1⟩:=cJ (m:=(L.length:Nat)) hs (by lia) (by lia);obtain⟨k,rfl⟩:∃k:Nat,r=k:=⟨r.toNat,by lia⟩;have hk:k<L.length:=by lia
 have a:lM L (k:Int)=some L[k]:=by rw[mR,X7 hk]
 refine⟨L[k],s1,[x1,some (.lst L),x3,x4,x5,x6],?_,Za hk,h1⟩;unfold oC;simp only[Pzz,bg,Nat.reduceAdd,Nat.reduceSub,e1,a]
theorem JJ {a b:U}{r:Int}(r0:0<=r)(r1:r<6)(ga:cC 0 a=true)(gb:cC 0 b=true):∃x,lM [a,.int 8,.int (-1),.non,.bl true,b] r=some x/\cC 0 x=true:=by
 have:r=0\/r=1\/r=2\/r=3\/r=4\/r=5:=by lia
 rcases this with rfl|rfl|rfl|rfl|rfl|rfl
 ·exact⟨a,rfl,ga⟩
 ·exact⟨_,rfl,rfl⟩
 ·exact⟨_,rfl,rfl⟩
 ·exact⟨_,rfl,rfl⟩
 ·exact⟨_,rfl,rfl⟩
 ·exact⟨b,rfl,gb⟩
def R9:ju us (some 2) none=us.drop 2:=i9 us 2
theorem R_ {s:U}{w:Str}{row:List Int}{rest L:List U}(hw:(("end":Str)==w||(("lay":Str)==w||(("look":Str)==w||false)))=true)(hs:jI s)(hr:Sm row)(hl:L.length<=100)(BE:rest.length<=10)(hg:∀x∈rest,cC (k+1) x=true) :
  ∃(s':U) (x3 x4 x5:Option U) (Ns:List U),oA [some s,some (.tup (.str w::.tup (row.map U.int)::rest)),some (.lst L),none,none,none,none]=.nx [some s',some (.tup (.str w::.tup (row.map U.int)::rest)),some (.lst (L++Ns)),x3,x4,x5,none]/\jI s'/\Ns.length=8/\∀x∈Ns,cC (k+2) x=true:=by
 have Qr:Yf=16777216:=rfl;have lp:=ZF.mpr hr.1;have l8:=hr.2;obtain⟨t,s1,e1,t0,t1,h1⟩:=cJ (m:=(row.length:Nat)) hs (by lia) (by lia);obtain⟨j,rfl⟩:∃j:Nat,t=j:=⟨t.toNat,by lia⟩;obtain⟨r,s2,e2,r0,r1,h2⟩:=cJ (m:=6) h1 (by decide) (by decide);obtain⟨a,rs,hrow⟩:=ZX hr.1;have a0:lM (row.map U.int) 0=some (.int a):=by rw[hrow];exact dX
 obtain⟨x,ex,gx⟩:=JJ (a:=.int (row.length:Nat)) (b:=.int a) r0 r1 rfl rfl;have c1:((j:Int)+1)=((j+1:Nat):Int):=by lia
 have d2:(U.str w::U.tup (row.map U.int)::rest).drop 2=rest:=rfl;obtain⟨A,hA⟩:∃A,A=U.tup (U.str w::U.tup ((row.map U.int).take j++[x]++(row.map U.int).drop (j+1))::rest):=⟨_,rfl⟩;obtain⟨B,hB⟩:∃B,B=U.tup (U.str w::U.tup ((row.map U.int).drop 1)::rest):=⟨_,rfl⟩;have la:((row.map U.int).take j).length+[x].length<=Yf:=by rw[Yy,X8,YA];lia
 have lb:((row.map U.int).take j++[x]).length+((row.map U.int).drop (j+1)).length<=Yf:=by rw[Yc,Yy,YO,X8,YA];lia
 have lc:∀y:U,[U.str w,y].length+rest.length<=Yf:=λy=>by rw[X_,YA];lia
 have f1:bM (.tup ((row.map U.int).take j)) (.tup [x])=.ok (.tup ((row.map U.int).take j++[x])):=by rw[kZ,hV la]
 have f2:bM (.tup ((row.map U.int).take j++[x])) (.tup ((row.map U.int).drop (j+1)))=.ok (.tup ((row.map U.int).take j++[x]++(row.map U.int).drop (j+1))):=by rw[kZ,hV lb]
 have f3:∀y:U,bM (.tup [.str w,y]) (.tup rest)=.ok (.tup (.str w::y::rest)):=λy=>by rw[kZ,hV (lc y)];rfl
 have f4:ou (.lst [A,B]) (.int 4)=.ok (.lst [A,B,A,B,A,B,A,B]):=y_ (us:=[A,B]) (n:=4) (by rw[X_,YA];decide) (by decide) rfl;have f5:bM (.lst L) (.lst [A,B,A,B,A,B,A,B])=.ok (.lst (L++[A,B,A,B,A,B,A,B])):=by rw[qU,hV (by show L.length+8<=Yf;lia)]
 have gA:cC (k+2) A=true:=by
  rw[hA];refine g_ (by rw[X_,X_];lia) λy hy=>?_;rcases Yk.mp hy with rfl|hy
  ·exact my
  rcases Yk.mp hy with rfl|z
  ·refine g_ (by rw[Yc,Yc,Yy,YO,X8,YA];lia) λv hv=>?_;have hv:v∈row.map U.int\/v=x:=by
    rcases Yx.mp hv with z|z
    ·rcases Yx.mp z with z|z
     ·exact .inl (Zd z)
     ·exact .inr (Yw.mp z)
    ·exact .inl (Zr z)
   rcases hv with z|rfl
   ·obtain⟨i,_,rfl⟩:=Yz.mp z;exact Bx
   ·exact jZ gx (by lia)
  ·exact hg y z
 have X4:cC (k+2) B=true:=by
  rw[hB];refine g_ (by rw[X_,X_];lia) λy hy=>?_;rcases Yk.mp hy with rfl|hy
  ·exact my
  rcases Yk.mp hy with rfl|z
  ·refine g_ (by rw[YO,X8];lia) λv hv=>?_;obtain⟨i,_,rfl⟩:=Yz.mp (Zr hv);exact Bx
  ·exact hg y z
 refine⟨s2,some (.tup (row.map U.int)),some (.int j),some x,[A,B,A,B,A,B,A,B],?_,h2,rfl,λy hy=>?_⟩
 ·unfold oA;simp only[Pzz,bg,Nat.reduceAdd,Nat.reduceSub,dX,iC,R8,hw,X8,e1,e2,a0,ex,fi,i9,c1,Nt,R9,d2,f1,f2,f3,←hA,←hB,f4,f5]
 ·simp only[Yk,YR,or_false] at hy;rcases hy with rfl|rfl|rfl|rfl|rfl|rfl|rfl|rfl<;>assumption
def PM:Cb (.int 1)=.ok (.int (-1)):=nr rfl
theorem Sa {s:U}{ps:List (List Int)}{L:List U}(h1:ps≠[])(X5:ps.length<=24)(hp:∀p∈ps,Sm p)(hl:L.length<=100)(hq:cC (k+3) q=true) :
  ∃(x6:Option U) (Ns:List U),oB [some s,some (.tup [.str "mix",.tup (ps.map aP),q]),some (.lst L),none,none,none,none]=.nx [some s,some (.tup [.str "mix",.tup (ps.map aP),q]),some (.lst (L++Ns)),none,none,none,x6]/\Ns.length=12/\∀x∈Ns,cC (k+4) x=true:=by
 have Qr:Yf=16777216:=rfl;obtain⟨os,rs,hps⟩:=ZX h1;have so:Sm os:=hp os (by rw[hps];exact Yb);have a0:lM (ps.map aP) 0=some (.tup (os.map U.int)):=by rw[hps];exact dX
 have ne:ps.map aP≠[]:=λz=>h1 (aaK.mp z);obtain⟨R25,hR⟩:∃A,A=(YZ 25 (ps.map aP)).flatten:=⟨_,rfl⟩;obtain⟨R24,hR4⟩:∃A,A=(YZ 24 [U.tup (os.map U.int)]).flatten:=⟨_,rfl⟩;obtain⟨C1,hC1⟩:∃A,A=U.tup [U.str "mix",U.tup R25,q]:=⟨_,rfl⟩;obtain⟨C2,hC2⟩:∃A,A=U.tup [U.str "mix",U.tup (ps.map aP++[U.tup (ju (os.map U.int) none (some (-1)))]),q]:=⟨_,rfl⟩;obtain⟨E1,hE1⟩:∃A,A=U.tup [U.str "mix",U.lst (ps.map aP),q]:=⟨_,rfl⟩;obtain⟨E2,hE2⟩:∃A,A=U.tup [U.str "mix",U.tup R24,q]:=⟨_,rfl⟩;have f1:rO (.tup (ps.map aP)) (.int 25)=.ok (.tup R25):=hR▸ET (n:=25) (by rw[X8];lia) (by decide) ne;have f2:rO (.tup [U.tup (os.map U.int)]) (.int 24)=.ok (.tup R24):=hR4▸ET (n:=24) (by rw[YA];decide) (by decide) (by simp);have f3:∀y:U,bM (.tup (ps.map aP)) (.tup [y])=.ok (.tup (ps.map aP++[y])):=λy=>by rw[kZ,hV (by rw[X8,YA];lia)]
 have f4:ou (.lst [C1,C2]) (.int 3)=.ok (.lst [C1,C2,C1,C2,C1,C2]):=y_ (us:=[C1,C2]) (n:=3) (by rw[X_,YA];decide) (by decide) rfl;have f5:ou (.lst [E1,E2]) (.int 3)=.ok (.lst [E1,E2,E1,E2,E1,E2]):=y_ (us:=[E1,E2]) (n:=3) (by rw[X_,YA];decide) (by decide) rfl;have f6:bM (.lst L) (.lst [C1,C2,C1,C2,C1,C2])=.ok (.lst (L++[C1,C2,C1,C2,C1,C2])):=by rw[qU,hV (by show L.length+6<=Yf;lia)]
 have f7:bM (.lst (L++[C1,C2,C1,C2,C1,C2])) (.lst [E1,E2,E1,E2,E1,E2])=.ok (.lst (L++[C1,C2,C1,C2,C1,C2,E1,E2,E1,E2,E1,E2])):=by
  rw[qU,hV (by rw[Yc];show L.length+6+6<=Yf;lia),YB];rfl
 have gm:∀y:U,cC (k+3) y=true->cC (k+4) (.tup [.str "mix",y,q])=true:=λy hy=>g_ (by simp) λx hx=>by
  simp only[Yk,YR,or_false] at hx;rcases hx with rfl|rfl|rfl
  ·exact my
  ·exact hy
  ·exact hq
 have rr:∀x∈ps.map aP,wI x=true/\cC (k+2) x=true:=λx hx=>by
  obtain⟨r,hr,rfl⟩:=Yz.mp hx;exact⟨C3 r,mf (by have:=(hp r hr).2;lia)⟩
 have g1:cC (k+4) C1=true:=by
  rw[hC1,hR];exact gm _ (tZ (n:=k+1) (by rw[List.length_flatten,List.map_replicate,ab3,X8];lia) λx hx=>rr x (EU hx))
 have g2:cC (k+4) C2=true:=by
  rw[hC2];refine gm _ (tZ (n:=k+1) (by rw[Yc,X8,YA];lia) λx hx=>?_);rcases Yx.mp hx with z|z
  ·exact rr x z
  ·rw[Yw.mp z];have lc:=kD (os.map U.int) none (some (-1));rw[X8] at lc;have l8:=so.2;refine⟨?_,g_ (by lia) λv hv=>?_⟩
   ·unfold wI;exact Yo.mpr λv hv=>by obtain⟨i,_,rfl⟩:=Yz.mp (Ei hv);rfl
   ·obtain⟨i,_,rfl⟩:=Yz.mp (Ei hv);exact Bx
 have g3:cC (k+4) E1=true:=by
  rw[hE1];exact gm _ (Yo.mpr λx hx=>(rr x hx).2)
 have g4:cC (k+4) E2=true:=by
  rw[hE2,hR4];exact gm _ (tZ (n:=k+1) (by rw[List.length_flatten,List.map_replicate,ab3,YA];lia) λx hx=>by
   rw[Yw.mp (EU hx)];exact⟨C3 os,mf (by have:=so.2;lia)⟩)
 refine⟨some (.tup (os.map U.int)),[C1,C2,C1,C2,C1,C2,E1,E2,E1,E2,E1,E2],?_,rfl,λy hy=>?_⟩
 ·unfold oB;simp only[Pzz,bg,Nat.reduceAdd,Nat.reduceSub,dX,iC,tq,d_ (bN _),m9,id,a0,PM,f1,f2,f3,←hC1,←hC2,←hE1,←hE2,f4,f5,f6,f7]
 ·simp only[Yk,YR,or_false] at hy;rcases hy with rfl|rfl|rfl|rfl|rfl|rfl|rfl|rfl|rfl|rfl|rfl|rfl<;>assumption
def EW {w:Str}{r:List U}(h:fN "mix" (.str w)=false):oB [x0,some (.tup (.str w::r)),x2,x3,x4,x5,x6]=.nx [x0,some (.tup (.str w::r)),x2,x3,x4,x5,x6]:=by
 unfold oB;simp only[Pzz,bg,Nat.reduceAdd,Nat.reduceSub,dX,d_ (bN _),h,id]
def EX {w:Str}{r:List U}(h:(("end":Str)==w||(("lay":Str)==w||(("look":Str)==w||false)))=false):oA [x0,some (.tup (.str w::r)),x2,x3,x4,x5,x6]=.nx [x0,some (.tup (.str w::r)),x2,x3,x4,x5,x6]:=by
 unfold oA;simp only[Pzz,bg,Nat.reduceAdd,Nat.reduceSub,dX,R8,h]
def rA {s:U}:eF [s,.tup us]=FQ (gZ [some s,some (.tup us),none,none,none,none,none]):=by
 rw[eF,Cq];rfl
def PN {ρ2:Ev}{x s':U}{ρ3:Ev}(h1:oA ρ=.nx ρ1)(h2:oB ρ1=.nx ρ2)(h3:oC ρ2=.rt x (some s'::ρ3)):FQ ((aO oA (aO oB oC)) ρ)=.ok (x,s'):=by
 rw[D8,h1,yf,D8,h2,yf,h3];rfl
def mm (us:List U):(vH us).length=22:=rfl
theorem rB {s:U}{w:Str}{row:List Int}{rest:List U}(hw:(("end":Str)==w||(("lay":Str)==w||(("look":Str)==w||false)))=true)(hm:fN "mix" (.str w)=false)(hs:jI s)(hr:Sm row)(BE:rest.length<=1)(hg:cC (k+2) (.tup (.str w::aP row::rest))=true) :
  ∃x s',eF [s,.tup (.str w::aP row::rest)]=.ok (x,s')/\cC (k+5) x=true/\jI s':=by
 have he:=(dJ hg).2.2;have lu:(U.str w::aP row::rest).length<=3:=by rw[X_,X_];lia
 obtain⟨s1,x3,x4,x5,Ns,e1,h1,ln,gn⟩:=R_ (k:=k) (s:=s) (w:=w) (row:=row) (rest:=rest) (L:=vH (.str w::aP row::rest)) hw hs hr (by rw[mm];decide) (by lia) λx hx=>he x (Ya _ (Ya _ hx));obtain⟨x,s2,ρ,e2,hx,h2⟩:=C6 (s:=s1) (L:=vH (.str w::aP row::rest)++Ns) (x1:=some (.tup (.str w::aP row::rest))) (x3:=x3) (x4:=x4) (x5:=x5) (x6:=none) h1 (λz=>by have:=congrArg aai z;rw[Yc,mm] at this;have e:(([]:List U).length)=0:=rfl;lia) (by rw[Yc,mm];lia);refine⟨x,s2,?_,?_,h2⟩
 ·rw[rA,C5 lu];exact PN e1 (EW hm) e2
 ·rcases Yx.mp hx with z|z
  ·exact C4 lu hg x z
  ·exact jZ (gn x z) (by lia)
theorem vI {s:U}(h:cP (d+1) u)(hs:jI s):∃x s',eF [s,u]=.ok (x,s')/\cC (3*d+5) x=true/\jI s':=by
 have g:=kJ h;unfold cP at h;rcases h with⟨cs,rfl,hc⟩|rfl|⟨p,q,rfl,hp,hq⟩|⟨ps,q,rfl,hp,hq⟩|⟨pl,ws,rfl,hp,h1,h5,hw⟩
 ·exact rB (k:=3*d) (by decide) (by decide) hs hc (by simp) g
 ·have lu:([U.str "again"]:List U).length<=3:=by decide
  obtain⟨x,s2,ρ,e2,hx,h2⟩:=C6 (s:=s) (L:=vH [.str "again"]) (x1:=some (.tup [.str "again"])) (x3:=none) (x4:=none) (x5:=none) (x6:=none) hs (by unfold vH;simp) (by rw[mm];decide);refine⟨x,s2,?_,C4 (k:=3*d) lu g x hx,h2⟩;rw[rA,C5 lu];exact PN (EX (by decide)) (EW (by decide)) e2
 ·exact rB (k:=3*d) (by decide) (by decide) hs hp (by simp) g
 ·cases d with
  |zero=>cases hq
  |succ d=>
   have lu:([U.str "mix",U.tup (ps.map aP),q]:List U).length<=3:=Yl 3;have gq:=kJ hq;obtain⟨x6,Ns,e1,ln,gn⟩:=Sa (k:=3*d) (s:=s) (ps:=ps) (q:=q) (L:=vH [.str "mix",.tup (ps.map aP),q]) hp.1 hp.2.1 hp.2.2 (by rw[mm];decide) (jZ gq (by lia));obtain⟨x,s2,ρ,e2,hx,h2⟩:=C6 (s:=s) (L:=vH [.str "mix",.tup (ps.map aP),q]++Ns) (x1:=some (.tup [.str "mix",.tup (ps.map aP),q])) (x3:=none) (x4:=none) (x5:=none) (x6:=x6) hs (λz=>by have:=congrArg aai z;rw[Yc,mm] at this;have e:(([]:List U).length)=0:=rfl;lia) (by rw[Yc,mm];lia);refine⟨x,s2,?_,?_,h2⟩
   ·rw[rA,C5 lu];exact PN (EX (by decide)) e1 e2
   ·rcases Yx.mp hx with z|z
    ·exact C4 (k:=3*(d+1)) lu g x z
    ·exact jZ (gn x z) (by lia)
 ·exact rB (k:=3*d) (by decide) (by decide) hs hp (by simp) g
def za (n:Nat):kQ 4 (eA n)=eB n:=rfl
def Sb:ju us none (some 2)=us.take 2:=fi us 2
def W2:((("lay":Str)=="again"||(("mix":Str)=="again"||false))=false)/\((("lay":Str)=="end"||(("mix":Str)=="end"||false))=false)/\((("lay":Str)=="look"||(("mix":Str)=="look"||false))=false)/\((("lay":Str)=="lay"||(("mix":Str)=="lay"||false))=true)/\((("lay":Str)=="mix"||(("mix":Str)=="mix"||false))=true):=by decide
def Gg (d n:Nat)(u:U):Prop:=∀s,jI s->∃x s',eB n [s,u]=.ok (x,s')/\cC (3*d+5) x=true/\jI s'
theorem EY {w:Str}(hw:(("lay":Str)==w||(("mix":Str)==w||false))=true)(hl:fN "look" (.str w)=false)(hu:cP (d+2) (.tup [.str w,p,q]))(ih:Gg d n q):Gg (d+1) (n+1) (.tup [.str w,p,q]):=λs hs=>by
 have tk:([U.str w,p,q]:List U).take 2=[.str w,p]:=rfl;have ad:∀y:U,bM (.tup [.str w,p]) (.tup [y])=.ok (.tup [.str w,p,y]):=λy=>by rw[kZ,hV (by show 2+1<=Yf;decide)];rfl
 have g:=kJ hu;obtain⟨r,s1,e1,r0,r1,h1⟩:=cJ (m:=3) hs (by decide) (by decide);rw[eB,eA,za];by_cases c:0<r
 ·obtain⟨y,s2,e2,gy,h2⟩:=ih s1 h1;refine⟨.tup [.str w,p,y],s2,?_,?_,h2⟩
  ·simp only[Pzz,bg,Nat.reduceAdd,Nat.reduceSub,dX,tq,JI,hw,e1,nW,hG c,Sb,tk,e2,ad]
  ·have gp:=(dJ g).2.2 p (Ya _ Yb);exact g_ (n:=3*d+7) (by simp) λx hx=>by
    simp only[Yk,YR,or_false] at hx;rcases hx with rfl|rfl|rfl
    ·exact my
    ·exact jZ gp (by lia)
    ·exact jZ gy (by lia)
 ·obtain⟨x,s2,e2,gx,h2⟩:=vI hu h1;refine⟨x,s2,?_,gx,h2⟩;simp only[Pzz,bg,Nat.reduceAdd,Nat.reduceSub,dX,tq,JI,hw,e1,nW,hJ c,d_ (bN _),hl,id,e2]
theorem EZ {w:Str}{r:List U}(hw:(("lay":Str)==w||(("mix":Str)==w||false))=false)(hl:fN "look" (.str w)=false)(hu:cP (d+1) (.tup (.str w::r))):Gg d (n+1) (.tup (.str w::r)):=λs hs=>by
 obtain⟨x,s2,e2,gx,h2⟩:=vI hu hs;refine⟨x,s2,?_,gx,h2⟩;rw[eB,eA,za];simp only[Pzz,bg,Nat.reduceAdd,Nat.reduceSub,dX,JI,hw,d_ (bN _),hl,id,e2]
theorem Gh {ws:List (List Int×U)}(hu:cP (d+2) (.tup [.str "look",aP pl,.tup (ws.map kj)]))(hp:Sm pl)(h1:ws≠[])(h5:ws.length<=5)(hw:∀w∈ws,w.1.length<=8/\cP (d+1) w.2)(ih:∀w∈ws,Gg d n w.2):Gg (d+1) (n+1) (.tup [.str "look",aP pl,.tup (ws.map kj)]):=λs hs=>by
 have Qr:Yf=16777216:=rfl;have tk:([U.str "look",aP pl,.tup (ws.map kj)]:List U).take 2=[.str "look",aP pl]:=rfl;have g:=kJ hu;obtain⟨r,s1,e1,r0,r1,kg⟩:=cJ (m:=3) hs (by decide) (by decide);rw[eB,eA,za];by_cases c:0<r
 ·have lp:=ZF.mpr h1;obtain⟨t,s2,e2,t0,t1,dG⟩:=cJ (m:=(ws.length:Nat)) kg (by lia) (by lia);obtain⟨j,rfl⟩:∃j:Nat,t=j:=⟨t.toNat,by lia⟩;have hj:j<ws.length:=by lia
  obtain⟨wj,hwj⟩:∃w,w=ws[j]:=⟨_,rfl⟩;have mj:wj∈ws:=by rw[hwj];exact Za hj
  have aj:lM (ws.map kj) (j:Int)=some (.tup [.tup (wj.1.map U.int),wj.2]):=by rw[mR,YL,X7 hj,←hwj];rfl
  obtain⟨y,s3,e3,gy,hs3⟩:=ih wj mj s2 dG;have c1:((j:Int)+1)=((j+1:Nat):Int):=by lia
  have f1:∀v:U,bM (.tup ((ws.map kj).take j)) (.tup [v])=.ok (.tup ((ws.map kj).take j++[v])):=λv=>by rw[kZ,hV (by rw[Yy,X8,YA];lia)]
  have f2:∀v:U,bM (.tup ((ws.map kj).take j++[v])) (.tup ((ws.map kj).drop (j+1)))=.ok (.tup ((ws.map kj).take j++[v]++(ws.map kj).drop (j+1))):=λv=>by rw[kZ,hV (by rw[Yc,Yy,YO,X8,YA];lia)]
  have f3:∀v:U,bM (.tup [.str "look",aP pl]) (.tup [v])=.ok (.tup [.str "look",aP pl,v]):=λv=>by rw[kZ,hV (by show 2+1<=Yf;decide)];rfl
  refine⟨.tup [.str "look",aP pl,.tup ((ws.map kj).take j++[.tup [.tup (wj.1.map U.int),y]]++(ws.map kj).drop (j+1))],s3,?_,?_,hs3⟩
  ·simp only[Pzz,bg,Nat.reduceAdd,Nat.reduceSub,dX,iC,tq,JI,W2,m9,d_ (bN _),id,e1,nW,hG c,X8,e2,aj,e3,Sb,tk,fi,i9,c1,f1,f2,f3]
  ·have gp:=(dJ g).2.2 (aP pl) (Ya _ Yb);have gw:=(dJ g).2.2 (.tup (ws.map kj)) (Ya _ (Ya _ Yb));have ge:=(dJ (n:=3*d+3) gw).2.2;have gn:cC (3*d+7) (.tup ((ws.map kj).take j++[.tup [.tup (wj.1.map U.int),y]]++(ws.map kj).drop (j+1)))=true:=by
    refine g_ (n:=3*d+6) (by rw[Yc,Yc,Yy,YO,X8,YA];lia) λv hv=>?_;have hv:v∈ws.map kj\/v=.tup [.tup (wj.1.map U.int),y]:=by
     rcases Yx.mp hv with z|z
     ·rcases Yx.mp z with z|z
      ·exact .inl (Zd z)
      ·exact .inr (Yw.mp z)
     ·exact .inl (Zr z)
    rcases hv with z|rfl
    ·exact jZ (ge v z) (by lia)
    ·exact g_ (n:=3*d+5) (by simp) λx hx=>by
      simp only[Yk,YR,or_false] at hx;rcases hx with rfl|rfl
      ·exact mf (n:=3*d+4) (by have:=(hw wj mj).1;lia)
      ·exact gy
   exact g_ (n:=3*d+7) (by simp) λx hx=>by
    simp only[Yk,YR,or_false] at hx;rcases hx with rfl|rfl|rfl
    ·exact my
    ·exact jZ gp (by lia)
    ·exact gn
 ·obtain⟨x,s2,e2,gx,h2⟩:=vI hu kg;refine⟨x,s2,?_,gx,h2⟩;simp only[Pzz,bg,Nat.reduceAdd,Nat.reduceSub,dX,JI,W2,m9,d_ (bN _),id,e1,nW,hJ c,e2]
theorem qp:∀{d n:Nat} {u:U},cP (d+1) u->d<n->Gg d n u
 |d,0,_,_,h=>by lia
 |d,n+1,u,hu,hn=>by
  have h:=hu;unfold cP at h;rcases h with⟨cs,rfl,hc⟩|rfl|⟨p,q,rfl,hp,hq⟩|⟨ps,q,rfl,hp,hq⟩|⟨pl,ws,rfl,hp,h1,h5,hw⟩
  ·exact EZ (by decide) (by decide) hu
  ·exact EZ (by decide) (by decide) hu
  ·cases d with
   |zero=>cases hq
   |succ d=>exact EY (by decide) (by decide) hu (qp hq (by lia))
  ·cases d with
   |zero=>cases hq
   |succ d=>exact EY (by decide) (by decide) hu (qp hq (by lia))
  ·cases d with
   |zero=>obtain⟨w,BD⟩:=aao _ h1;cases (hw w BD).2
   |succ d=>exact Gh hu hp h1 h5 hw λw BD=>qp (hw w BD).2 (by lia)
noncomputable def n6:Nat->U
 |0=>.tup [.str "end",.tup [.int 0]]
 |n+1=>.tup [.str "lay",.tup [.int 0],n6 n]
theorem E3:∀n,cC (n+2) (n6 n)=true
 |0=>rfl
 |n+1=>g_ (n:=n+2) (by simp) λx hx=>by
  simp only[Yk,YR,or_false] at hx;rcases hx with rfl|rfl|rfl
  ·exact my
  ·exact mf (l:=[0]) (n:=n+1) (by decide)
  ·exact E3 n
noncomputable def tv (u:U):U:=.tup [.str "lay",.tup [.int 0],u]
noncomputable def j1 (i:Int)(u:U):U:=.tup [.tup [.int i],u]
noncomputable def JK (us:List U):U:=.tup [.str "look",.tup [.int 0],.tup us]
noncomputable def JL:U:=.tup [.str "again"]
noncomputable def Sd:U:=JK [j1 0 (n6 0),j1 1 JL,j1 2 JL,j1 3 JL,j1 4 JL,j1 5 JL,j1 6 JL,j1 7 JL,j1 8 JL,j1 9 JL]
noncomputable def vJ:U:=JK [j1 0 (n6 4),j1 1 (n6 4),j1 2 (n6 4),j1 3 (n6 4),j1 4 (n6 4),j1 5 (n6 4),j1 6 (n6 4),j1 7 (n6 4),j1 8 (n6 4),j1 9 Sd]
noncomputable def qr:U:=JK [j1 0 vJ,j1 1 JL,j1 2 JL]
def Se {s P:U}{o:Option U}:FQ (bG [some s,some P,o,none,none,none,none])=.ok (.lst [P,vJ,tv vJ,qr,tv qr,tv (tv qr)],s):=by kernel_rfl
def JM:cC 14 vJ=true/\cC 14 (tv vJ)=true/\cC 14 qr=true/\cC 14 (tv qr)=true/\cC 14 (tv (tv qr))=true:=⟨by kernel_rfl,by kernel_rfl,by kernel_rfl,by kernel_rfl,by kernel_rfl⟩
theorem JN {s:U}(hs:jI s):∃(us:List U) (s':U),jy [s]=.ok (.lst us,s')/\us.length=6/\(∀u∈us,cC 14 u=true)/\jI s':=by
 obtain⟨r,s1,e1,r0,r1,h1⟩:=cJ (m:=3) hs (by decide) (by decide);obtain⟨z,ez,hz⟩:∃z:Nat,lM [U.int 11,U.int 12,U.int 3] r=some (.int (z:Nat))/\z<=12:=by
  have:r=0\/r=1\/r=2:=by lia
  rcases this with rfl|rfl|rfl
  ·exact⟨11,rfl,by decide⟩
  ·exact⟨12,rfl,by decide⟩
  ·exact⟨3,rfl,by decide⟩
 obtain⟨ρ',e,o,rfl⟩:=fw (us:=aX 0 z) (sg:=df 2) (s:=bF) (λi ρ=>∃o,ρ=[some s1,some (n6 i),o,none,none,none,none])
  (λi u ρ hu h00=>by
   obtain⟨o,hr⟩:=h00;subst hr;refine⟨_,_,rfl,.inl ?_,some u,rfl⟩;unfold bF;simp only[Pzz,bg,Nat.reduceAdd,Nat.reduceSub,Zb,YY];rfl) (ρ:=[some s1,some (n6 0),none,none,none,none,none]) ⟨none,rfl⟩
 rw[bD] at e;have l0:n6 0=.tup [.str "end",.tup [.int 0]]:=rfl;rw[l0] at e;refine⟨[n6 z,vJ,tv vJ,qr,tv qr,tv (tv qr)],s1,?_,rfl,?_,h1⟩
 ·rw[jy,l9];simp only[Pzz,bg,Nat.reduceAdd,Nat.reduceSub,e1,ez,kY z (by lia),e,Se]
 ·obtain⟨g1,g2,g3,g4,g5⟩:=JM;intro u hu;simp only[Yk,YR,or_false] at hu;rcases hu with rfl|rfl|rfl|rfl|rfl|rfl
  ·exact jZ (E3 z) (by lia)
  ·exact g1
  ·exact g2
  ·exact g3
  ·exact g4
  ·exact g5
def Sf:(Yq "end"==Yq "end")=true/\(Yq "end"==Yq "again")=false/\(Yq "end"==Yq "lay")=false/\(Yq "end"==Yq "mix")=false/\(Yq "end"==Yq "look")=false/\(Yq "again"==Yq "end")=false/\(Yq "again"==Yq "again")=true/\(Yq "again"==Yq "lay")=false/\(Yq "again"==Yq "mix")=false/\(Yq "again"==Yq "look")=false/\(Yq "lay"==Yq "end")=false/\(Yq "lay"==Yq "again")=false/\(Yq "lay"==Yq "lay")=true/\(Yq "lay"==Yq "mix")=false/\(Yq "lay"==Yq "look")=false/\(Yq "mix"==Yq "end")=false/\(Yq "mix"==Yq "again")=false/\(Yq "mix"==Yq "lay")=false/\(Yq "mix"==Yq "mix")=true/\(Yq "mix"==Yq "look")=false/\(Yq "look"==Yq "end")=false/\(Yq "look"==Yq "again")=false/\(Yq "look"==Yq "lay")=false/\(Yq "look"==Yq "mix")=false/\(Yq "look"==Yq "look")=true:=by decide
theorem By {a b c:Str}:xF id (.str a) (.tup [.str b,.str c])=.ok (.bl (b==a||c==a)):=by
 rw[R7 (dx:=.str a) (ds:=[.str b,.str c]) (by simp[fu]) (by simp[d9,fu]) (by
  intro d h;simp only[Yk,YR,or_false] at h;rcases h with rfl|rfl<;>(unfold cT;lia))]
 simp[iP]
def L1 (n:Nat):fB .S 1 (f9 n)=fg n:=rfl
theorem JO {B:Int}:∀{zs:List Int},(∀z∈zs,0<=z/\z<=B)->0<=zs.sum/\zs.sum<=zs.length*B
 | [],_=>by simp
 |z::zs,h=>by
  have:=JO λy hy=>h y (Ya _ hy);have:=h z Yb;rw[aa5,X_,Int.natCast_add,Int.add_mul];lia
theorem JP {α β:Type}{f:U->R (Option U)}{c:α->U}{g:β->U}{P:β->Prop}:∀{xs:List α},(∀x∈xs,∃y,f (c x)=.ok (some (g y))/\P y)->∃ys:List β,lr f (xs.map c)=.ok (ys.map g)/\ys.length=xs.length/\∀y∈ys,P y
 | [],_=>⟨[],rfl,rfl,λy h=>by cases h⟩
 |x::xs,h=>by
  obtain⟨y,h1,h2⟩:=h x Yb;obtain⟨ys,h3,h4,h5⟩:=JP (P:=P) (g:=g) λz hz=>h z (Ya _ hz);refine⟨y::ys,?_,by rw[X_,X_,h4],λz hz=>(Yk.mp hz).elim (λe=>e▸h2) (h5 z)⟩;rw[Yp,Yp];unfold lr;rw[h1];show (lr f (xs.map c)).bind _=_;rw[h3];rfl
theorem t6:∀{d n:Nat} {u:U},cP d u->d<=n->d<=6->∃z:Int,fg n [u]=.ok (.int z)/\0<=z/\z<=10 ^ d
 |0,_,_,h,_,_=>by cases h
 |d+1,0,_,_,h,_=>by lia
 |d+1,n+1,u,h,hn,hd=>by
  have p1:(1:Int)<=10 ^ d:=by have:(0:Int)<10 ^ d:=Int.pow_pos (by decide);lia
  have p2:(10:Int) ^ (d+1)=10 ^ d*10:=Int.pow_succ _ _;have p3:(10:Int) ^ d<=100000:=by
   have:d=0\/d=1\/d=2\/d=3\/d=4\/d=5:=by lia
   rcases this with rfl|rfl|rfl|rfl|rfl|rfl<;>decide
  rw[fg,f9,L1,p2];unfold cP at h;rcases h with⟨cs,rfl,_⟩|rfl|⟨p,q,rfl,_,hq⟩|⟨ps,q,rfl,_,hq⟩|⟨pl,ws,rfl,_,h1,h5,hw⟩
  ·exact⟨1,by simp only[Pzz,bg,Nat.reduceAdd,Nat.reduceSub,dX,By,Sf,Bool.or_self,lY,id],by lia,by lia⟩
  ·exact⟨1,by simp only[Pzz,bg,Nat.reduceAdd,Nat.reduceSub,dX,By,Sf,Bool.or_self,lY,id],by lia,by lia⟩
  ·obtain⟨z,e,z0,z1⟩:=t6 (n:=n) hq (by lia) (by lia);exact⟨1+z,by simp only[Pzz,bg,Nat.reduceAdd,Nat.reduceSub,dX,tq,By,Sf,Bool.true_or,lY,id,e],by lia,by lia⟩
  ·obtain⟨z,e,z0,z1⟩:=t6 (n:=n) hq (by lia) (by lia);exact⟨1+z,by simp only[Pzz,bg,Nat.reduceAdd,Nat.reduceSub,dX,tq,By,Sf,Bool.or_true,lY,id,e],by lia,by lia⟩
  ·obtain⟨zs,e,lz,hz⟩:=JP (f:=nq [none] (df 0) cb (iE 1 (fg n) (ae (zqb 0 1) ak)) [some (.tup [.str "look",aP pl,.tup (ws.map kj)])]) (c:=kj) (g:=U.int) (P:=λz=>0<=z/\z<=10 ^ d) (xs:=ws) λw BD=>by
    obtain⟨z,e,z0,z1⟩:=t6 (n:=n) (hw w BD).2 (by lia) (by lia);refine⟨z,?_,z0,z1⟩;unfold kj;simp only[Pzz,bg,Nat.reduceAdd,Nat.reduceSub,iC,e]
   obtain⟨s0,s1⟩:=JO hz;have sm:q_ zs=true:=by
    unfold q_;rw[Ys];exact⟨hG (by lia),Yo.mpr λz h=>hG (by have:=hz z h;lia)⟩
   have ps:p_ [.lst (zs.map U.int)]=.ok (.int zs.sum):=by
    unfold p_;dsimp only;rw[jJ];dsimp only;rw[hV sm]
   refine⟨1+zs.sum,?_,by lia,?_⟩
   ·simp only[Pzz,bg,Nat.reduceAdd,Nat.reduceSub,dX,tq,By,Sf,Bool.or_self,lY,id,e,ps]
   ·have:(zs.length:Int)*10 ^ d<=5*10 ^ d:=Int.mul_le_mul_of_nonneg_right (by lia) (by lia);lia
theorem JQ {s:U}{b:Bool}(hb:F7 base m)(hr:Pq base rows)(hs:jI s):∃u s',gY [s,.lst (rows.map aP),.int 4,.bl b]=.ok (u,s')/\cP 4 u/\jI s':=by
 obtain⟨rows',e1,hr',_⟩:=o7 hb hr.1;obtain⟨u,s1,e2,hu,kg⟩:=vD hb 3 1 rows' s b hr' hs;have e2:bU 8 [s,.lst (rows'.map aP),.int 4,.bl b]=.ok (u,s1):=e2;obtain⟨z,e3,_,_⟩:=t6 (n:=20) hu (by decide) (by decide);by_cases c:z<61
 ·refine⟨u,s1,?_,hu,kg⟩;simp only[Pzz,bg,Nat.reduceAdd,Nat.reduceSub,gY,jx,e1,e2,e3,hG c]
 ·refine⟨.tup [.str "end",aP [0]],s1,?_,vA ⟨by simp,by decide⟩,kg⟩;simp only[Pzz,bg,Nat.reduceAdd,Nat.reduceSub,gY,jx,e1,e2,e3,hJ c,i_]
theorem Sg (h0:0<m)(hm:m<=10)(g:cC 14 u=true):∃y6,bS [x0,x1,x2,some (.int m),x4,some u,x6]=.nx [x0,x1,x2,some (.int m),x4,some u,y6]:=by
 have c1:((m:Int)+1)=((m+1:Nat):Int):=by lia
 obtain⟨ρ',e,y6,rfl⟩:=fw (us:=[U.int m,.int 1,.int ((m+1:Nat):Int)]) (sg:=df 6) (s:=bQ) (λ_ ρ=>∃y6,ρ=[x0,x1,x2,some (.int m),x4,some u,y6])
  (λi v ρ hv h00=>by
   obtain⟨y6,hr⟩:=h00;subst hr;have Qs:=Y6 hv;obtain⟨k,rfl,k0,k1⟩:∃k:Nat,v=.int k/\0<k/\k<=1000:=by
    simp only[Yk,YR,or_false] at Qs;rcases Qs with rfl|rfl|rfl
    ·exact⟨m,rfl,h0,by lia⟩
    ·exact⟨1,rfl,by decide,by decide⟩
    ·exact⟨m+1,rfl,by lia,by lia⟩
   refine⟨_,_,rfl,.inl ?_,some (.int k),rfl⟩;unfold bQ;simp only[Pzz,bg,Nat.reduceAdd,Nat.reduceSub,Zb,YY,JH k0 k1 (by decide) g]) (ρ:=[x0,x1,x2,some (.int m),x4,some u,x6]) ⟨_,rfl⟩
 refine⟨y6,?_⟩;unfold bS;simp only[Pzz,bg,Nat.reduceAdd,Nat.reduceSub,c1,e]
theorem Sh:∃a b c d e:Option U,bL [some (.scr (ns.map .int)),some (.int i),x2,x3,x4,x5,x6]=.nx [some (.scr (ns.map .int)),some (.int i),a,b,c,d,e]:=by
 obtain⟨s0,e0,h0⟩:=Jh (us:=[]) (u:=.scr (ns.map .int)) (ns:=ns) (k:=i) (.inl rfl) (by lia);obtain⟨t,s1,e1,t0,t1,h1⟩:=cJ (m:=6) h0 (by decide) (by decide);obtain⟨m,hm⟩:∃m:Nat,1+t=m:=⟨(1+t).toNat,by lia⟩;obtain⟨ys,s2,e2,ly,base,hy,hb,dG⟩:=lC (G:=Je) (js:=[none,some 2,some 3]) (sg:=df 0) (ge:=iY 2 1 iK (ae (ai 2) ak))
  (λx:U=>[some (.scr (ns.map .int)),some (.int i),some x,some (.int m),x4,x5,x6]) 2 (λys x=>∃base:List (List Int),ys=base.map aP/\(∀b∈base,b.length=m)/\jI x)
  (λdone u x hd h00=>by
   obtain⟨base,hr,hb,hx⟩:=h00;obtain⟨row,x',f1,f2,_,vQ⟩:=Pp (m:=m) hx (by lia);refine⟨[some u,some x,some (.int m)],aP row,[some u,some x',some (.int m)],x',rfl,?_,rfl,base++[row],by rw[hr,YT];rfl,?_,vQ⟩
   ·simp only[Pzz,bg,Nat.reduceAdd,Nat.reduceSub,f1,i_]
   ·intro b XI;rcases Yx.mp XI with y|y
    ·exact hb b y
    ·rw[Yw.mp y];exact f2) (aX 0 2) [] s1 (by rw[bD];simp) ⟨[],rfl,(λb h=>by cases h),h1⟩
 rw[Zx] at hy;subst hy;rw[bD,X8] at ly;have bas:F7 base m:=⟨by lia,by lia,by lia,hb⟩;have XJ:Pq base base:=⟨⟨λy=>by rw[y] at ly;have e:(([]:List (List Int)).length)=0:=rfl;lia,λr hr=>⟨r,hr,Z3 _⟩⟩,by lia⟩;obtain⟨P,s3,e3,hP,h3⟩:=JQ (b:=true) bas XJ dG;obtain⟨B1,s4,e4,g4,h4⟩:=qp (n:=20) hP (by decide) s3 h3;obtain⟨B2,s5,e5,g5,h5⟩:=qp (n:=20) hP (by decide) s4 h4;obtain⟨us,s6,e6,l6,g6,h6⟩:=JN h5;have gP:cC 14 P=true:=jZ (kJ hP) (by decide);have f1:bM (.lst [P,B1,B2,.non,.tup []]) (.lst us)=.ok (.lst ([P,B1,B2,.non,.tup []]++us)):=by rw[qU,hV (by show 5+us.length<=Yf;rw[l6];decide)]
 obtain⟨L,hL⟩:∃L,L=[P,B1,B2,.non,.tup []]++us:=⟨_,rfl⟩;have gL:∀u∈L,cC 14 u=true:=λu hu=>by
  rw[hL] at hu;rcases Yx.mp hu with z|z
  ·simp only[Yk,YR,or_false] at z;rcases z with rfl|rfl|rfl|rfl|rfl
   ·exact gP
   ·exact g4
   ·exact g5
   ·rfl
   ·rfl
  ·exact g6 u z
 rw[←hL] at f1;obtain⟨ρ',e7,y5,y6,rfl⟩:=fw (us:=L) (sg:=df 5) (s:=bS) (λ_ ρ=>∃y5 y6,ρ=[some (.scr (ns.map .int)),some (.int i),some s6,some (.int m),some P,y5,y6])
  (λj u ρ hu h00=>by
   obtain⟨y5,y6,hr⟩:=h00;subst hr;obtain⟨z6,q⟩:=Sg (m:=m) (by lia) (by lia) (x0:=some (.scr (ns.map .int))) (x1:=some (.int i)) (x2:=some s6) (x4:=some P) (x6:=y6) (gL u (Y6 hu));exact⟨_,_,rfl,.inl q,_,_,rfl⟩) (ρ:=[some (.scr (ns.map .int)),some (.int i),some s6,some (.int m),some P,x5,x6]) ⟨_,_,rfl⟩
 refine⟨some s6,some (.int m),some P,y5,y6,?_⟩;have r2:∀ρ,Li [.int 2] ρ=.ok (aX 0 2,ρ):=λρ=>kY 2 (by decide);unfold bL;simp only[Pzz,bg,Nat.reduceAdd,Nat.reduceSub,e0,e1,hm,r2,e2,e3,e4,e5,e6,f1,e7]
theorem pure_law (ns:List Int)(hl:ns.length<=63):AR [.scr (ns.map .int)]=.ok (.bl true):=by
 obtain⟨z,hz⟩:∃z:Nat,(if (if (12:Int)<(((ns.map U.int).length:Nat):Int) then 12 else (((ns.map U.int).length:Nat):Int))>1 then (if (12:Int)<(((ns.map U.int).length:Nat):Int) then 12 else (((ns.map U.int).length:Nat):Int)) else 1)=z:=⟨(if (if (12:Int)<(((ns.map U.int).length:Nat):Int) then 12 else (((ns.map U.int).length:Nat):Int))>1 then (if (12:Int)<(((ns.map U.int).length:Nat):Int) then 12 else (((ns.map U.int).length:Nat):Int)) else 1).toNat,by split<;>(try split)<;>lia⟩;have zb:z<=1000:=by split at hz<;>(try split at hz)<;>lia
 obtain⟨ρ',e,a,b,c,d,e',f,rfl⟩:=fw (us:=aX 0 z) (sg:=df 1) (s:=bL) (λ_ ρ=>∃a b c d e f:Option U,ρ=[some (.scr (ns.map .int)),a,b,c,d,e,f])
  (λi u ρ hu h00=>by
   obtain⟨a,b,c,d,e,f,hr⟩:=h00;subst hr;have hi:i<z:=by
    rcases aaO i z with y|y
    ·exact y
    ·rw[Z2.mpr (by rw[bD];exact y)] at hu;cases hu
   obtain rfl:u=.int i:=by
    rw[qj,YL,aa4 hi] at hu;cases hu;rfl
   obtain⟨a1,b1,c1,d1,e1,q⟩:=Sh (ns:=ns) (i:=i) (x2:=b) (x3:=c) (x4:=d) (x5:=e) (x6:=f);exact⟨_,_,rfl,.inl q,_,_,_,_,_,_,rfl⟩)
  (ρ:=[some (.scr (ns.map .int)),none,none,none,none,none,none]) ⟨_,_,_,_,_,_,rfl⟩
 unfold AR Jf;simp only[Pzz,bg,Nat.reduceAdd,Nat.reduceSub,hz,kY z (by lia),e]
def walk {q:aa9}{d:DefRec}{K:Params->Ye}(Sn:d.params.defaults=[])(hY:∀(w:abc) (h:aaX),YP w h->(K w.params).In h)(F:∀(w:abc) (mg:Str->Option Yj) (fa:YG) (h:aaX),(K w.params).In h->h.Ns Y2 mg->mg d.name=some (.ref fa)->
   ∃fd:acu,(∀(s:Yv) (u:Yj),BindsTo s fd ⟨[u],[]⟩ [("script",u)])/\∀base:aaX,(K w.params).In base->base.Ns Y2 mg->nQ PySem.Challenge.rw_hushcards_k21_plans_looked_at.prog w (K w.params) mg base zw 29 fa fd ["script"] (zN (K w.params))) :
  PySem.W.WalkO q loose XP YP PySem.Challenge.rw_hushcards_k21_plans_looked_at.row.toRowW d [] (λf vs=>PySem.call f vs):=
 L2.walk_of (l:=PySem.Challenge.rw_hushcards_k21_plans_looked_at) (n:=63) (k:=29) (x:="script") (CX:=λ_=>zw) (sp:=λw=>zN (K w.params)) rfl (by decide) Sn ⟨rfl,by decide,by decide⟩ hY F (λ_ _ a ns hl hO hS=>⟨a,ns,rfl,OJ hO hS,hl,λ_=>rfl⟩) λ_ _ _ _ _ z=>z
end Hc
open PySem PySem.W PyProof.Rows
set_option maxRecDepth 100000 in
set_option maxHeartbeats 0 in
theorem PySem.Challenge.cw_hushcards_k21_plans_looked_at_holds : PySem.Challenge.rw_hushcards_k21_plans_looked_at.Holds := by
 w_on
 refine PySem.W.holds_law (by decide+kernel) λVg=>?_;refine' PySem.W.holds_open Hc.left (PySem.W.Hook.of _) (PySem.W.Hook.keeps _) (XP:=PySem.W.XL Hc.vw [])
  (λs e=>PySem.W.xl_of s (Bool.and_eq_true_iff.mp e).1) PySem.W.XL.keeps ?d ?t ?k
  (λs e=>PySem.W.recFacts_of (Bool.and_eq_true_iff.mp e).2) ?w Vg ?g ⟨rfl,rfl,rfl,rfl,rfl,by decide+kernel⟩ ?hw ?hc
 case d=>rfl
 case t=>rfl
 case k=>rfl
 case w=>rfl
 case g=>decide+kernel
 case hw=>w_witness2
 show PySem.W.WalkO Hc.vw [] (PySem.W.XL Hc.vw []) (PySem.W.InK Hc.Kf) _ _ _ _
 k_fill
 refine Hc.walk rfl (λw h Y=>Y) ?F
 case F=>
  intro w mg fa h KX G So;refine' Hc.all_mk KX G So ?_ ?_ ?_ ?_ ?_ ?_ ?_ ?_ ?_ ?_ ?_ ?_ ?_ ?_ ?_ ?_ ?_ ?_ ?_ ?_ ?_ ?_ ?_ ?_ ?_ ?_ ?_ ?_ ?_ ?_ ?_ ?_ ?_ ?_ ?_ ?_ ?_ ?_ ?_ ?_ ?_ ?_ ?_ ?_ ?_ ?_ ?_ ?_ ?_ ?_ ?_ ?_ Hc.pure_law
  all_goals first|k_is|exact .mk (by k_is) (by k_is) (by k_is) (by k_is)|skip