import PyProof.Rows.All
import Wide.All
import OpenK.AllK
import Wide.FinOn
import Lean
import PyProof.EqAt
import PyProof.EqKinds
import PyProof.TupleCall
import PyProof.NeKinds
import PyProof.TupleKey
import PyProof.DictRoadsH
import PyProof.ZipIter
import PyProof.WalksMore
import KE.KTryMore
import PyProof.Rows.TopTwo
import PyProof.NsDelKeeps
import KE.RegKTryMore
import KE.RegKIsAll
import PySem.Challenge.RW_hushcards_k15_cuts_and_piles
section
set_option Elab.async false
set_option linter.all false
set_option maxRecDepth 100000
/-! THE HAND LAYER, for ints, bools, texts, own classes, LISTS and tuples (index, slices, in, append, pop ..), calls, loops. Paste it whole ahead of your own text; what your proof does not reach may be deleted. -/
namespace L2
open PySem PySem.Spec PyProof.Rows
/-- a key: an int or a str -/
abbrev Key := Sum Int Str
def keyIs : Key → Value → Bool
  | .inl k, v => Value.isInt k v
  | .inr x, v => Value.isStrOf x v
def keyH (w : World) : Key → Int
  | .inl k => hashInt k
  | .inr x => hashStr w x
theorem keyIs_shape : ∀ {k : Key} {v : Value}, keyIs k v = true → (∃ i t, k = Sum.inl i ∧ v = Value.int i t) ∨ (∃ x t, k = Sum.inr x ∧ v = Value.str x t)
  | .inl i, v, h => by
    obtain ⟨t, e⟩ := Value.isInt_shape (k := i) (v := v) h
    exact .inl ⟨i, t, rfl, e⟩
  | .inr x, v, h => by
    obtain ⟨t, e⟩ := Value.isStrOf_shape (x := x) (v := v) h
    exact .inr ⟨x, t, rfl, e⟩
theorem keyIs_int (i : Int) (t : Tok) : keyIs (.inl i) (.int i t) = true := by simp [keyIs, Value.isInt]
theorem keyIs_str (x : Str) (t : Tok) : keyIs (.inr x) (.str x t) = true := by simp [keyIs, Value.isStrOf]
theorem key_ll (a b : Int) : decide ((Sum.inl a : Key) = Sum.inl b) = (a == b) := by
  by_cases e : a = b
  · subst e; simp
  · have h : ¬ (Sum.inl a : Key) = Sum.inl b := fun q => e (Sum.inl.inj q)
    rw [decide_eq_false h]
    exact (beq_eq_false_iff_ne.mpr e).symm
theorem key_rr (a b : Str) : decide ((Sum.inr a : Key) = Sum.inr b) = decide (a = b) := by
  by_cases e : a = b
  · subst e; simp
  · have h : ¬ (Sum.inr a : Key) = Sum.inr b := fun q => e (Sum.inr.inj q)
    rw [decide_eq_false h, decide_eq_false e]
theorem key_lr (a : Int) (b : Str) : decide ((Sum.inl a : Key) = Sum.inr b) = false := decide_eq_false (fun q => nomatch q)
theorem key_rl (a : Str) (b : Int) : decide ((Sum.inr a : Key) = Sum.inl b) = false := decide_eq_false (fun q => nomatch q)
def mixKind (prog : Program) (w : World) : PySem.KeyKind prog w Key where
  is := keyIs
  hash := keyH w
  inj := fun v a b ha hb => by
    rcases keyIs_shape ha with ⟨i, t, rfl, rfl⟩ | ⟨x, t, rfl, rfl⟩
    · rcases keyIs_shape hb with ⟨j, u, rfl, e⟩ | ⟨y, u, rfl, e⟩
      · injection e with e1 _; rw [e1]
      · exact nomatch e
    · rcases keyIs_shape hb with ⟨j, u, rfl, e⟩ | ⟨y, u, rfl, e⟩
      · exact nomatch e
      · injection e with e1 _; rw [e1]
  byValue := fun k v h => by
    rcases keyIs_shape h with ⟨i, t, rfl, rfl⟩ | ⟨x, t, rfl, rfl⟩ <;> rfl
  pyHash := fun hv h => by
    rcases keyIs_shape hv with ⟨i, t, rfl, rfl⟩ | ⟨x, t, rfl, rfl⟩
    · exact wpAny_pyHash_int h
    · exact wpAny_pyHash_str h
  eqBool := fun hu hv h => by
    rcases keyIs_shape hu with ⟨i, t, rfl, rfl⟩ | ⟨x, t, rfl, rfl⟩
    · rcases keyIs_shape hv with ⟨j, u, rfl, rfl⟩ | ⟨y, u, rfl, rfl⟩
      · rw [key_ll] at h; exact wpAny_eqBool_int h
      · rw [key_lr] at h; exact SeqAt.EqAt.int_str i t y u _ _ _ _ h
    · rcases keyIs_shape hv with ⟨j, u, rfl, rfl⟩ | ⟨y, u, rfl, rfl⟩
      · rw [key_rl] at h; exact SeqAt.EqAt.str_int x t j u _ _ _ _ h
      · rw [key_rr] at h; exact wpAny_eqBool_str h
  «strs» := fun k x t v h => by
    rcases keyIs_shape h with ⟨i, u, rfl, e⟩ | ⟨y, u, rfl, e⟩
    · exact nomatch e
    · injection e with e1 _
      subst e1
      cases v <;> rfl
theorem mixKind_int (prog : Program) (w : World) (i : Int) (t : Tok) : (mixKind prog w).is (.inl i) (.int i t) = true := keyIs_int i t
theorem mixKind_str (prog : Program) (w : World) (x : Str) (t : Tok) : (mixKind prog w).is (.inr x) (.str x t) = true := keyIs_str x t
end L2
namespace L2
open PySem PySem.Spec PyProof.Rows
/-- a value, without the heap -/
inductive V where
  | non | bl (b : Bool) | int (i : Int) | str (x : Str) | byt (b : Array UInt8) | flt (b : UInt64) | ref (a : Addr) | ty (n : String)
  deriving DecidableEq
def RelV : V → Value → Prop
  | .non, u => u = Value.none
  | .bl b, u => u = Value.bool b
  | .int i, u => ∃ t, u = Value.int i t
  | .str x, u => ∃ t, u = Value.str x t
  | .byt b, u => ∃ t, u = Value.bytes b t
  | .flt b, u => ∃ t, u = Value.float b t
  | .ref a, u => u = Value.ref a
  | .ty n, u => u = Value.type n
abbrev Vals : List V → List Value → Prop := Paired RelV
theorem Vals.length {xs : List V} {us : List Value} (r : Vals xs us) : xs.length = us.length := Paired.length r
theorem Vals.get : ∀ {xs : List V} {us : List Value} {i : Nat} {x : V}, Vals xs us → xs[i]? = some x → ∃ u, us[i]? = some u ∧ RelV x u
  | _, _, _, _, .nil, e => by simp at e
  | _, _, 0, _, .cons r _, e => by simp at e; subst e; exact ⟨_, rfl, r⟩
  | _, _, i + 1, x, .cons _ t, e => by
    obtain ⟨u, h1, h2⟩ := Vals.get (i := i) (x := x) t (by simpa using e)
    exact ⟨u, by simpa using h1, h2⟩
theorem Vals.set {x : V} {u : Value} (r : RelV x u) : ∀ {xs : List V} {us : List Value} (i : Nat), Vals xs us → Vals (xs.set i x) (us.set i u)
  | _, _, _, .nil => .nil
  | _, _, 0, .cons _ t => .cons r t
  | _, _, i + 1, .cons q t => .cons q (Vals.set r i t)
theorem Vals.append : ∀ {xs ys : List V} {us ws : List Value}, Vals xs us → Vals ys ws → Vals (xs ++ ys) (us ++ ws)
  | _, _, _, _, .nil, s => s
  | _, _, _, _, .cons r t, s => .cons r (Vals.append t s)
theorem Vals.take : ∀ {xs : List V} {us : List Value} (n : Nat), Vals xs us → Vals (xs.take n) (us.take n)
  | _, _, 0, _ => .nil
  | _, _, _ + 1, .nil => .nil
  | _, _, n + 1, .cons r t => .cons r (Vals.take n t)
theorem Vals.drop : ∀ {xs : List V} {us : List Value} (n : Nat), Vals xs us → Vals (xs.drop n) (us.drop n)
  | _, _, 0, r => r
  | _, _, _ + 1, .nil => .nil
  | _, _, n + 1, .cons _ t => Vals.drop n t
def RelO : Option V → Option Value → Prop
  | some v, some u => RelV v u
  | none, none => True
  | _, _ => False
def KV {κ : Type} : List (κ × V) → List (κ × Value) → Prop := Paired fun (p : κ × V) (q : κ × Value) => p.1 = q.1 ∧ RelV p.2 q.2
/-- a key of a dict (00_mix): an int or a text -/
def kV : Key → V
  | .inl i => .int i
  | .inr x => .str x
/-- what stands at a tracked address -/
inductive HO where
  /-- a list -/
  | lst (xs : List V)
  /-- a tuple (never changes) -/
  | tup (xs : List V)
  /-- a dict whose keys are ints and texts; one whose keys are tuples of ints and texts (the empty one is both) -/
  | dK (kvs : List (Key × V)) | dT (kvs : List (List Key × V))
  /-- a set of ints: its members, its size -/
  | set (S : Int → Bool) (n : Nat)
  /-- an instance of the class at C, its dict at dx, its attributes -/
  | ins (C dx : Addr) (fs : List (Str × V))
  /-- the dict of the instance at x -/
  | own (x : Addr)
  /-- the dict of an exception -/
  | xd (fs : List (Str × V))
  /-- a bound method, f of x -/
  | met (f x : Addr)
  /-- a range object lo, lo + 1, .. below hi -/
  | rng (lo hi : Int)
  /-- a thing that is known to the object (the script; a dict while a loop walks it): read, never written while it is so -/
  | frz (o : Obj) (u : HO)
  /-- a code object's table -/
  | tbl (ps : Array Value)
  /-- any other thing, by what is true of its one object (a def of one's own: SetO a S n := HO.ext fun h => ..) -/
  | ext (φ : Heap → Prop)
abbrev Hp := Addr → Option HO
def upd (H : Hp) (a : Addr) (o : HO) : Hp := fun b => if b = a then some o else H b
theorem upd_same {H : Hp} {a : Addr} {o : HO} : upd H a o a = some o := by unfold upd; rw [if_pos rfl]
theorem upd_ne {H : Hp} {a b : Addr} {o : HO} (h : b ≠ a) : upd H a o b = H b := by unfold upd; rw [if_neg h]
/-- two objects of different content stand apart -/
theorem ne_of {H : Hp} {a b : Addr} {o u : HO} (h : H a = some o) (h' : H b = some u) (d : o ≠ u) : a ≠ b := by
  intro e; subst e; rw [h] at h'; exact d (Option.some.inj h')
theorem ne_of_none {H : Hp} {a b : Addr} {o : HO} (h : H a = some o) (h' : H b = none) : a ≠ b := by
  intro e; subst e; rw [h] at h'; cases h'
section
variable (P : Program) (w : World)
def ObjOk (H : Hp) (h : Heap) (a : Addr) : HO → Prop
  | .lst xs => xs.length ≤ sizeLine ∧ ∃ (its : List Value) (n : Nat), Vals xs its ∧ h.get? a = some { cls := .type "list", data := .seq its.toArray n }
  | .tup xs => xs.length ≤ sizeLine ∧ ∃ its : List Value, Vals xs its ∧ IsTup h a its.toArray ∧ ∃ n, h.get? a = some { cls := .type "tuple", data := .seq its.toArray n }
  | .dK kvs => kvs.length ≤ sizeLine ∧ (a == sysModules) = false ∧ ∃ vs, KV kvs vs ∧ h.DictOf (mixKind P w) a vs
  | .dT kvs => kvs.length ≤ sizeLine ∧ (a == sysModules) = false ∧ ∃ xs : List (List Key × Addr × Value),
      Paired (fun (p : List Key × V) (q : List Key × Addr × Value) => p.1 = q.1 ∧ H q.2.1 = some (.tup (p.1.map kV)) ∧ RelV p.2 q.2.2) kvs xs ∧
      ∃ o es ep, h.get? a = some o ∧ o.ExactDict ∧ o.data = .dict es ep ∧ es.toList = xs.map (entryOfKey (tupleKind (mixKind P w))) ∧ (xs.map (·.1)).Nodup
  | .set S n => h.SetOf (intKind P w) a S n
  | .ins C dx fs => H dx = some (.own a) ∧ fs.length ≤ 1000 ∧ dx ≠ a ∧ h.get? a = some (PySem.W.instObj C dx) ∧
      ∃ mA, h.Ns1 dx mA ∧ (∀ f, RelO (fs.lookup f) (mA f)) ∧ PySem.Within mA (fs.map (·.1))
  | .own _ => ∃ o, h.get? a = some o
  | .xd fs => ∃ mA, h.Ns1 a mA ∧ ∀ f, RelO (fs.lookup f) (mA f)
  | .rng lo hi => ∃ t u v, h.get? a = some { cls := .type "range", data := .fields #[.int lo t, .int hi u, .int 1 v] }
  | .frz o u => h.get? a = some o ∧ ObjOk H h a u
  | .tbl ps => h.get? a = some { cls := .none, data := .fields ps }
  | .met f x => h.get? a = some (PySem.W.methodObj (.ref f) (.ref x))
  | .ext φ => φ h ∧ (∃ o, h.get? a = some o) ∧ ∀ h1 h2 : Heap, φ h1 → (∀ o, h1.get? a = some o → h2.get? a = some o) → φ h2
/-- the abstract heap is held -/
def HOk (H : Hp) (h : Heap) : Prop := ∀ a o, H a = some o → ObjOk P w H h a o
end
section
variable {P : Program} {w : World} {H H' : Hp} {h h' : Heap} {a : Addr} {o : HO}
theorem ObjOk.lt (x : ObjOk P w H h a o) : a < h.objs.size := by
  cases o with
  | lst xs => obtain ⟨_, _, _, _, e⟩ := x; exact Heap.lt_size e
  | tup xs => obtain ⟨_, _, _, p, _⟩ := x; exact p.lt
  | dK kvs => obtain ⟨_, _, _, _, o, _, _, e, _⟩ := x; exact Heap.lt_size e
  | dT kvs => obtain ⟨_, _, _, _, o, _, _, e, _⟩ := x; exact Heap.lt_size e
  | set S n => obtain ⟨o, _, _, _, e, _⟩ := x; exact Heap.lt_size e
  | ins C dx fs => obtain ⟨_, _, _, e, _⟩ := x; exact Heap.lt_size e
  | own y => obtain ⟨_, e⟩ := x; exact Heap.lt_size e
  | xd fs => obtain ⟨_, ⟨_, _, _, e, _⟩, _⟩ := x; exact Heap.lt_size e
  | rng lo hi => obtain ⟨_, _, _, e⟩ := x; exact Heap.lt_size e
  | frz ob u => obtain ⟨e, _⟩ := x; exact Heap.lt_size e
  | tbl ps => exact Heap.lt_size (show h.get? a = some _ from x)
  | met f y => exact Heap.lt_size (show h.get? a = some _ from x)
  | ext φ => obtain ⟨_, ⟨_, e⟩, _⟩ := x; exact Heap.lt_size e
theorem Paired.mapP {α β : Type} {F G : α → β → Prop} : ∀ {l₁ : List α} {l₂ : List β}, Paired F l₁ l₂ → (∀ a b, F a b → G a b) → Paired G l₁ l₂
  | _, _, .nil, _ => .nil
  | _, _, .cons r t, f => .cons (f _ _ r) (Paired.mapP t f)
/-- what an object's description leans on: its own object, its own dict, the tuples -/
theorem ObjOk.stay (x : ObjOk P w H h a o) (k : ∀ b u, (b = a ∨ H b = some (.own a)) → h.get? b = some u → h'.get? b = some u)
    (ho : ∀ b, H b = some (.own a) → H' b = some (.own a)) (ht : ∀ b xs, H b = some (.tup xs) → H' b = some (.tup xs)) : ObjOk P w H' h' a o := by
  induction o with
  | lst xs => obtain ⟨z, its, n, r, e⟩ := x; exact ⟨z, its, n, r, k _ _ (.inl rfl) e⟩
  | tup xs => obtain ⟨z, its, r, ⟨ob, e, c⟩, n2, e2⟩ := x; exact ⟨z, its, r, ⟨ob, k _ _ (.inl rfl) e, c⟩, n2, k _ _ (.inl rfl) e2⟩
  | dK kvs => obtain ⟨z, y, vs, r, ob, es, ep, e, c⟩ := x; exact ⟨z, y, vs, r, ob, es, ep, k _ _ (.inl rfl) e, c⟩
  | dT kvs =>
    obtain ⟨z, y, xs, r, ob, es, ep, e, c⟩ := x
    exact ⟨z, y, xs, Paired.mapP r fun p q z => ⟨z.1, ht _ _ z.2.1, z.2.2⟩, ob, es, ep, k _ _ (.inl rfl) e, c⟩
  | set S n => obtain ⟨ob, es, ep, t, e, c⟩ := x; exact ⟨ob, es, ep, t, k _ _ (.inl rfl) e, c⟩
  | ins C dx fs =>
    obtain ⟨d, z, ne, e, mA, ⟨od, es, ep, e2, c⟩, r⟩ := x
    exact ⟨ho _ d, z, ne, k _ _ (.inl rfl) e, mA, ⟨od, es, ep, k _ _ (.inr d) e2, c⟩, r⟩
  | own y => obtain ⟨ob, e⟩ := x; exact ⟨ob, k _ _ (.inl rfl) e⟩
  | xd fs => obtain ⟨mA, ⟨od, es, ep, e, c⟩, r⟩ := x; exact ⟨mA, ⟨od, es, ep, k _ _ (.inl rfl) e, c⟩, r⟩
  | rng lo hi => obtain ⟨t, u, v, e⟩ := x; exact ⟨t, u, v, k _ _ (.inl rfl) e⟩
  | frz ob u ih => obtain ⟨e, q⟩ := x; exact ⟨k _ _ (.inl rfl) e, ih q⟩
  | tbl ps =>
    have e : h.get? a = some { cls := .none, data := .fields ps } := x
    show h'.get? a = some { cls := .none, data := .fields ps }
    exact k a _ (.inl rfl) e
  | met f y =>
    have e : h.get? a = some (PySem.W.methodObj (.ref f) (.ref y)) := x
    show h'.get? a = some (PySem.W.methodObj (.ref f) (.ref y))
    exact k a _ (.inl rfl) e
  | ext φ => obtain ⟨p, ⟨o, e⟩, st⟩ := x; exact ⟨st _ _ p fun o q => k _ _ (.inl rfl) q, ⟨o, k _ _ (.inl rfl) e⟩, st⟩
theorem HOk.lt (x : HOk P w H h) (e : H a = some o) : a < h.objs.size := (x a o e).lt
theorem HOk.fresh (x : HOk P w H h) (e : h.objs.size ≤ a) : H a = none := by
  cases q : H a with
  | none => rfl
  | some u => exact absurd (Nat.lt_of_lt_of_le (x.lt q) e) (Nat.lt_irrefl _)
/-- every object of the heap is kept -/
theorem HOk.kept (x : HOk P w H h) (k : ∀ b u, h.get? b = some u → h'.get? b = some u) : HOk P w H h' := fun a o e =>
  (x a o e).stay (fun b u _ q => k b u q) (fun _ q => q) fun _ _ q => q
/-- a new object is laid and tracked -/
theorem HOk.laid (x : HOk P w H h) (k : ∀ b u, h.get? b = some u → h'.get? b = some u) (hp : h.objs.size ≤ a) (new : ObjOk P w (upd H a o) h' a o) : HOk P w (upd H a o) h' := fun b u e => by
  have hn := x.fresh hp
  by_cases hb : b = a
  · subst hb; rw [upd_same] at e; cases e; exact new
  · rw [upd_ne hb] at e
    exact (x b u e).stay (fun c v _ q => k c v q) (fun c q => by rw [upd_ne (ne_of_none q hn)]; exact q) fun c xs q => by rw [upd_ne (ne_of_none q hn)]; exact q
end
/-- what may be read as u: it is u, or a known u -/
def Rd (H : Hp) (a : Addr) (u : HO) : Prop := H a = some u ∨ ∃ o, H a = some (.frz o u)
theorem Rd.ok {P : Program} {w : World} {H : Hp} {h : Heap} {a : Addr} {u : HO} (r : Rd H a u) (x : HOk P w H h) : ObjOk P w H h a u := by
  rcases r with r | ⟨o, r⟩
  · exact x a u r
  · obtain ⟨_, q⟩ := x a _ r
    exact q
/-- what may be written -/
def Mut : Option HO → Prop
  | some (.lst _) => True
  | some (.dK _) => True
  | some (.dT _) => True
  | some (.set _ _) => True
  | some (.ins _ _ _) => True
  | some (.ext _) => True
  | _ => False
section
variable {P : Program} {w : World} {H : Hp} {h h' : Heap} {x e : Addr} {o' : HO}
/-- the object at e is changed: x itself, or the dict of the instance x -/
theorem HOk.write (ok : HOk P w H h) (mu : Mut (H x)) (he : e = x ∨ H e = some (.own x)) (k : ∀ b u, b ≠ e → h.get? b = some u → h'.get? b = some u) (heo : ∃ u, h'.get? e = some u)
    (new : ObjOk P w (upd H x o') h' x o') : HOk P w (upd H x o') h' := fun b u q => by
  have nown : ∀ c y, H c = some (.own y) → c ≠ x := fun c y r z => by subst z; rw [r] at mu; exact mu
  have ntup : ∀ c xs, H c = some (.tup xs) → c ≠ x := fun c xs r z => by subst z; rw [r] at mu; exact mu
  by_cases hb : b = x
  · subst hb; rw [upd_same] at q; cases q; exact new
  · rw [upd_ne hb] at q
    by_cases hbe : b = e
    · have q' : H b = some (.own x) := by
        rcases he with z | z
        · exact absurd (hbe.trans z) hb
        · rw [hbe]; exact z
      rw [q] at q'; cases q'
      obtain ⟨v, hv⟩ := heo
      exact ⟨v, by rw [hbe]; exact hv⟩
    · refine (ok b u q).stay (fun c v hc r => k c v ?_ r) (fun c r => by rw [upd_ne (nown c b r)]; exact r) fun c xs r => by rw [upd_ne (ntup c xs r)]; exact r
      rcases hc with rfl | hc
      · exact hbe
      · rintro rfl
        rcases he with z | z
        · exact nown c b hc z
        · rw [hc] at z; cases z; exact hb rfl
end
/-! ### kept unless tracked; of the frames at fs (the callers') the slots may change (an exception that passes writes there); of the records at ex (iterators) nothing is said -/
structure Un (fs ex : List Addr) (H H' : Hp) (h h' : Heap) : Prop where
  keep : ∀ b o, h.get? b = some o → H b = none → b ∉ fs → b ∉ ex → h'.get? b = some o
  slot : ∀ b o, h.get? b = some o → H b = none → b ∈ fs → b ∉ ex → ∃ sl, h'.get? b = some { o with slots := sl }
  free : ∀ b o, h.get? b = some o → H b = none → b ∉ ex → H' b = none
  there : ∀ b o, h.get? b = some o → b ∉ ex → ∃ o', h'.get? b = some o'
  tups : ∀ b xs, H b = some (.tup xs) → H' b = some (.tup xs)
  frzs : ∀ b o u, H b = some (.frz o u) → H' b = some (.frz o u)
  tbls : ∀ b ps, H b = some (.tbl ps) → ∃ more, H' b = some (.tbl (ps ++ more))
section
variable {fs fs' ex ex' : List Addr} {H H1 H2 : Hp} {h h1 h2 h' : Heap} {a x e : Addr} {o : HO}
theorem Un.any (u : Un fs ex H H1 h h1) {b : Addr} {ob : Obj} (q : h.get? b = some ob) (n : H b = none) (hx : b ∉ ex) : ∃ sl, h1.get? b = some { ob with slots := sl } := by
  by_cases hb : b ∈ fs
  · exact u.slot b ob q n hb hx
  · exact ⟨ob.slots, u.keep b ob q n hb hx⟩
theorem Un.kept (k : ∀ b u, h.get? b = some u → h'.get? b = some u) : Un fs ex H H h h' :=
  ⟨fun b ob q _ _ _ => k b ob q, fun b ob q _ _ _ => ⟨ob.slots, k b ob q⟩, fun _ _ _ n _ => n, fun b ob q _ => ⟨ob, k b ob q⟩, fun _ _ q => q, fun _ _ _ q => q, fun _ ps q => ⟨#[], by rw [q]; simp⟩⟩
theorem Un.refl : Un fs ex H H h h := Un.kept fun _ _ q => q
theorem Un.laid (k : ∀ b u, h.get? b = some u → h'.get? b = some u) (hp : h.objs.size ≤ a) (hn : H a = none) : Un fs ex H (upd H a o) h h' where
  keep := fun b u q _ _ _ => k b u q
  slot := fun b u q _ _ _ => ⟨u.slots, k b u q⟩
  free := fun b u q n _ => by rw [upd_ne (Nat.ne_of_lt (Nat.lt_of_lt_of_le (Heap.lt_size q) hp))]; exact n
  there := fun b u q _ => ⟨u, k b u q⟩
  tups := fun b xs q => by rw [upd_ne (ne_of_none q hn)]; exact q
  frzs := fun b u xs q => by rw [upd_ne (ne_of_none q hn)]; exact q
  tbls := fun b ps q => ⟨#[], by rw [upd_ne (ne_of_none q hn), q]; simp⟩
theorem Un.write (mu : Mut (H x)) (he : e = x ∨ H e = some (.own x)) (k : ∀ b u, b ≠ e → h.get? b = some u → h'.get? b = some u) (heo : ∃ u, h'.get? e = some u) : Un fs ex H (upd H x o) h h' := by
  have hx : ∀ b, H b = none → b ≠ x := fun b n z => by subst z; rw [n] at mu; exact mu
  have hb : ∀ b, H b = none → b ≠ e := fun b n z => by
    subst z
    rcases he with r | r
    · exact hx b n r
    · rw [n] at r; cases r
  have hm : ∀ b u, H b = some u → ¬ Mut (some u) → b ≠ x := fun b u q nm z => by subst z; rw [q] at mu; exact nm mu
  refine ⟨fun b u q n _ _ => k b u (hb b n) q, fun b u q n _ _ => ⟨u.slots, k b u (hb b n) q⟩, fun b u q n _ => by rw [upd_ne (hx b n)]; exact n, fun b u q _ => ?_,
    fun b xs q => by rw [upd_ne (hm b _ q fun z => z)]; exact q, fun b u xs q => by rw [upd_ne (hm b _ q fun z => z)]; exact q, fun b ps q => ⟨#[], by rw [upd_ne (hm b _ q fun z => z), q]; simp⟩⟩
  by_cases hbe : b = e
  · subst hbe; exact heo
  · exact ⟨u, k b u hbe q⟩
end
/-! ### the heap without what is tracked -/
def trk (h : Heap) (H : Hp) : List Addr := (List.range h.objs.size).filter fun a => (H a).isSome
def hidT (h : Heap) (H : Hp) : Heap := PySem.W.hideAll h (trk h H)
theorem hidT_size (h : Heap) (H : Hp) : (hidT h H).objs.size = h.objs.size := PySem.W.hideAll_size _ _
theorem hidT_get {h : Heap} {H : Hp} {b : Addr} {o : Obj} (e : h.get? b = some o) (n : H b = none) : (hidT h H).get? b = some o :=
  PySem.W.hideAll_get _ e fun hm => by
    have q : (H b).isSome = true := (List.mem_filter.mp hm).2
    rw [n] at q; simp at q
theorem of_hidT {h : Heap} {H : Hp} {b : Addr} {o : Obj} (e : (hidT h H).get? b = some o) : h.get? b = some o ∧ H b = none := by
  have e' : h.get? b = some o := PySem.W.of_hideAll (trk h H) e
  refine ⟨e', ?_⟩
  cases q : H b with
  | none => rfl
  | some x =>
    have hm : b ∈ trk h H := List.mem_filter.mpr ⟨List.mem_range.mpr (Heap.lt_size e'), by simp [q]⟩
    have z : (hidT h H).get? b = none := PySem.W.hideAll_none (trk h H) hm
    rw [z] at e; cases e
/-! ### OpenK's ledger, filled with every new object but one -/
end L2
namespace L2
open PySem PySem.Spec PyProof.Rows
/-- the module's facts, over the base: the heap at the law's entry without what is tracked there -/
structure Mod (K : PySem.W.Frag) (mg : Str → Option Value) (base : Heap) : Prop where
  kin : K.In base
  glob : base.Ns mainGlobals mg
  blt : ∃ mb, base.Ns builtinsNs mb ∧ ∀ x : Str, x ≠ "__name__" → mb x = bootBuiltins x
  nolimit : base.NoLimit
/-- the context: a def's body (or a comprehension's block) running. base: fixed through the whole law; s₀, H₀: the entry; outer: the frames whose slots others may change (a def's callers); stack: all frames that run;
   ex: iterators that were made ahead of the entry and are walked here (a comprehension's); fn: the names whose cells were made at the entry (a def: all; a comprehension's block: its own); calm: not within an except suite; pn: pins that every state bears; xe: what is wanted of an exception that leaves the code -/
structure Cx where
  prog : Program
  w : World
  K : PySem.W.Frag
  mg : Str → Option Value
  base : Heap
  A : Around
  N : List Str
  s₀ : Shared
  H₀ : Hp
  env : Env
  outer : List Env
  stack : List Env
  ex : List Addr
  fn : Str → Bool
  calm : Bool
  pn : List (Addr × Obj)
  xe : Value → Shared → Prop
/-- the callers' frames -/
def frs (l : List Env) : List Addr := l.filterMap (·.frame)
abbrev Cx.fs (X : Cx) : List Addr := frs X.outer
def Vis (sc : Scope) (x : Str) : Prop := sc.names.lookup x = some .local ∨ sc.names.lookup x = some .cell ∨ sc.names.lookup x = some .free
def Loc (sc : Scope) (x : Str) : Prop := sc.names.lookup x = some .local ∨ sc.names.lookup x = some .cell
def Look (env : Env) (h : Heap) (m : Str → Option Value) (x : Str) (u : Value) : Prop :=
  (env.kindOf x = some .local ∧ m x = some u) ∨ ((env.kindOf x = some .cell ∨ env.kindOf x = some .free) ∧ ∃ c, env.cells.lookup x = some c ∧ h.IsCell c (some u))
structure Cx.Ok (X : Cx) : Prop where
  mod : Mod X.K X.mg X.base
  kind : X.env.scope.kind = .function
  glob : X.env.globals = mainGlobals
  blt : X.env.builtins = builtinsNs
  above : X.s₀.heap.objs.size ≤ X.env.locals
  inj : ∀ x y c, X.env.cells.lookup x = some c → X.env.cells.lookup y = some c → x = y
  has : ∀ x, (X.env.kindOf x = some .cell ∨ X.env.kindOf x = some .free) → ∃ c, X.env.cells.lookup x = some c
  cab : ∀ x c, X.fn x = true → X.env.cells.lookup x = some c → X.s₀.heap.objs.size ≤ c
  hd : X.calm = true → X.A.handled = none
  frames : X.A.frames = some X.stack
  stk : X.stack = X.outer ∨ (X.stack = X.env :: X.outer ∧ X.env.frame = some X.env.locals)
  exf : ∀ b ∈ X.ex, b ≠ X.env.locals ∧ ∀ x c, X.env.cells.lookup x = some c → c ≠ b
  bs : ∀ b o, X.base.get? b = some o → X.s₀.heap.get? b = some o ∧ X.H₀ b = none
  bsz : X.base.objs.size ≤ X.s₀.heap.objs.size
  noex : ∀ b o, X.base.get? b = some o → b ∉ X.ex
  exfs : ∀ b ∈ X.ex, b ∉ X.fs
  funs : X.s₀.heap.FunFrames X.base X.outer
  frf : ∀ b ∈ X.fs, X.H₀ b = none
structure Inv (X : Cx) (pins : List (Addr × Obj)) (σ : List (Option V)) (H : Hp) (s : Shared) : Prop where
  ok : X.Ok
  os : s.os = X.s₀.os
  bare : AllBare s.gens
  base : Un X.fs X.ex X.H₀ H X.s₀.heap s.heap
  loc : ∃ m, s.heap.Ns X.env.locals m ∧ ∀ (i : Nat) (x : Str) (v : V), X.N[i]? = some x → σ[i]? = some (some v) → Vis X.env.scope x → ∃ u, RelV v u ∧ Look X.env s.heap m x u
  cell : ∀ x c, X.env.cells.lookup x = some c → ∃ v, s.heap.IsCell c v
  free : H X.env.locals = none
  freeC : ∀ x c, X.env.cells.lookup x = some c → H c = none
  pin : ∀ p ∈ X.pn ++ pins, s.heap.get? p.1 = some p.2 ∧ H p.1 = none ∧ p.1 ≠ X.env.locals ∧ p.1 ∉ X.fs ∧ ∀ v, p.2.data ≠ .cell v
  hok : HOk X.prog X.w H s.heap
  len : σ.length = X.N.length
section
variable {X : Cx} {pins : List (Addr × Obj)} {σ : List (Option V)} {H H' : Hp} {s : Shared} {h' : Heap}
theorem Cx.Ok.nofr (ok : X.Ok) {b : Addr} {o : Obj} (e : X.base.get? b = some o) : b ∉ X.fs := fun hb => by
  have := (ok.funs.mem hb).1
  rw [e] at this; cases this
theorem Inv.bs (I : Inv X pins σ H s) : ∀ b o, X.base.get? b = some o → s.heap.get? b = some o ∧ H b = none := fun b o e =>
  ⟨I.base.keep b o (I.ok.bs b o e).1 (I.ok.bs b o e).2 (I.ok.nofr e) (I.ok.noex b o e), I.base.free b o (I.ok.bs b o e).1 (I.ok.bs b o e).2 (I.ok.noex b o e)⟩
theorem Inv.bk (I : Inv X pins σ H s) : ∀ b o, X.base.get? b = some o → s.heap.get? b = some o := fun b o e => (I.bs b o e).1
theorem Inv.mod (I : Inv X pins σ H s) : Mod X.K X.mg X.base := I.ok.mod
theorem Inv.kIn (I : Inv X pins σ H s) : X.K.In s.heap := I.ok.mod.kin.keeps I.bk
theorem Inv.lt (I : Inv X pins σ H s) : X.env.locals < s.heap.objs.size := let ⟨_, hn, _⟩ := I.loc; hn.lt
theorem Inv.sz (I : Inv X pins σ H s) : X.s₀.heap.objs.size ≤ s.heap.objs.size := Nat.le_trans I.ok.above (Nat.le_of_lt I.lt)
theorem Inv.nofs (I : Inv X pins σ H s) {a : Addr} (h : s.heap.objs.size ≤ a) : a ∉ X.fs := fun hb => by
  obtain ⟨_, o, ho, _⟩ := I.ok.funs.mem hb
  exact absurd (Nat.lt_of_lt_of_le (Heap.lt_size ho) (Nat.le_trans I.sz h)) (Nat.lt_irrefl _)
theorem Inv.cne (I : Inv X pins σ H s) : ∀ x c, X.env.cells.lookup x = some c → c ≠ X.env.locals := fun x c e z => by
  obtain ⟨v, o, ho, hd⟩ := I.cell x c e
  obtain ⟨m, ⟨o', es, ep, ho', hd', _⟩, _⟩ := I.loc
  rw [z, ho'] at ho; cases ho; rw [hd'] at hd; cases hd
theorem Inv.funs (I : Inv X pins σ H s) : s.heap.FunFrames X.base X.outer := by
  have all : ∀ (l : List Env), (∀ b ∈ frs l, b ∈ X.fs) → X.s₀.heap.FunFrames X.base l → s.heap.FunFrames X.base l := by
    intro l
    induction l with
    | nil => intro _ _; trivial
    | cons env r ih =>
      intro hs hl
      obtain ⟨hk, ⟨L, o, hf, hn, ho, hd⟩, hr⟩ := hl
      have hL : L ∈ X.fs := hs L (by unfold frs; rw [List.filterMap_cons, hf]; exact List.mem_cons_self)
      obtain ⟨sl, e⟩ := I.base.slot L o ho (I.ok.frf L hL) hL fun z => I.ok.exfs L z hL
      exact ⟨hk, ⟨L, _, hf, hn, e, hd⟩, ih (fun b hb => hs b (by unfold frs; rw [List.filterMap_cons, hf]; exact List.mem_cons_of_mem _ hb)) hr⟩
  exact all X.outer (fun _ hb => hb) I.ok.funs
/-- the frames that run, for a call -/
theorem Inv.stack (I : Inv X pins σ H s) : s.heap.FunFrames X.base X.stack := by
  rcases I.ok.stk with e | ⟨e, hf⟩
  · rw [e]; exact I.funs
  · rw [e]
    obtain ⟨m, hn, _⟩ := I.loc
    refine .cons (by rw [I.ok.kind]; decide) hf hn ?_ I.funs
    exact Heap.get?_none_of_le (Nat.le_trans I.ok.bsz I.ok.above)
theorem Inv.stkSub (I : Inv X pins σ H s) : ∀ b ∈ frs X.stack, b ∈ X.env.locals :: X.fs := fun b hb => by
  rcases I.ok.stk with e | ⟨e, hf⟩
  · rw [e] at hb; exact List.mem_cons_of_mem _ hb
  · rw [e] at hb
    unfold frs at hb
    rw [List.filterMap_cons, hf] at hb
    exact hb
theorem Inv.stkFree (I : Inv X pins σ H s) : ∀ b ∈ frs X.stack, H b = none := fun b hb => by
  rcases List.mem_cons.mp (I.stkSub b hb) with e | hb
  · rw [e]; exact I.free
  · obtain ⟨_, o, ho, _⟩ := I.ok.funs.mem hb
    exact I.base.free b o ho (I.ok.frf b hb) fun z => I.ok.exfs b z hb
/-- THE STEP: the untracked objects but the frame and the records at ch are kept (the callers' frames up to slots), the frame's map is kept, the new abstract heap is held -/
theorem Inv.step {g' : Array GenState} {t' : Nat} {d' : Drawn} {ch : List Addr} (I : Inv X pins σ H s)
    (hch : ∀ b ∈ ch, (b ∈ X.ex ∨ X.s₀.heap.objs.size ≤ b) ∧ b ≠ X.env.locals ∧ (∀ x c, X.env.cells.lookup x = some c → c ≠ b) ∧ ∀ p ∈ X.pn ++ pins, p.1 ≠ b)
    (keep : ∀ b o, b ≠ X.env.locals → b ∉ X.fs → b ∉ ch → s.heap.get? b = some o → H b = none → h'.get? b = some o)
    (slot : ∀ b o, b ≠ X.env.locals → b ∈ X.fs → b ∉ ch → s.heap.get? b = some o → H b = none → ∃ sl, h'.get? b = some { o with slots := sl }) (free : ∀ b o, b ∉ ch → s.heap.get? b = some o → H b = none → H' b = none)
    (there : ∀ b o, b ∉ ch → s.heap.get? b = some o → ∃ o', h'.get? b = some o')
    (tups : ∀ b xs, H b = some (.tup xs) → H' b = some (.tup xs)) (frzs : ∀ b o u, H b = some (.frz o u) → H' b = some (.frz o u)) (tbls : ∀ b ps, H b = some (.tbl ps) → ∃ more, H' b = some (.tbl (ps ++ more)))
    (ns : ∀ m, s.heap.Ns X.env.locals m → h'.Ns X.env.locals m) (hok : HOk X.prog X.w H' h') (hg : AllBare g') :
    Inv X pins σ H' { s with heap := h', gens := g', drawn := d', toks := t' } := by
  have neL : ∀ b o, X.s₀.heap.get? b = some o → b ≠ X.env.locals := fun b o e => Nat.ne_of_lt (Nat.lt_of_lt_of_le (Heap.lt_size e) I.ok.above)
  have neC : ∀ b o, X.s₀.heap.get? b = some o → b ∉ X.ex → b ∉ ch := fun b o e hx hb => by
    rcases (hch b hb).1 with z | z
    · exact hx z
    · exact absurd (Nat.lt_of_lt_of_le (Heap.lt_size e) z) (Nat.lt_irrefl _)
  have cellK : ∀ x c, X.env.cells.lookup x = some c → ∀ v, s.heap.IsCell c v → h'.IsCell c v := fun x c e v ⟨o, ho, hd⟩ => by
    have nch : c ∉ ch := fun z => (hch c z).2.2.1 x c e rfl
    by_cases hc : c ∈ X.fs
    · obtain ⟨sl, q⟩ := slot c o (I.cne x c e) hc nch ho (I.freeC x c e)
      exact ⟨_, q, hd⟩
    · exact ⟨o, keep c o (I.cne x c e) hc nch ho (I.freeC x c e), hd⟩
  refine ⟨I.ok, I.os, hg, ⟨fun b o e n hb hx => ?_, fun b o e n hb hx => ?_, fun b o e n hx => ?_, fun b o e hx => ?_, fun b xs e => tups b xs (I.base.tups b xs e), fun b o xs e => frzs b o xs (I.base.frzs b o xs e), fun b ps e => ?_⟩, ?_, fun x c e => ?_, ?_, fun x c e => ?_, fun p hp => ?_, hok, I.len⟩
  · exact keep b o (neL b o e) hb (neC b o e hx) (I.base.keep b o e n hb hx) (I.base.free b o e n hx)
  · obtain ⟨sl, e1⟩ := I.base.slot b o e n hb hx
    obtain ⟨sl', e2⟩ := slot b _ (neL b o e) hb (neC b o e hx) e1 (I.base.free b o e n hx)
    exact ⟨sl', e2⟩
  · obtain ⟨o', e1⟩ := I.base.there b o e hx
    exact free b o' (neC b o e hx) e1 (I.base.free b o e n hx)
  · obtain ⟨o', e1⟩ := I.base.there b o e hx
    exact there b o' (neC b o e hx) e1
  · obtain ⟨m1, e1⟩ := I.base.tbls b ps e
    obtain ⟨m2, e2⟩ := tbls b _ e1
    exact ⟨m1 ++ m2, by rw [e2, Array.append_assoc]⟩
  · obtain ⟨m, hn, hl⟩ := I.loc
    refine ⟨m, ns m hn, fun i x v e1 e2 e3 => ?_⟩
    obtain ⟨u, r, l⟩ := hl i x v e1 e2 e3
    refine ⟨u, r, ?_⟩
    rcases l with l | ⟨k, c, e, z⟩
    · exact .inl l
    · exact .inr ⟨k, c, e, cellK x c e _ z⟩
  · obtain ⟨v, z⟩ := I.cell x c e
    exact ⟨v, cellK x c e v z⟩
  · obtain ⟨m, ⟨o, _, _, ho, _⟩, _⟩ := I.loc
    exact free _ o (fun z => (hch _ z).2.1 rfl) ho I.free
  · obtain ⟨v, o, ho, hd⟩ := I.cell x c e
    exact free c o (fun z => (hch c z).2.2.1 x c e rfl) ho (I.freeC x c e)
  · obtain ⟨e, n, ne, nf, d⟩ := I.pin p hp
    have nch : p.1 ∉ ch := fun z => (hch p.1 z).2.2.2 p hp rfl
    exact ⟨keep p.1 p.2 ne nf nch e n, free p.1 p.2 nch e n, ne, nf, d⟩
/-- .. where the frame's own object is kept too -/
theorem Inv.un {t' : Nat} (I : Inv X pins σ H s) (u : Un X.fs [] H H' s.heap h') (hok : HOk X.prog X.w H' h') : Inv X pins σ H' { s with heap := h', toks := t' } := by
  obtain ⟨m, ⟨o, es, ep, ho, r⟩, _⟩ := id I.loc
  obtain ⟨sl, hL⟩ := u.any ho I.free (by simp)
  exact I.step (g' := s.gens) (d' := s.drawn) (ch := []) (fun _ z => nomatch z) (fun b o _ hb _ e n => u.keep b o e n hb (by simp)) (fun b o _ hb _ e n => u.slot b o e n hb (by simp)) (fun b o _ e n => u.free b o e n (by simp)) (fun b o _ e => u.there b o e (by simp)) u.tups u.frzs u.tbls (fun m' hm => by
    obtain ⟨o', es', ep', ho', r'⟩ := hm
    rw [ho] at ho'; cases ho'
    exact ⟨_, es', ep', hL, r'⟩) hok I.bare
/-- behind a call (or a comprehension's block): the slots of this frame may have changed too, the records at ch may have turned -/
theorem Inv.call {g' : Array GenState} {t' : Nat} {d' : Drawn} {ch : List Addr} (I : Inv X pins σ H s) (u : Un (frs X.stack) ch H H' s.heap h') (hok : HOk X.prog X.w H' h') (hg : AllBare g')
    (hch : ∀ b ∈ ch, (b ∈ X.ex ∨ X.s₀.heap.objs.size ≤ b) ∧ b ≠ X.env.locals ∧ (∀ x c, X.env.cells.lookup x = some c → c ≠ b) ∧ ∀ p ∈ X.pn ++ pins, p.1 ≠ b) :
    Inv X pins σ H' { s with heap := h', gens := g', drawn := d', toks := t' } := by
  obtain ⟨m, ⟨o, es, ep, ho, r⟩, _⟩ := id I.loc
  obtain ⟨sl, hL⟩ := u.any ho I.free fun z => (hch _ z).2.1 rfl
  exact I.step (ch := ch) hch (fun b o hL hb hc e n => u.keep b o e n (fun z => (List.mem_cons.mp (I.stkSub b z)).elim hL hb) hc) (fun b o _ _ hc e n => u.any e n hc) (fun b o hc e n => u.free b o e n hc) (fun b o hc e => u.there b o e hc) u.tups u.frzs u.tbls (fun m' hm => by
    obtain ⟨o', es', ep', ho', r'⟩ := hm
    rw [ho] at ho'; cases ho'
    exact ⟨_, es', ep', hL, r'⟩) hok hg
/-- an untracked record of ours (an iterator) has turned -/
theorem Inv.turned {t' : Nat} {it : Addr} (I : Inv X pins σ H s) (k : ∀ b o, b ≠ it → s.heap.get? b = some o → h'.get? b = some o) (hn : H it = none) (hL : it ≠ X.env.locals)
    (h1 : it ∈ X.ex ∨ X.s₀.heap.objs.size ≤ it) (h2 : ∀ x c, X.env.cells.lookup x = some c → c ≠ it) (h3 : ∀ p ∈ X.pn ++ pins, p.1 ≠ it) : Inv X pins σ H { s with heap := h', toks := t' } := by
  have nit : ∀ b u, H b = some u → b ≠ it := fun b u e z => by rw [z, hn] at e; cases e
  refine I.step (g' := s.gens) (d' := s.drawn) (ch := [it]) (fun b hb => ?_) (fun b o _ _ hc e _ => k b o (fun z => hc (by simp [z])) e) (fun b o _ _ hc e _ => ⟨o.slots, k b o (fun z => hc (by simp [z])) e⟩) (fun _ _ _ _ n => n)
    (fun b o hc e => ⟨o, k b o (fun z => hc (by simp [z])) e⟩) (fun _ _ e => e) (fun _ _ _ e => e) (fun b ps e => ⟨#[], by rw [e]; simp⟩) (fun m hm => ?_) (fun b u e => ?_) I.bare
  · have e : b = it := by simpa using hb
    subst e
    exact ⟨h1, hL, h2, h3⟩
  · obtain ⟨o, es, ep, ho, r⟩ := hm
    exact ⟨o, es, ep, k _ o (Ne.symm hL) ho, r⟩
  · refine (I.hok b u e).stay (fun c v hc q => k c v ?_ q) (fun _ q => q) fun _ _ q => q
    rcases hc with z | z
    · rw [z]; exact nit b u e
    · exact nit c _ z
theorem Inv.tok (I : Inv X pins σ H s) (t : Nat) : Inv X pins σ H { s with toks := t } := I.un (h' := s.heap) (t' := t) Un.refl I.hok
/-- all objects kept -/
theorem Inv.kept {t' : Nat} (I : Inv X pins σ H s) (k : ∀ b u, s.heap.get? b = some u → h'.get? b = some u) : Inv X pins σ H { s with heap := h', toks := t' } := I.un (Un.kept k) (I.hok.kept k)
/-- a new object laid and tracked -/
theorem Inv.laid {a : Addr} {o : HO} {t' : Nat} (I : Inv X pins σ H s) (k : ∀ b u, s.heap.get? b = some u → h'.get? b = some u) (hp : s.heap.objs.size ≤ a) (new : ObjOk X.prog X.w (upd H a o) h' a o) :
    Inv X pins σ (upd H a o) { s with heap := h', toks := t' } := I.un (Un.laid k hp (I.hok.fresh hp)) (I.hok.laid k hp new)
/-- an object written -/
theorem Inv.write {x e : Addr} {o : HO} {t' : Nat} (I : Inv X pins σ H s) (mu : Mut (H x)) (he : e = x ∨ H e = some (.own x)) (k : ∀ b u, b ≠ e → s.heap.get? b = some u → h'.get? b = some u) (heo : ∃ u, h'.get? e = some u)
    (new : ObjOk X.prog X.w (upd H x o) h' x o) : Inv X pins σ (upd H x o) { s with heap := h', toks := t' } := I.un (Un.write mu he k heo) (I.hok.write mu he k heo new)
theorem Inv.pins_of {pins' : List (Addr × Obj)} (I : Inv X pins σ H s) (h : ∀ p ∈ pins', s.heap.get? p.1 = some p.2 ∧ H p.1 = none ∧ p.1 ≠ X.env.locals ∧ p.1 ∉ X.fs ∧ ∀ v, p.2.data ≠ .cell v) : Inv X pins' σ H s :=
  ⟨I.ok, I.os, I.bare, I.base, I.loc, I.cell, I.free, I.freeC, fun p hp => (List.mem_append.mp hp).elim (fun z => I.pin p (List.mem_append_left _ z)) (h p), I.hok, I.len⟩
theorem nodup_ix {N : List Str} (hN : N.Nodup) {i j : Nat} {x : Str} (a : N[i]? = some x) (b : N[j]? = some x) : i = j := by
  obtain ⟨h1, e1⟩ := List.getElem?_eq_some_iff.mp a
  obtain ⟨h2, e2⟩ := List.getElem?_eq_some_iff.mp b
  exact (List.getElem_inj hN).mp (e1.trans e2.symm)
/-- a name is stored; what changed -/
theorem store_ok2 {M : Model} {A : Around} {E : Value → Shared → Prop} {i : Nat} {x : Str} {v : V} {u : Value} {Q : Unit → Shared → Prop} (I : Inv X pins σ H s) (hN : X.N.Nodup) (hi : X.N[i]? = some x) (hx : Loc X.env.scope x) (r : RelV v u)
    (h : ∀ s', Inv X pins (σ.set i (some v)) H s' → (∃ a, Heap.SameBut a s.heap s'.heap ∧ (a = X.env.locals ∨ X.env.cells.lookup x = some a)) → Q () s') (hf : X.fn x = true ∨ X.env.scope.names.lookup x = some .local := by first | exact .inl rfl | exact .inr rfl | assumption) : wpAny M A (storeName X.env x u) Q E s := by
  obtain ⟨m, hn, hl⟩ := id I.loc
  have hcls : (X.env.scope.kind == .class || (X.env.scope.kind == .module && X.env.locals != X.env.globals)) = false := by rw [I.ok.kind]; rfl
  have hiσ : i < σ.length := by rw [I.len]; exact (List.getElem?_eq_some_iff.mp hi).1
  have cne := I.cne
  have tracked : ∀ {a : Addr} {h' : Heap}, (∃ o, s.heap.get? a = some o ∧ H a = none) → Heap.SameBut a s.heap h' → HOk X.prog X.w H h' := fun {a h'} ha hs b ob e => by
    obtain ⟨_, _, hfree⟩ := ha
    refine (I.hok b ob e).stay (fun c w' hc q => (hs.2 c ?_).trans q) (fun _ q => q) fun _ _ q => q
    rintro rfl
    rcases hc with rfl | hc
    · rw [hfree] at e; cases e
    · rw [hfree] at hc; cases hc
  rcases hx with hk | hk
  · refine wpAny_storeName_local hk hn (fun h' hn' hs => ?_) hcls
    obtain ⟨oL, _, _, hoL, _⟩ := id hn
    refine h _ ⟨I.ok, I.os, I.bare, ⟨fun b o e n hb hx => ?_, fun b o e n hb hx => ?_, I.base.free, fun b o e hx => ?_, I.base.tups, I.base.frzs, I.base.tbls⟩, ⟨_, hn', fun j y v' e1 e2 e3 => ?_⟩, fun y c e => ?_, I.free, I.freeC, fun p hp => ?_, tracked ⟨oL, hoL, I.free⟩ hs, by simpa using I.len⟩ ⟨_, hs, .inl rfl⟩
    · exact (hs.2 b (Nat.ne_of_lt (Nat.lt_of_lt_of_le (Heap.lt_size e) I.ok.above))).trans (I.base.keep b o e n hb hx)
    · obtain ⟨sl, e1⟩ := I.base.slot b o e n hb hx
      exact ⟨sl, (hs.2 b (Nat.ne_of_lt (Nat.lt_of_lt_of_le (Heap.lt_size e) I.ok.above))).trans e1⟩
    · obtain ⟨o', e1⟩ := I.base.there b o e hx
      exact ⟨o', (hs.2 b (Nat.ne_of_lt (Nat.lt_of_lt_of_le (Heap.lt_size e) I.ok.above))).trans e1⟩
    · by_cases hj : j = i
      · subst hj
        rw [hi] at e1; cases e1
        rw [List.getElem?_set_self hiσ] at e2
        cases e2
        exact ⟨u, r, .inl ⟨hk, by simp⟩⟩
      · rw [List.getElem?_set_ne (Ne.symm hj)] at e2
        obtain ⟨u', r', q⟩ := hl j y v' e1 e2 e3
        refine ⟨u', r', ?_⟩
        rcases q with ⟨k, e⟩ | ⟨k, c, e, z⟩
        · refine .inl ⟨k, ?_⟩
          have : y ≠ x := fun e => hj (nodup_ix hN e1 (e ▸ hi))
          simp [this, e]
        · exact .inr ⟨k, c, e, z.sameBut hs (cne y c e)⟩
    · obtain ⟨w', z⟩ := I.cell y c e
      exact ⟨w', z.sameBut hs (cne y c e)⟩
    · obtain ⟨e, n, ne, nf, d⟩ := I.pin p hp
      exact ⟨(hs.2 p.1 ne).trans e, n, ne, nf, d⟩
  · have hfn : X.fn x = true := by
      rcases hf with z | z
      · exact z
      · rw [z] at hk; cases hk
    obtain ⟨c, hc⟩ := I.ok.has x (.inl hk)
    obtain ⟨w', z⟩ := I.cell x c hc
    refine wpAny_storeName_cell I.ok.kind hk hc z (fun h' hc' hs => ?_)
    obtain ⟨oc, hoc, hocd⟩ := id z
    refine h { s with heap := h' } ⟨I.ok, I.os, I.bare, ⟨fun b o e n hb hx => ?_, fun b o e n hb hx => ?_, I.base.free, fun b o e hx => ?_, I.base.tups, I.base.frzs, I.base.tbls⟩, ⟨m, hn.sameBut hs (Ne.symm (cne x c hc)), fun j y v' e1 e2 e3 => ?_⟩, fun y c' e => ?_, I.free, I.freeC, fun p hp => ?_, tracked ⟨oc, hoc, I.freeC x c hc⟩ hs, by simpa using I.len⟩ ⟨c, hs, .inr hc⟩
    · exact (hs.2 b (Nat.ne_of_lt (Nat.lt_of_lt_of_le (Heap.lt_size e) (I.ok.cab x c hfn hc)))).trans (I.base.keep b o e n hb hx)
    · obtain ⟨sl, e1⟩ := I.base.slot b o e n hb hx
      exact ⟨sl, (hs.2 b (Nat.ne_of_lt (Nat.lt_of_lt_of_le (Heap.lt_size e) (I.ok.cab x c hfn hc)))).trans e1⟩
    · obtain ⟨o', e1⟩ := I.base.there b o e hx
      exact ⟨o', (hs.2 b (Nat.ne_of_lt (Nat.lt_of_lt_of_le (Heap.lt_size e) (I.ok.cab x c hfn hc)))).trans e1⟩
    · by_cases hj : j = i
      · subst hj
        rw [hi] at e1; cases e1
        rw [List.getElem?_set_self hiσ] at e2
        cases e2
        exact ⟨u, r, .inr ⟨.inl hk, c, hc, hc'⟩⟩
      · rw [List.getElem?_set_ne (Ne.symm hj)] at e2
        obtain ⟨u', r', q⟩ := hl j y v' e1 e2 e3
        refine ⟨u', r', ?_⟩
        rcases q with q | ⟨k, c', e, z'⟩
        · exact .inl q
        · refine .inr ⟨k, c', e, z'.sameBut hs ?_⟩
          rintro rfl
          exact hj (nodup_ix hN e1 (I.ok.inj _ _ _ e hc ▸ hi))
    · by_cases hcc : c' = c
      · subst hcc; exact ⟨_, hc'⟩
      · obtain ⟨w2, z2⟩ := I.cell y c' e
        exact ⟨w2, z2.sameBut hs hcc⟩
    · obtain ⟨e, n, ne, nf, d⟩ := I.pin p hp
      refine ⟨(hs.2 p.1 ?_).trans e, n, ne, nf, d⟩
      intro q
      rw [q, hoc] at e
      have q' : oc = p.2 := Option.some.inj e
      exact d w' (by rw [← q']; exact hocd)
theorem store_ok {M : Model} {A : Around} {E : Value → Shared → Prop} {i : Nat} {x : Str} {v : V} {u : Value} {Q : Unit → Shared → Prop} (I : Inv X pins σ H s) (hN : X.N.Nodup) (hi : X.N[i]? = some x) (hx : Loc X.env.scope x) (r : RelV v u)
    (h : ∀ s', Inv X pins (σ.set i (some v)) H s' → Q () s') (hf : X.fn x = true ∨ X.env.scope.names.lookup x = some .local := by first | exact .inl rfl | exact .inr rfl | assumption) : wpAny M A (storeName X.env x u) Q E s :=
  store_ok2 I hN hi hx r (fun s' I' _ => h s' I') hf
/-- behind a call or a block, the state as it is -/
theorem Inv.call' {s' : Shared} {ch : List Addr} (I : Inv X pins σ H s) (ho : s'.os = s.os) (u : Un (frs X.stack) ch H H' s.heap s'.heap) (hok : HOk X.prog X.w H' s'.heap) (hg : AllBare s'.gens)
    (hch : ∀ b ∈ ch, (b ∈ X.ex ∨ X.s₀.heap.objs.size ≤ b) ∧ b ≠ X.env.locals ∧ (∀ x c, X.env.cells.lookup x = some c → c ≠ b) ∧ ∀ p ∈ X.pn ++ pins, p.1 ≠ b) : Inv X pins σ H' s' := by
  obtain ⟨h', g', d', t', o'⟩ := s'
  have e : o' = s.os := ho
  subst e
  exact I.call (g' := g') (t' := t') (d' := d') u hok hg hch
end
/-! ### the judgements -/
/-- an exception: its class, its own dict's address (where it has one), the abstract heap behind it -/
abbrev XK := Value → Option Addr → Hp → Prop
abbrev St := List (Option V)
abbrev VK := V → Hp → Prop
/-- an expression's reading; a test's; an argument list's -/
abbrev TE := St → Hp → VK → Prop
abbrev TT := St → Hp → (Bool → Hp → Prop) → Prop
abbrev TA := St → Hp → (List V → Hp → Prop) → Prop
/-- what is wanted behind a statement -/
structure Ends where
  nx : St → Hp → Prop
  rt : VK
  bk : St → Hp → Prop := fun _ _ => False
  ct : St → Hp → Prop := fun _ _ => False
abbrev TS := Ends → St → Hp → Prop
def EP (X : Cx) (pins : List (Addr × Obj)) (σ : St) (Q : VK) (u : Value) (s' : Shared) : Prop := ∃ v H', Inv X pins σ H' s' ∧ RelV v u ∧ Q v H'
def TP (X : Cx) (pins : List (Addr × Obj)) (σ : St) (Q : Bool → Hp → Prop) (b : Bool) (s' : Shared) : Prop := ∃ H', Inv X pins σ H' s' ∧ Q b H'
def AP (X : Cx) (pins : List (Addr × Obj)) (σ : St) (Q : List V → Hp → Prop) (us : List Value) (s' : Shared) : Prop := ∃ vs H', Inv X pins σ H' s' ∧ Vals vs us ∧ Q vs H'
def SP (X : Cx) (pins : List (Addr × Obj)) (D : Ends) (f : Flow) (s' : Shared) : Prop :=
  match f with
  | .next => ∃ σ' H', Inv X pins σ' H' s' ∧ D.nx σ' H'
  | .brk => ∃ σ' H', Inv X pins σ' H' s' ∧ D.bk σ' H'
  | .cont => ∃ σ' H', Inv X pins σ' H' s' ∧ D.ct σ' H'
  | .ret u => ∃ v σ' H', Inv X pins σ' H' s' ∧ RelV v u ∧ D.rt v H'
def PE (X : Cx) (e : Expr) (t : TE) : Prop :=
  ∀ (pins : List (Addr × Obj)) (s : Shared) (σ : St) (H : Hp) (Q : VK), Inv X pins σ H s → t σ H Q → wpAny (model X.prog X.w) X.A (eval e X.env) (EP X pins σ Q) X.xe s
def PT (X : Cx) (e : Expr) (t : TT) : Prop :=
  ∀ (pins : List (Addr × Obj)) (s : Shared) (σ : St) (H : Hp) (Q : Bool → Hp → Prop), Inv X pins σ H s → t σ H Q → wpAny (model X.prog X.w) X.A (isTrue e X.env (eval e X.env)) (TP X pins σ Q) X.xe s
/-- a test whatever its 'whole' is (and, or) -/
def PW (X : Cx) (e : Expr) (t : TT) : Prop :=
  ∀ (whole : Sem Value) (pins : List (Addr × Obj)) (s : Shared) (σ : St) (H : Hp) (Q : Bool → Hp → Prop), Inv X pins σ H s → t σ H Q → wpAny (model X.prog X.w) X.A (isTrue e X.env whole) (TP X pins σ Q) X.xe s
theorem PW.pt {X : Cx} {e : Expr} {t : TT} (h : PW X e t) : PT X e t := h _
/-- an argument list (no star), from the left -/
def PA (X : Cx) (es : List Expr) (t : TA) : Prop :=
  ∀ (pos : Pos) (pins : List (Addr × Obj)) (s : Shared) (σ : St) (H : Hp) (Q : List V → Hp → Prop), Inv X pins σ H s → t σ H Q → wpAny (model X.prog X.w) X.A (spliced (backTo pos (starEach es X.env))) (AP X pins σ Q) X.xe s
def PS (X : Cx) (st : Stmt) (t : TS) : Prop :=
  ∀ (pins : List (Addr × Obj)) (s : Shared) (σ : St) (H : Hp) (D : Ends), Inv X pins σ H s → t D σ H → wpAny (model X.prog X.w) X.A (exec st X.env) (SP X pins D) X.xe s
def PSs (X : Cx) (st : List Stmt) (t : TS) : Prop :=
  ∀ (pins : List (Addr × Obj)) (s : Shared) (σ : St) (H : Hp) (D : Ends), Inv X pins σ H s → t D σ H → wpAny (model X.prog X.w) X.A (execs st X.env) (SP X pins D) X.xe s
/-- weaken the end -/
theorem thn {α : Type} {t : Sem α} {Q Q' : α → Shared → Prop} {M : Model} {A : Around} {E : Value → Shared → Prop} {s : Shared} (h : wpAny M A t Q E s) (hQ : ∀ a s, Q a s → Q' a s) : wpAny M A t Q' E s := wpAny_mono h hQ fun _ _ x => x
end L2
namespace L2
open PySem PySem.Spec PyProof.Rows
section
variable {X : Cx}
/-- two expressions in a row -/
theorem bin {a b : Expr} {ta tb : TE} (ha : PE X a ta) (hb : PE X b tb) {pins : List (Addr × Obj)} {s : Shared} {σ : St} {H : Hp} {R : V → V → Hp → Prop} (I : Inv X pins σ H s) (h : ta σ H fun x H1 => tb σ H1 fun y H2 => R x y H2)
    {α : Type} {Q : α → Shared → Prop} {f : Value → Value → Sem α}
    (hf : ∀ v u s2 x y H2, Inv X pins σ H2 s2 → RelV x v → RelV y u → R x y H2 → wpAny (model X.prog X.w) X.A (f v u) Q X.xe s2) :
    wpAny (model X.prog X.w) X.A (eval a X.env) (fun v s₁ => wpAny (model X.prog X.w) X.A (eval b X.env) (fun u s₂ => wpAny (model X.prog X.w) X.A (f v u) Q X.xe s₂) X.xe s₁) X.xe s := by
  refine thn (ha pins s σ H _ I h) fun v s1 ⟨x, H1, I1, r1, q1⟩ => ?_
  refine thn (hb pins s1 σ H1 _ I1 q1) fun u s2 ⟨y, H2, I2, r2, q2⟩ => ?_
  exact hf v u s2 x y H2 I2 r1 r2 q2
/-! ### names and constants -/
def tVar (i : Nat) : TE := fun σ H Q => ∃ v, σ[i]? = some (some v) ∧ Q v H
def tC (v : V) : TE := fun _ H Q => Q v H
theorem pe_var {i : Nat} {x : Str} {pos : Pos} (hN : X.N[i]? = some x) (hv : Vis X.env.scope x) (hd : (x == ("__debug__" : Str)) = false := by decide) (hcd : (x == ("__classdict__" : Str)) = false := by decide) : PE X (.Name x pos) (tVar i) := by
  intro pins s σ H Q I h
  obtain ⟨v, e, h⟩ := h
  obtain ⟨m, hn, hl⟩ := I.loc
  obtain ⟨u, r, l⟩ := hl i x v hN e hv
  have fin : EP X pins σ Q u s := ⟨v, H, I, r, h⟩
  rcases l with ⟨hk, hm⟩ | ⟨hk, c, hc, hcell⟩
  · exact wpAny_Name (wpAny_loadName_local I.ok.kind hk hn hm fin) hd
  · rcases hk with hk | hk
    · exact wpAny_Name (wpAny_loadName_cell I.ok.kind hk hc hcell fin) hd
    · exact wpAny_Name (wpAny_loadName_free I.ok.kind hk hc hcell fin hcd) hd
theorem pe_int {i j pos} : PE X (.Constant (.int i) j pos) (tC (.int i)) := fun _ _ _ H _ I h => wpAny_Constant_int ⟨.int i, H, I.tok _, ⟨_, rfl⟩, h⟩
theorem pe_bl {b j pos} : PE X (.Constant (.bool b) j pos) (tC (.bl b)) := fun _ _ _ H _ I h => Constant_bool ⟨.bl b, H, I, rfl, h⟩
theorem pe_str {x j pos} : PE X (.Constant (.str x) j pos) (tC (.str x)) := fun _ _ _ H _ I h => Calls.Constant_str ⟨.str x, H, I.tok _, ⟨_, rfl⟩, h⟩
/-- a global name of the def -/
def Gl (X : Cx) (x : Str) : Prop := X.env.kindOf x = some .globalImplicit
theorem ld_glob {E : Value → Shared → Prop} {pins : List (Addr × Obj)} {s : Shared} {σ : St} {H : Hp} {x : Str} {u : Value} {pos : Pos} {Q : Value → Shared → Prop} (I : Inv X pins σ H s) (hg : Gl X x) (hm : X.mg x = some u) (h : Q u s)
    (hd : (x == ("__debug__" : Str)) = false := by decide) : wpAny (model X.prog X.w) X.A (eval (.Name x pos) X.env) Q E s :=
  Calls.Name_function_global I.ok.kind hg (Calls.loadGlobal_global (by rw [I.ok.glob]; exact I.mod.glob.keeps I.bk) hm h) hd
theorem ld_blt {E : Value → Shared → Prop} {pins : List (Addr × Obj)} {s : Shared} {σ : St} {H : Hp} {x : Str} {u : Value} {pos : Pos} {Q : Value → Shared → Prop} (I : Inv X pins σ H s) (hg : Gl X x) (hm : X.mg x = none) (hv : bootBuiltins x = some u) (h : Q u s)
    (hn : x ≠ "__name__" := by decide) (hd : (x == ("__debug__" : Str)) = false := by decide) : wpAny (model X.prog X.w) X.A (eval (.Name x pos) X.env) Q E s := by
  obtain ⟨mb, h1, h2⟩ := I.mod.blt
  exact Calls.Name_function_global I.ok.kind hg (Calls.loadGlobal_builtin (by rw [I.ok.glob]; exact I.mod.glob.keeps I.bk) hm (by rw [I.ok.blt]; exact h1.keeps I.bk) ((h2 x hn).trans hv) h) hd
/-- a module's constant, a class, a function, as a value -/
theorem pe_glob {x : Str} {v : V} {u : Value} {pos : Pos} (hg : Gl X x) (hm : X.mg x = some u) (r : RelV v u) (hd : (x == ("__debug__" : Str)) = false := by decide) : PE X (.Name x pos) (tC v) :=
  fun _ _ _ H _ I h => ld_glob I hg hm ⟨v, H, I, r, h⟩ hd
theorem pe_bltn {x : Str} {v : V} {u : Value} {pos : Pos} (hg : Gl X x) (hm : X.mg x = none) (hv : bootBuiltins x = some u) (r : RelV v u) (hn : x ≠ "__name__" := by decide) (hd : (x == ("__debug__" : Str)) = false := by decide) : PE X (.Name x pos) (tC v) :=
  fun _ _ _ H _ I h => ld_blt I hg hm hv ⟨v, H, I, r, h⟩ hn hd
/-! ### arithmetic -/
variable {a b : Expr} {ta tb : TE} {pos : Pos}
/-! ### comparisons -/
def PC (X : Cx) (op : CmpOp) (a b : Expr) (t : TE) : Prop :=
  ∀ (pins : List (Addr × Obj)) (s : Shared) (σ : St) (H : Hp) (Q : VK), Inv X pins σ H s → t σ H Q →
    wpAny (model X.prog X.w) X.A (eval a X.env) (fun v s₁ => wpAny (model X.prog X.w) X.A (eval b X.env) (fun u s₂ => wpAny (model X.prog X.w) X.A (compareOp op v u) (EP X pins σ Q) X.xe s₂) X.xe s₁) X.xe s
/-- a comparison as a value, as a test -/
def tB (t : TE) : TT := fun σ H Q => t σ H fun x H1 => ∃ c, x = .bl c ∧ Q c H1
theorem pt_cmp {op : CmpOp} {t : TE} (h : PC X op a b t) (h1 : behindInMarks op b = false := by first | exact nobehind _ (by decide) (by decide) | rfl) : PT X (.Compare a [op] [b] pos) (tB t) := by
  intro pins s σ H Q I hw
  refine wpAny_isTrue_Compare1 (thn (h pins s σ H _ I hw) fun v s1 h1 => thn h1 fun u s2 h2 => thn h2 fun c s3 ⟨x, H1, I1, r1, q1⟩ => ?_) h1
  obtain ⟨d, rfl, q⟩ := q1
  cases r1
  exact wpAny_truthy_bool ⟨H1, I1, q⟩
/-- an expression whose value is a bool, as a test -/
theorem pt_val {e : Expr} {t : TE} (h : PE X e t) (he : ∀ whole, isTrue e X.env whole = (do let v ← whole; standAt e.pos; holding [v] (truthy v)) := by intro _; rfl) : PT X e (tB t) := by
  intro pins s σ H Q I hw
  refine isTrue_plain (thn (h pins s σ H _ I hw) fun v s1 ⟨x, H1, I1, r1, q1⟩ => ?_) (he _)
  obtain ⟨d, rfl, q⟩ := q1
  cases r1
  exact wpAny_truthy_bool ⟨H1, I1, q⟩
/-! ### and, or, not -/
variable {tA tB' : TT} {rest : List Expr}
def tOr (t u : TT) : TT := fun σ H Q => t σ H fun c H1 => if c = true then Q true H1 else u σ H1 Q
def tNot (t : TT) : TT := fun σ H Q => t σ H fun c H1 => Q (!c) H1
theorem pw_or1 (ha : PT X a tA) : PW X (.BoolOp .Or [a] pos) tA := by
  intro wh pins s σ H Q I h
  refine isTrue_or (thn (ha pins s σ H Q I h) fun c s1 e => ?_)
  cases c with
  | false => exact isTrue_or_nil e
  | true => exact e
theorem pw_or (ha : PT X a tA) (hb : PW X (.BoolOp .Or (b :: rest) pos) tB') : PW X (.BoolOp .Or (a :: b :: rest) pos) (tOr tA tB') := by
  intro wh pins s σ H Q I h
  refine isTrue_or (thn (ha pins s σ H _ I h) fun c s1 ⟨H1, I1, q1⟩ => ?_)
  cases c with
  | true => exact ⟨H1, I1, q1⟩
  | false => exact hb wh pins s1 σ H1 Q I1 q1
theorem pt_not (ha : PT X a tA) : PT X (.UnaryOp .Not a pos) (tNot tA) := by
  intro pins s σ H Q I h
  exact isTrue_not (ha pins s σ H (fun c H1 => Q (!c) H1) I h)
/-- .. as values (bools) -/
def tAndV (ta tb : TE) : TE := fun σ H Q => ta σ H fun x H1 => ∃ c, x = .bl c ∧ if c = true then tb σ H1 Q else Q (.bl false) H1
theorem pe_one {op} {t : TE} (h : PE X a t) : PE X (.BoolOp op [a] pos) t := fun pins s σ H Q I hw => BoolOp_one (h pins s σ H Q I hw)
theorem pe_and (ha : PE X a ta) (hb : PE X (.BoolOp .And (b :: rest) pos) tb) : PE X (.BoolOp .And (a :: b :: rest) pos) (tAndV ta tb) := by
  intro pins s σ H Q I h
  refine BoolOp_and (thn (ha pins s σ H _ I h) fun v s1 ⟨x, H1, I1, r1, q1⟩ => ?_)
  obtain ⟨c, rfl, q1⟩ := q1
  cases r1
  refine wpAny_truthy_bool ?_
  cases c with
  | true => exact hb pins s1 σ H1 Q I1 q1
  | false => exact ⟨.bl false, H1, I1, rfl, q1⟩
/-- a if t else b -/
def tIf (t : TT) (ta tb : TE) : TE := fun σ H Q => t σ H fun c H1 => if c = true then ta σ H1 Q else tb σ H1 Q
theorem pe_ifExp {c : Expr} (hc : PT X c tA) (ha : PE X a ta) (hb : PE X b tb) : PE X (.IfExp c a b pos) (tIf tA ta tb) := by
  intro pins s σ H Q I h
  refine wpAny_IfExp (thn (hc pins s σ H _ I h) fun d s1 ⟨H1, I1, q1⟩ => ?_)
  cases d with
  | true => exact ha pins s1 σ H1 Q I1 q1
  | false => exact hb pins s1 σ H1 Q I1 q1
end
end L2
namespace L2
open PySem PySem.Spec PyProof.Rows
/-! ### a list, a tuple that is read: tracked, frozen, or an object of the module -/
def SqL (K : PySem.W.Frag) (H : Hp) (a : Addr) (xs : List V) : Prop :=
  Rd H a (.lst xs) ∨
    ∃ (o : Obj) (its : Array Value) (n : Nat), K.lookup a = some o ∧ o.cls = .type "list" ∧ o.dict = none ∧ o.data = .seq its n ∧ its.size ≤ sizeLine ∧ Vals xs its.toList
def SqT (K : PySem.W.Frag) (H : Hp) (a : Addr) (xs : List V) : Prop :=
  Rd H a (.tup xs) ∨
    ∃ (o : Obj) (its : Array Value) (n : Nat), K.lookup a = some o ∧ o.cls = .type "tuple" ∧ o.data = .seq its n ∧ its.size ≤ sizeLine ∧ Vals xs its.toList
def absV : Value → Option V
  | .none => some .non
  | .bool b => some (.bl b)
  | .int i _ => some (.int i)
  | .str x _ => some (.str x)
  | .bytes b _ => some (.byt b)
  | .float b _ => some (.flt b)
  | .ref a => some (.ref a)
  | .type n => some (.ty n)
  | _ => none
theorem RelV.abs {x : V} {u : Value} (r : RelV x u) : absV u = some x := by
  cases x with
  | non => cases r; rfl
  | bl _ => cases r; rfl
  | int _ => obtain ⟨t, rfl⟩ := r; rfl
  | str _ => obtain ⟨t, rfl⟩ := r; rfl
  | byt _ => obtain ⟨t, rfl⟩ := r; rfl
  | flt _ => obtain ⟨t, rfl⟩ := r; rfl
  | ref _ => cases r; rfl
  | ty _ => cases r; rfl
theorem RelV.inj {x y : V} {u : Value} (r : RelV x u) (q : RelV y u) : x = y := Option.some.inj (r.abs.symm.trans q.abs)
theorem Vals.inj : ∀ {xs ys : List V} {us : List Value}, Vals xs us → Vals ys us → xs = ys
  | _, _, _, .nil, .nil => rfl
  | _, _, _, .cons r t, .cons r' t' => by rw [r.inj r', Vals.inj t t']
section
variable {X : Cx} {pins : List (Addr × Obj)} {σ : St} {H : Hp} {s : Shared} {a : Addr} {xs ys : List V}
theorem SqL.of {K : PySem.W.Frag} (h : H a = some (.lst xs)) : SqL K H a xs := .inl (.inl h)
theorem SqT.of {K : PySem.W.Frag} (h : H a = some (.tup xs)) : SqT K H a xs := .inl (.inl h)
theorem Inv.list (I : Inv X pins σ H s) (h : SqL X.K H a xs) : ∃ its : List Value, Vals xs its ∧ PlainL s.heap a its.toArray ∧ xs.length ≤ sizeLine := by
  rcases h with h | ⟨o, its, n, hk, hc, hd, hs, hz, r⟩
  · obtain ⟨z, its, n, r, e⟩ := h.ok I.hok
    exact ⟨its, r, ⟨_, n, e, rfl, rfl, rfl⟩, z⟩
  · refine ⟨its.toList, r, ⟨o, n, I.kIn a o hk, hc, hd, by simpa using hs⟩, ?_⟩
    have e := r.length
    simp only [Array.length_toList] at e
    omega
theorem Inv.tuple (I : Inv X pins σ H s) (h : SqT X.K H a xs) : ∃ its : List Value, Vals xs its ∧ IsTup s.heap a its.toArray ∧ xs.length ≤ sizeLine := by
  rcases h with h | ⟨o, its, n, hk, hc, hs, hz, r⟩
  · obtain ⟨z, its, r, p, _⟩ := h.ok I.hok
    exact ⟨its, r, p, z⟩
  · refine ⟨its.toList, r, ⟨o, I.kIn a o hk, hc, n, by simpa using hs⟩, ?_⟩
    have e := r.length
    simp only [Array.length_toList] at e
    omega
theorem Inv.list_inj (I : Inv X pins σ H s) (h : SqL X.K H a xs) (h' : SqL X.K H a ys) : xs = ys := by
  obtain ⟨its, r, ⟨o, n, e, _, _, d⟩, _⟩ := I.list h
  obtain ⟨its', r', ⟨o', n', e', _, _, d'⟩, _⟩ := I.list h'
  rw [e] at e'; cases e'
  rw [d] at d'
  injection d' with d1 _
  have : its = its' := by simpa using congrArg Array.toList d1
  subst this
  exact r.inj r'
theorem Inv.tuple_inj (I : Inv X pins σ H s) (h : SqT X.K H a xs) (h' : SqT X.K H a ys) : xs = ys := by
  obtain ⟨its, r, ⟨o, e, _, n, d⟩, _⟩ := I.tuple h
  obtain ⟨its', r', ⟨o', e', _, n', d'⟩, _⟩ := I.tuple h'
  rw [e] at e'; cases e'
  rw [d] at d'
  injection d' with d1 _
  have : its = its' := by simpa using congrArg Array.toList d1
  subst this
  exact r.inj r'
end
/-! ### another wish about exceptions -/
abbrev Cx.wish (X : Cx) (E : Value → Shared → Prop) : Cx := { X with xe := E }
/-- no exception leaves -/
abbrev Cx.nox (X : Cx) : Cx := X.wish fun _ _ => False
theorem Cx.Ok.wish {X : Cx} (ok : X.Ok) (E : Value → Shared → Prop) : (X.wish E).Ok :=
  ⟨ok.mod, ok.kind, ok.glob, ok.blt, ok.above, ok.inj, ok.has, ok.cab, ok.hd, ok.frames, ok.stk, ok.exf, ok.bs, ok.bsz, ok.noex, ok.exfs, ok.funs, ok.frf⟩
theorem Cx.Ok.unwish {X : Cx} {E : Value → Shared → Prop} (ok : (X.wish E).Ok) : X.Ok :=
  ⟨ok.mod, ok.kind, ok.glob, ok.blt, ok.above, ok.inj, ok.has, ok.cab, ok.hd, ok.frames, ok.stk, ok.exf, ok.bs, ok.bsz, ok.noex, ok.exfs, ok.funs, ok.frf⟩
section
variable {X : Cx} {pins : List (Addr × Obj)} {σ : St} {H : Hp} {s : Shared} {E : Value → Shared → Prop}
theorem Inv.wish (I : Inv X pins σ H s) (E : Value → Shared → Prop) : Inv (X.wish E) pins σ H s := ⟨I.ok.wish E, I.os, I.bare, I.base, I.loc, I.cell, I.free, I.freeC, I.pin, I.hok, I.len⟩
theorem Inv.unwish (I : Inv (X.wish E) pins σ H s) : Inv X pins σ H s := ⟨I.ok.unwish, I.os, I.bare, I.base, I.loc, I.cell, I.free, I.freeC, I.pin, I.hok, I.len⟩
theorem SP.unwish {D : Ends} {f : Flow} {s' : Shared} (h : SP (X.wish E) pins D f s') : SP X pins D f s' := by
  cases f with
  | next => obtain ⟨σ', H', I, q⟩ := h; exact ⟨σ', H', I.unwish, q⟩
  | brk => obtain ⟨σ', H', I, q⟩ := h; exact ⟨σ', H', I.unwish, q⟩
  | cont => obtain ⟨σ', H', I, q⟩ := h; exact ⟨σ', H', I.unwish, q⟩
  | ret u => obtain ⟨v, σ', H', I, r, q⟩ := h; exact ⟨v, σ', H', I.unwish, r, q⟩
theorem PSs.nox {st : List Stmt} {t : TS} (h : PSs X.nox st t) : PSs X st t := fun pins s σ H D I hw =>
  wpAny_mono (h pins s σ H D (I.wish _) hw) (fun _ _ q => q.unwish) fun _ _ z => False.elim z
end
/-! ### blocks and small statements -/
section
variable {X : Cx} {st : Stmt} {rest : List Stmt} {t u : TS} {e : Expr} {te : TE} {pos : Pos}
def tNext : TS := fun D σ H => D.nx σ H
def tSeq (t u : TS) : TS := fun D σ H => t { D with nx := u D } σ H
theorem pss_nil : PSs X [] tNext := fun _ _ σ H _ I h => wpAny_execs_nil ⟨σ, H, I, h⟩
theorem pss_cons (h1 : PS X st t) (h2 : PSs X rest u) : PSs X (st :: rest) (tSeq t u) := by
  intro pins s σ H D I h
  refine wpAny_execs_cons (thn (h1 pins s σ H { D with nx := u D } I h) fun f s1 q => ?_)
  cases f with
  | next =>
    obtain ⟨σ', H', I', q⟩ := q
    exact h2 pins s1 σ' H' D I' q
  | ret v => exact q
  | brk => exact q
  | cont => exact q
theorem pss_one (h1 : PS X st t) : PSs X [st] t := by
  intro pins s σ H D I h
  refine wpAny_execs_cons (thn (h1 pins s σ H D I h) fun f s1 q => ?_)
  cases f with
  | next => exact wpAny_execs_nil q
  | ret v => exact q
  | brk => exact q
  | cont => exact q
/-- in a def's body nothing is shown -/
theorem Inv.quiet {pins : List (Addr × Obj)} {σ : St} {H : Hp} {s : Shared} (I : Inv X pins σ H s) : interactive X.env = false := by simp [interactive, I.ok.kind]
/-- an expression whose value is dropped -/
def tDrop (te : TE) : TS := fun D σ H => te σ H fun _ H1 => D.nx σ H1
theorem ps_expr (he : PE X e te) (hs : swapsWith e none pos.line X.env = pure false := by rfl) : PS X (.Expr e pos) (tDrop te) := by
  intro pins s σ H D I h
  exact wpAny_Expr_any (thn (he pins s σ H _ I h) fun v s1 ⟨x, H1, I1, r1, q1⟩ => ⟨σ, H1, I1, q1⟩) I.quiet hs
def tRet (te : TE) : TS := fun D σ H => te σ H D.rt
theorem ps_ret (he : PE X e te) : PS X (.Return (some e) pos) (tRet te) := by
  intro pins s σ H D I h
  exact wpAny_Return_some (thn (he pins s σ H _ I h) fun v s1 ⟨x, H1, I1, r1, q1⟩ => ⟨x, σ, H1, I1, r1, q1⟩)
def tIfS (c : TT) (t u : TS) : TS := fun D σ H => c σ H fun b H1 => if b = true then t D σ H1 else u D σ H1
theorem ps_if {c : Expr} {a b : List Stmt} {tc : TT} (hc : PT X c tc) (ha : PSs X a t) (hb : PSs X b u) : PS X (.If c a b pos) (tIfS tc t u) := by
  intro pins s σ H D I h
  refine wpAny_If (thn (hc pins s σ H _ I h) fun d s1 ⟨H1, I1, q1⟩ => ?_)
  cases d with
  | true => exact ha pins s1 σ H1 D I1 q1
  | false => exact hb pins s1 σ H1 D I1 q1
/-- code that the proof never comes to -/
def tNever : TS := fun _ _ _ => False
theorem pss_never {sts : List Stmt} : PSs X sts tNever := fun _ _ _ _ _ _ h => h.elim
end
/-! ### targets -/
abbrev TG := V → St → Hp → (St → Hp → Prop) → Prop
abbrev TGs := List V → St → Hp → (St → Hp → Prop) → Prop
def PG (X : Cx) (target : Expr) (t : TG) : Prop :=
  ∀ (pins : List (Addr × Obj)) (s : Shared) (σ : St) (H : Hp) (v : V) (u : Value) (Q : St → Hp → Prop), Inv X pins σ H s → RelV v u → t v σ H Q →
    wpAny (model X.prog X.w) X.A (assign target X.env u) (fun _ s' => ∃ σ' H', Inv X pins σ' H' s' ∧ Q σ' H') X.xe s
/-- several targets, one after another -/
def PGs (X : Cx) (ts : List Expr) (t : TGs) : Prop :=
  ∀ (pins : List (Addr × Obj)) (s : Shared) (σ : St) (H : Hp) (vs : List V) (us : List Value) (Q : St → Hp → Prop), Inv X pins σ H s → Vals vs us → t vs σ H Q →
    wpAny (model X.prog X.w) X.A (assignInOrder ((assignEach ts X.env).map (·.2)) us) (fun _ s' => ∃ σ' H', Inv X pins σ' H' s' ∧ Q σ' H') X.xe s
/-- o[i] = v, by values -/
abbrev TSet := V → V → V → Hp → (Hp → Prop) → Prop
def PSet (X : Cx) (t : TSet) : Prop :=
  ∀ (pins : List (Addr × Obj)) (s : Shared) (σ : St) (H : Hp) (o i v : V) (ov iv u : Value) (Q : Hp → Prop), Inv X pins σ H s → RelV o ov → RelV i iv → RelV v u → t o i v H Q →
    wpAny (model X.prog X.w) X.A (setItem ov iv u) (fun _ s' => ∃ H', Inv X pins σ H' s' ∧ Q H') X.xe s
section
variable {X : Cx} {pos : Pos}
def gName (i : Nat) : TG := fun v σ H Q => Q (σ.set i (some v)) H
theorem pg_name {i : Nat} {x : Str} (hN : X.N.Nodup) (hi : X.N[i]? = some x) (hx : Loc X.env.scope x) (hf : X.fn x = true ∨ X.env.scope.names.lookup x = some .local := by first | exact .inl rfl | exact .inr rfl | assumption) : PG X (.Name x pos) (gName i) := by
  intro pins s σ H v u Q I r h
  exact wpAny_assign_Name (store_ok I hN hi hx r (fun s' I' => ⟨_, H, I', h⟩) hf)
def gNil : TGs := fun vs σ H Q => vs = [] ∧ Q σ H
def gCons (t : TG) (u : TGs) : TGs := fun vs σ H Q => ∃ v r, vs = v :: r ∧ t v σ H fun σ' H' => u r σ' H' Q
theorem pgs_nil : PGs X [] gNil := by
  intro pins s σ H vs us Q I r h
  obtain ⟨e, h⟩ := h
  subst e
  cases r
  exact assignInOrder_nil ⟨σ, H, I, h⟩
theorem pgs_cons {e : Expr} {es : List Expr} {t : TG} {u : TGs} (h1 : PG X e t) (h2 : PGs X es u)
    (hs : (assignEach (e :: es) X.env).map (·.2) = assign e X.env :: (assignEach es X.env).map (·.2) := by rfl) : PGs X (e :: es) (gCons t u) := by
  intro pins s σ H vs us Q I r h
  obtain ⟨v, vr, e1, h⟩ := h
  subst e1
  cases r with
  | cons r rr =>
    rw [hs]
    refine assignInOrder_cons (thn (h1 pins s σ H _ _ _ I r h) fun _ s1 ⟨σ1, H1, I1, q1⟩ => ?_)
    exact h2 pins s1 σ1 H1 _ _ Q I1 rr q1
/-- (a, b, ..) = a tuple of that length -/
def gTup (K : PySem.W.Frag) (n : Nat) (t : TGs) : TG := fun v σ H Q => ∃ a xs, v = .ref a ∧ SqT K H a xs ∧ xs.length = n ∧ t xs σ H Q
theorem pg_tup {es : List Expr} {k : Nat} {t : TGs} {n : Nat} (hc : X.calm = true) (h : PGs X es t)
    (hn : (assignEach es X.env).length = n := by rfl) (hst : (assignEach es X.env).findIdx? (·.1) = none := by rfl) : PG X (.Tuple es k pos) (gTup X.K n t) := by
  intro pins s σ H v u Q I r hw
  obtain ⟨a, xs, e1, hq, hl, hw⟩ := hw
  subst e1
  cases r
  obtain ⟨its, rv, ht, hz⟩ := I.tuple hq
  refine assign_Tuple_tuple (I.ok.hd hc) ht (by simp [hn, ← hl, rv.length]) hst fun h' hx => ?_
  have I1 : Inv X pins σ H { s with heap := h' } := I.kept (t' := s.toks) fun b o e => hx b o (Nat.ne_of_lt (Heap.lt_size e)) e
  exact h pins _ σ H xs _ Q I1 (by simpa using rv) hw
/-- o[i] = .. -/
def gSub (to ti : TE) (t : TSet) : TG := fun v σ H Q => to σ H fun o H1 => ti σ H1 fun i H2 => t o i v H2 fun H3 => Q σ H3
theorem pg_sub {o i : Expr} {to ti : TE} {t : TSet} (ho : PE X o to) (hi : PE X i ti) (hs : PSet X t)
    (ha : ∀ v, assign (.Subscript o i pos) X.env v = (do
      let ov ← holding [v] (eval o X.env)
      let iv ← holding [v, ov] (eval i X.env)
      standAt pos
      holding [v, ov, iv] (setItem ov iv v)
      release [v, ov, iv] []) := by intro _; rfl) : PG X (.Subscript o i pos) (gSub to ti t) := by
  intro pins s σ H v u Q I r h
  rw [ha]
  refine wpAny_bind (wpAny_holding (thn (ho pins s σ H _ I h) fun ov s1 ⟨x, H1, I1, r1, q1⟩ => ?_))
  refine wpAny_bind (wpAny_holding (thn (hi pins s1 σ H1 _ I1 q1) fun iv s2 ⟨y, H2, I2, r2, q2⟩ => ?_))
  refine wpAny_bind (wpAny_standAt (wpAny_bind (wpAny_holding (thn (hs pins s2 σ H2 x y v ov iv u _ I2 r1 r2 r q2) fun _ s3 ⟨H3, I3, q3⟩ => ?_))))
  exact wpAny_release ⟨σ, H3, I3, q3⟩
/-- target = value -/
def tAsg (te : TE) (g : TG) : TS := fun D σ H => te σ H fun x H1 => g x σ H1 D.nx
theorem ps_asg {tg e : Expr} {te : TE} {g : TG} (he : PE X e te) (hg : PG X tg g) (hs : swapsWithSole [tg] e pos.line X.env = pure false := by rfl) (hw : swappedStores [tg] e X.env = pure none := by rfl)
    (h1 : (assignEach [tg] X.env).map (·.2) = [assign tg X.env] := by rfl) : PS X (.Assign [tg] e pos) (tAsg te g) := by
  intro pins s σ H D I h
  refine wpAny_Assign_stores (thn (he pins s σ H _ I h) fun v s1 ⟨x, H1, I1, r1, q1⟩ => ?_) hs hw
  rw [h1]
  exact thn (hg pins s1 σ H1 x v _ I1 r1 q1) fun _ s2 q => q
/-- name = value -/
theorem ps_set {i : Nat} {x : Str} {e : Expr} {te : TE} {pos' : Pos} (hN : X.N.Nodup) (hi : X.N[i]? = some x) (hx : Loc X.env.scope x) (he : PE X e te) (hs : swapsWith e (some (.Name x pos')) pos.line X.env = pure false := by rfl) (hf : X.fn x = true ∨ X.env.scope.names.lookup x = some .local := by first | exact .inl rfl | exact .inr rfl | assumption) :
    PS X (.Assign [.Name x pos'] e pos) (tAsg te (gName i)) := by
  intro pins s σ H D I h
  refine wpAny_Assign_Name (thn (he pins s σ H _ I h) fun v s1 ⟨y, H1, I1, r1, q1⟩ => ?_) hs
  exact store_ok I1 hN hi hx r1 (fun s2 I2 => ⟨_, H1, I2, q1⟩) hf
end
/-! ### while -/
section
variable {X : Cx} {pos : Pos}
end
/-! ### what a loop or a comprehension walks -/
/-- at turn i: it yields x (the heap may grow), or it stops -/
structure It where
  go : Nat → Hp → Prop
  yld : Nat → Hp → V → Hp → Prop
  stop : Nat → Hp → Prop
/-- the iterator's own objects may turn: they are not the frame's, not pinned, younger than the entry (or a comprehension's own) -/
def FpOk (X : Cx) (pins : List (Addr × Obj)) (H : Hp) (b : Addr) : Prop :=
  H b = none ∧ b ≠ X.env.locals ∧ b ∉ X.fs ∧ (b ∈ X.ex ∨ X.s₀.heap.objs.size ≤ b) ∧ (∀ x c, X.env.cells.lookup x = some c → c ≠ b) ∧ ∀ p ∈ X.pn ++ pins, p.1 ≠ b
theorem Inv.fpOk {X : Cx} {pins : List (Addr × Obj)} {σ : St} {H H' : Hp} {s : Shared} {b : Addr} (I : Inv X pins σ H s) (hb : s.heap.objs.size ≤ b) (hn : H' b = none) : FpOk X pins H' b := by
  refine ⟨hn, Nat.ne_of_gt (Nat.lt_of_lt_of_le I.lt hb), I.nofs hb, .inr (Nat.le_trans I.sz hb), fun x c e z => ?_, fun p hp z => ?_⟩
  · obtain ⟨v, q⟩ := I.cell x c e
    exact absurd (Nat.lt_of_lt_of_le q.lt (by rw [z]; exact hb)) (Nat.lt_irrefl _)
  · exact absurd (Nat.lt_of_lt_of_le (Heap.lt_size (I.pin p hp).1) (by rw [z]; exact hb)) (Nat.lt_irrefl _)
structure Turn (P : Program) (w : World) (K : PySem.W.Frag) (tg : Expr) (J : It) (fp : List Addr) (it : Addr) (tn : Nat → Heap → Prop) : Prop where
  mem : it ∈ fp
  obj : ∀ i h, tn i h → ∀ b ∈ fp, ∃ o, h.get? b = some o ∧ ∀ v, o.data ≠ .cell v
  keep : ∀ i h h', tn i h → (∀ b ∈ fp, ∀ o, h.get? b = some o → h'.get? b = some o) → tn i h'
  item : ∀ (X : Cx), X.prog = P → X.w = w → X.K = K → X.calm = true → ∀ (i : Nat) (pins : List (Addr × Obj)) (s : Shared) (σ : St) (H : Hp) (E : Value → Shared → Prop), Inv X pins σ H s → (∀ b ∈ fp, FpOk X pins H b) → tn i s.heap → J.go i H →
    wpAny (model P w) X.A (pyNext (.ref it)) (fun r s1 => ∃ u, r = some u ∧
      wpAny (model P w) X.A (letOwnedTupleGo tg (.ref it) u) (fun _ s2 => ∃ x H', Inv X pins σ H' s2 ∧ RelV x u ∧ J.yld i H x H' ∧ tn (i + 1) s2.heap ∧ ∀ b ∈ fp, H' b = none) E s1) E s
  done : ∀ (X : Cx), X.prog = P → X.w = w → X.K = K → X.calm = true → ∀ (i : Nat) (pins : List (Addr × Obj)) (s : Shared) (σ : St) (H : Hp) (E : Value → Shared → Prop), Inv X pins σ H s → (∀ b ∈ fp, FpOk X pins H b) → tn i s.heap → J.stop i H →
    wpAny (model P w) X.A (pyNext (.ref it)) (fun r s1 => r = none ∧ Inv X pins σ H s1) E s
  self : ∀ (A : Around) (i : Nat) (s : Shared) (Q : Value → Shared → Prop) (E : Value → Shared → Prop), tn i s.heap → Q (.ref it) s → wpAny (model P w) A (pyIter (.ref it)) Q E s
abbrev TI := St → Hp → (It → Hp → Prop) → Prop
/-- an iterator has come -/
def PIE (X : Cx) (pins : List (Addr × Obj)) (σ : St) (tg : Expr) (R : It → Hp → Prop) (itv : Value) (s2 : Shared) : Prop :=
  ∃ (it : Addr) (fp : List Addr) (tn : Nat → Heap → Prop) (J : It) (H' : Hp), itv = .ref it ∧ Inv X pins σ H' s2 ∧ Turn X.prog X.w X.K tg J fp it tn ∧ tn 0 s2.heap ∧ (∀ b ∈ fp, FpOk X pins H' b) ∧ R J H'
def PI (X : Cx) (tg iter : Expr) (wi : TI) : Prop :=
  ∀ (pins : List (Addr × Obj)) (s : Shared) (σ : St) (H : Hp) (R : It → Hp → Prop), Inv X pins σ H s → wi σ H R →
    wpAny (model X.prog X.w) X.A (eval iter X.env) (fun v s1 => wpAny (model X.prog X.w) X.A (pyIter v) (PIE X pins σ tg R) X.xe s1) X.xe s
/-- the step ahead of the store is nothing for an iterator that keeps no tuple -/
theorem go_of {M : Model} {A : Around} {E : Value → Shared → Prop} {s : Shared} {tg : Expr} {it : Addr} {u : Value} {o : Obj} {n : String} {vs : Array Value} {Q : Unit → Shared → Prop} (ho : s.heap.get? it = some o) (hc : o.cls = .type n) (hd : o.data = .fields vs)
    (hn : ["enumerate", "zip", "dict_itemiterator", "dict_reverseitemiterator", "odict_iterator", "itertools.zip_longest", "itertools.pairwise"].contains n = false) (hQ : Q () s) : wpAny M A (letOwnedTupleGo tg (.ref it) u) Q E s := by
  unfold letOwnedTupleGo
  cases tg <;> first
    | exact wpAny_pure hQ
    | (cases u <;> first
        | exact wpAny_pure hQ
        | (refine wpAny_bind (wpAny_load ho ?_)
           rw [hc, hd]
           show wpAny M A (if (["enumerate", "zip", "dict_itemiterator", "dict_reverseitemiterator", "odict_iterator", "itertools.zip_longest", "itertools.pairwise"].contains n && vs[0]? == some (rawInt _)) = true then _ else _) Q E s
           rw [if_neg (by intro h; rw [hn, Bool.false_and] at h; cases h)]
           exact wpAny_pure hQ))
/-- the list at a, as it stands at each turn (a loop may append to it) -/
def Itl (K : PySem.W.Frag) (a : Addr) : It :=
  ⟨fun i H => ∃ xs x, SqL K H a xs ∧ xs[i]? = some x, fun i H x H' => H' = H ∧ ∀ xs, SqL K H a xs → xs[i]? = some x, fun i H => ∃ xs, SqL K H a xs ∧ xs.length ≤ i⟩
def Itt (K : PySem.W.Frag) (a : Addr) : It :=
  ⟨fun i H => ∃ xs x, SqT K H a xs ∧ xs[i]? = some x, fun i H x H' => H' = H ∧ ∀ xs, SqT K H a xs → xs[i]? = some x, fun i H => ∃ xs, SqT K H a xs ∧ xs.length ≤ i⟩
/-- lo, lo + 1, .. (n of them) -/
def Itr (lo : Int) (n : Nat) : It := ⟨fun i _ => i < n, fun i H x H' => H' = H ∧ x = .int (lo + i), fun i _ => n ≤ i⟩
theorem turn_list {P : Program} {w : World} {K : PySem.W.Frag} {tg : Expr} (a it : Addr) : Turn P w K tg (Itl K a) [it] it (fun i h => h.IsListIter it a i) where
  mem := by simp
  obj := fun i h st b hb => by
    have e : b = it := by simpa using hb
    subst e
    obtain ⟨o, e, c, d⟩ := st
    exact ⟨o, e, fun v z => by rw [d] at z; cases z⟩
  keep := fun i h h' st k => st.at fun o e => k it (by simp) o e
  item := by
    intro X hP hw hK hc i pins s σ H E I hf st hg
    subst hP hw hK
    obtain ⟨xs, x, hq, hx⟩ := hg
    obtain ⟨its, rv, p, hz⟩ := I.list hq
    obtain ⟨u, hu, ru⟩ := rv.get hx
    obtain ⟨f0, f1, f2, f3, f4, f5⟩ := hf it (by simp)
    refine wpAny_pyNext_list_item st p.isList (x := u) (by simpa using hu) fun h' st' sb => ?_
    have I1 : Inv X pins σ H { s with heap := h' } := I.turned (t' := s.toks) (fun b o hb e => (sb.2 b hb).trans e) f0 f1 f3 f4 f5
    obtain ⟨o, e, c, d⟩ := id st'
    exact ⟨u, rfl, go_of (s := { s with heap := h' }) e c d (by decide) ⟨x, H, I1, ru, ⟨rfl, fun ys hy => by rw [I.list_inj hy hq]; exact hx⟩, st', fun b hb => (hf b hb).1⟩⟩
  done := by
    intro X hP hw hK hc i pins s σ H E I hf st hg
    subst hP hw hK
    obtain ⟨xs, hq, hx⟩ := hg
    obtain ⟨its, rv, p, hz⟩ := I.list hq
    obtain ⟨f0, f1, f2, f3, f4, f5⟩ := hf it (by simp)
    have hl := rv.length
    exact wpAny_pyNext_list_end (I.ok.hd hc) st p.isList (by simp; omega) fun h' eb => ⟨rfl, I.turned (t' := s.toks) (fun b o hb e => eb b o hb e) f0 f1 f3 f4 f5⟩
  self := fun _ _ _ _ _ st h => wpAny_pyIter_listiter st h
theorem turn_tuple {P : Program} {w : World} {K : PySem.W.Frag} {tg : Expr} (a it : Addr) : Turn P w K tg (Itt K a) [it] it (fun i h => h.IsTupleIter it a i) where
  mem := by simp
  obj := fun i h st b hb => by
    have e : b = it := by simpa using hb
    subst e
    obtain ⟨o, e, c, d⟩ := st
    exact ⟨o, e, fun v z => by rw [d] at z; cases z⟩
  keep := fun i h h' st k => st.at fun o e => k it (by simp) o e
  item := by
    intro X hP hw hK hc i pins s σ H E I hf st hg
    subst hP hw hK
    obtain ⟨xs, x, hq, hx⟩ := hg
    obtain ⟨its, rv, p, hz⟩ := I.tuple hq
    obtain ⟨u, hu, ru⟩ := rv.get hx
    obtain ⟨f0, f1, f2, f3, f4, f5⟩ := hf it (by simp)
    refine wpAny_pyNext_tuple_item st (show s.heap.IsTuple a its.toArray from p) (x := u) (by simpa using hu) fun h' st' sb => ?_
    have I1 : Inv X pins σ H { s with heap := h' } := I.turned (t' := s.toks) (fun b o hb e => (sb.2 b hb).trans e) f0 f1 f3 f4 f5
    obtain ⟨o, e, c, d⟩ := id st'
    exact ⟨u, rfl, go_of (s := { s with heap := h' }) e c d (by decide) ⟨x, H, I1, ru, ⟨rfl, fun ys hy => by rw [I.tuple_inj hy hq]; exact hx⟩, st', fun b hb => (hf b hb).1⟩⟩
  done := by
    intro X hP hw hK hc i pins s σ H E I hf st hg
    subst hP hw hK
    obtain ⟨xs, hq, hx⟩ := hg
    obtain ⟨its, rv, p, hz⟩ := I.tuple hq
    obtain ⟨f0, f1, f2, f3, f4, f5⟩ := hf it (by simp)
    have hl := rv.length
    exact wpAny_pyNext_tuple_end (I.ok.hd hc) st (show s.heap.IsTuple a its.toArray from p) (by simp; omega) fun h' eb => ⟨rfl, I.turned (t' := s.toks) (fun b o hb e => eb b o hb e) f0 f1 f3 f4 f5⟩
  self := fun _ _ _ _ _ st h => wpAny_pyIter_tupleiter st h
theorem turn_range {P : Program} {w : World} {K : PySem.W.Frag} {tg : Expr} (it : Addr) (lo : Int) (n : Nat) : Turn P w K tg (Itr lo n) [it] it (fun i h => IsRangeIter h it (lo + (i : Nat) * 1) ((n : Int) - (i : Nat)) 1) where
  mem := by simp
  obj := fun i h st b hb => by
    have e : b = it := by simpa using hb
    subst e
    exact ⟨_, st, fun v z => by
      have z' : Data.fields _ = Data.cell v := z
      cases z'⟩
  keep := fun i h h' st k => k it (by simp) _ st
  item := by
    intro X hP hw hK hc i pins s σ H E I hf st hg
    subst hP hw hK
    obtain ⟨f0, f1, f2, f3, f4, f5⟩ := hf it (by simp)
    have W := Walks.range (prog := X.prog) (w := X.w) (I.ok.hd hc) it lo 1 n
    refine W.item i s _ _ hg st fun v h' tk hv st' kk => ?_
    obtain ⟨t, rfl⟩ := hv
    have I1 : Inv X pins σ H { s with heap := h', toks := tk } := I.turned (fun b o hb e => kk b o (by simpa using hb) e) f0 f1 f3 f4 f5
    refine ⟨_, rfl, go_of (s := { s with heap := h', toks := tk }) (n := "range_iterator") st' rfl rfl (by decide) ⟨.int (lo + i), H, I1, ⟨t, ?_⟩, ⟨rfl, rfl⟩, st', fun b hb => (hf b hb).1⟩⟩
    rw [Int.mul_one]
  done := by
    intro X hP hw hK hc i pins s σ H E I hf st hg
    subst hP hw hK
    obtain ⟨f0, f1, f2, f3, f4, f5⟩ := hf it (by simp)
    exact wpAny_pyNext_range_end (I.ok.hd hc) st (by have : n ≤ i := hg; omega) fun h' eb => ⟨rfl, I.turned (t' := s.toks) (fun b o hb e => eb b o hb e) f0 f1 f3 f4 f5⟩
  self := fun _ _ _ _ _ st h => wpAny_pyIter_rangeiter st h
end L2
namespace L2
open PySem PySem.Spec PyProof.Rows
section
variable {X : Cx} {tg : Expr}
def iList (K : PySem.W.Frag) (tl : TE) : TI := fun σ H R => tl σ H fun x H1 => ∃ a, x = .ref a ∧ (∃ xs, SqL K H1 a xs) ∧ R (Itl K a) H1
def iTup (K : PySem.W.Frag) (tl : TE) : TI := fun σ H R => tl σ H fun x H1 => ∃ a, x = .ref a ∧ (∃ xs, SqT K H1 a xs) ∧ R (Itt K a) H1
theorem pi_list {l : Expr} {tl : TE} (hl : PE X l tl) : PI X tg l (iList X.K tl) := by
  intro pins s σ H R I h
  refine thn (hl pins s σ H _ I h) fun v s1 ⟨x, H1, I1, r1, q1⟩ => ?_
  obtain ⟨a, e, ⟨xs, hq⟩, q⟩ := q1
  subst e
  cases r1
  obtain ⟨its, rv, p, hz⟩ := I1.list hq
  refine wpAny_pyIter_list p.isList ?_
  refine ⟨s1.heap.objs.size, [s1.heap.objs.size], _, _, H1, rfl, I1.kept (t' := s1.toks) fun b o e => Heap.get?_push_of_some _ e, turn_list a _, ⟨_, Heap.get?_push_size _ rfl, rfl, rfl⟩, fun b hb => ?_, q⟩
  have e : b = s1.heap.objs.size := by simpa using hb
  subst e
  exact I1.fpOk (Nat.le_refl _) (I1.hok.fresh (Nat.le_refl _))
theorem pi_tup {l : Expr} {tl : TE} (hl : PE X l tl) : PI X tg l (iTup X.K tl) := by
  intro pins s σ H R I h
  refine thn (hl pins s σ H _ I h) fun v s1 ⟨x, H1, I1, r1, q1⟩ => ?_
  obtain ⟨a, e, ⟨xs, hq⟩, q⟩ := q1
  subst e
  cases r1
  obtain ⟨its, rv, p, hz⟩ := I1.tuple hq
  refine wpAny_pyIter_tuple (show s1.heap.IsTuple a its.toArray from p) ?_
  refine ⟨s1.heap.objs.size, [s1.heap.objs.size], _, _, H1, rfl, I1.kept (t' := s1.toks) fun b o e => Heap.get?_push_of_some _ e, turn_tuple a _, ⟨_, Heap.get?_push_size _ rfl, rfl, rfl⟩, fun b hb => ?_, q⟩
  have e : b = s1.heap.objs.size := by simpa using hb
  subst e
  exact I1.fpOk (Nat.le_refl _) (I1.hok.fresh (Nat.le_refl _))
/-- a range object just made, walked -/
theorem range_it {pins : List (Addr × Obj)} {σ : St} {H : Hp} {s : Shared} {R : It → Hp → Prop} {E : Value → Shared → Prop} {lo hi : Int} {t u v : Tok} {tk : Nat} (I : Inv X pins σ H s) (h1 : -(2 ^ 62) ≤ lo) (h2 : lo < 2 ^ 62) (h3 : -(2 ^ 62) ≤ hi) (h4 : hi < 2 ^ 62)
    (q : R (Itr lo (hi - lo).toNat) H) : wpAny (model X.prog X.w) X.A (pyIter (.ref s.heap.objs.size)) (PIE X pins σ tg R) E { s with heap := s.heap.push { cls := .type "range", data := .fields #[.int lo t, .int hi u, .int 1 v] }, toks := tk } := by
  refine wpAny_pyIter_range (IsRange.new ..) (small_one h1 h2 h3 h4) ?_
  have I1 : Inv X pins σ H { s with heap := s.heap.push { cls := .type "range", data := .fields #[.int lo t, .int hi u, .int 1 v] }, toks := tk } := I.kept fun b o e => Heap.get?_push_of_some _ e
  refine ⟨(s.heap.push { cls := .type "range", data := .fields #[.int lo t, .int hi u, .int 1 v] }).objs.size, [(s.heap.push { cls := .type "range", data := .fields #[.int lo t, .int hi u, .int 1 v] }).objs.size], _, _, H, rfl,
    I1.kept (t' := tk) fun b o e => Heap.get?_push_of_some _ e, turn_range _ lo (hi - lo).toNat, ?_, fun b hb => ?_, q⟩
  · have e1 : lo + ((0 : Nat) : Int) * 1 = lo := by simp
    have e2 : (((hi - lo).toNat : Nat) : Int) - ((0 : Nat) : Int) = Builtin.Range.rangeSize lo hi 1 := by rw [rangeSize_one]; split <;> omega
    show IsRangeIter _ _ (lo + ((0 : Nat) : Int) * 1) ((((hi - lo).toNat : Nat) : Int) - ((0 : Nat) : Int)) 1
    rw [e1, e2]
    exact Heap.get?_push_size _ rfl
  · have e : b = (s.heap.push { cls := .type "range", data := .fields #[.int lo t, .int hi u, .int 1 v] }).objs.size := by simpa using hb
    subst e
    exact I1.fpOk (Nat.le_refl _) (I1.hok.fresh (Nat.le_refl _))
def iRng1 (ta : TA) : TI := fun σ H R => ta σ H fun vs H1 => ∃ j : Int, vs = [.int j] ∧ -(2 ^ 62) ≤ j ∧ j < 2 ^ 62 ∧ R (Itr 0 j.toNat) H1
theorem pi_range1 {a : Expr} {ta : TA} {p pos : Pos} (hg : Gl X "range") (hm : X.mg "range" = none) (ha : PA X [a] ta) (hs : starEach [a] X.env = [(false, eval a X.env)] := by rfl) : PI X tg (.Call (.Name "range" p) [a] [] pos) (iRng1 ta) := by
  intro pins s σ H R I h
  refine Call_ (ld_blt I hg hm boot_range (PyProof.Rows.callWith_type1 (thn (ha pos pins s σ H _ I h) fun us s1 ⟨vs, H1, I1, r1, q1⟩ => ?_) hs rfl))
  obtain ⟨j, e, q1, q2, q⟩ := q1
  subst e
  cases r1 with
  | cons r rr =>
    cases rr
    obtain ⟨t, rfl⟩ := r
    exact call_range_1 (range_it I1 (by omega) (by omega) q1 q2 (by simpa using q))
/-! ### for -/
/-- W: the invariant by the turn and a measure; N: what the body is to reach -/
def tFor (wi : TI) (g : TG) (tb : TS) : TS := fun D σ H => wi σ H fun J H1 => ∃ W : Nat → Nat → St → Hp → Prop, (∃ m, W 0 m σ H1) ∧ ∀ i m σ H, W i m σ H →
  (J.stop i H ∧ D.nx σ H) ∨ (J.go i H ∧ ∃ N : St → Hp → Prop, (∀ σ' H', N σ' H' → ∃ m', m' < m ∧ W (i + 1) m' σ' H') ∧ ∀ x H', J.yld i H x H' → g x σ H' fun σ2 H2 => tb { D with nx := N, ct := N, bk := D.nx } σ2 H2)
/-- the records at fp as they stand -/
def pinsAt (fp : List Addr) (h : Heap) : List (Addr × Obj) := fp.filterMap fun b => (h.get? b).map fun o => (b, o)
theorem mem_pinsAt {fp : List Addr} {h : Heap} {b : Addr} {o : Obj} (hb : b ∈ fp) (e : h.get? b = some o) : (b, o) ∈ pinsAt fp h := List.mem_filterMap.mpr ⟨b, hb, by rw [e]; rfl⟩
theorem of_pinsAt {fp : List Addr} {h : Heap} {p : Addr × Obj} (hp : p ∈ pinsAt fp h) : p.1 ∈ fp ∧ h.get? p.1 = some p.2 := by
  obtain ⟨b, hb, e⟩ := List.mem_filterMap.mp hp
  cases q : h.get? b with
  | none => rw [q] at e; cases e
  | some o =>
    rw [q] at e
    have e' : (b, o) = p := Option.some.inj e
    subst e'
    exact ⟨hb, q⟩
theorem Inv.pinned {pins : List (Addr × Obj)} {σ : St} {H : Hp} {s : Shared} {fp : List Addr} (I : Inv X pins σ H s) (hf : ∀ b ∈ fp, FpOk X pins H b) (ho : ∀ b ∈ fp, ∃ o, s.heap.get? b = some o ∧ ∀ v, o.data ≠ .cell v) : Inv X (pins ++ pinsAt fp s.heap) σ H s :=
  I.pins_of fun p hp => (List.mem_append.mp hp).elim (fun z => I.pin p (List.mem_append_right _ z)) fun z => by
    obtain ⟨hb, e⟩ := of_pinsAt z
    obtain ⟨f0, f1, f2, _⟩ := hf p.1 hb
    obtain ⟨o, e', d⟩ := ho p.1 hb
    rw [e] at e'; cases e'
    exact ⟨e, f0, f1, f2, d⟩
theorem Inv.unpinned {pins pl : List (Addr × Obj)} {σ : St} {H : Hp} {s : Shared} (I : Inv X (pins ++ pl) σ H s) : Inv X pins σ H s := I.pins_of fun p hp => I.pin p (List.mem_append_right _ (List.mem_append_left _ hp))
theorem ps_for {iter : Expr} {body : List Stmt} {wi : TI} {g : TG} {tb : TS} {pos : Pos} (hp : PassesOwn (model X.prog X.w) X.A X.env X.xe) (hc : X.calm = true) (hi : PI X tg iter wi) (hg : PG X tg g) (hb : PSs X body tb)
    (hs : ∀ x, foldedSetIterable iter X.env x = pure x := by intro _; rfl) : PS X (.For tg iter body [] pos) (tFor wi g tb) := by
  intro pins s σ H D I h
  refine wpAny_For (thn (hi pins s σ H _ I h) fun v s1 h1 => thn h1 fun itv s2 h2 => ?_) hs
  obtain ⟨it, fp, tn, J, H2, e, I2, T, st2, f2, W, ⟨m0, w0⟩, turn⟩ := h2
  subst e
  -- what stays true of the iterator's objects through the loop
  have stat : ∀ {H' : Hp}, (∀ b ∈ fp, H' b = none) → ∀ b ∈ fp, FpOk X pins H' b := fun hn b hb => ⟨hn b hb, (f2 b hb).2⟩
  refine codeAny_forLoop_any (fun n s' => ∃ i σ' H', Inv X pins σ' H' s' ∧ tn i s'.heap ∧ (∀ b ∈ fp, H' b = none) ∧ W i n σ' H') ?_ m0 ⟨0, σ, H2, I2, st2, fun b hb => (f2 b hb).1, w0⟩
  rintro n s3 ⟨i, σ3, H3, I3, st3, fr3, w3⟩
  rcases turn i n σ3 H3 w3 with ⟨stop, qn⟩ | ⟨go, N, hN, step⟩
  · refine wpAny_passesOwn hp (thn (T.done X rfl rfl rfl hc i pins s3 σ3 H3 X.xe I3 (stat fr3) st3 stop) fun r s4 ⟨hr, I4⟩ => ?_)
    subst hr
    exact wpAny_execs_nil ⟨σ3, H3, I4, qn⟩
  · refine wpAny_passesOwn hp (thn (T.item X rfl rfl rfl hc i pins s3 σ3 H3 X.xe I3 (stat fr3) st3 go) fun r s4 ⟨u, hr, h4⟩ => ?_)
    subst hr
    refine wpAny_passesOwn hp (thn h4 fun _ s5 ⟨x, H5, I5, r5, y5, st5, fr5⟩ => ?_)
    have I5' := I5.pinned (stat fr5) (T.obj _ _ st5)
    refine wpAny_passesOwn hp (thn (hg _ s5 σ3 H5 x u _ I5' r5 (step x H5 y5)) fun _ s6 ⟨σ6, H6, I6, q6⟩ => ?_)
    refine wpAny_passesOwn hp (thn (hb _ s6 σ6 H6 _ I6 q6) fun f s7 q7 => ?_)
    have again : ∀ {σ7 : St} {H7 : Hp}, Inv X (pins ++ pinsAt fp s5.heap) σ7 H7 s7 → N σ7 H7 → ∃ m, m < n ∧ ∃ i σ' H', Inv X pins σ' H' s7 ∧ tn i s7.heap ∧ (∀ b ∈ fp, H' b = none) ∧ W i m σ' H' := fun {σ7 H7} I7 n7 => by
      obtain ⟨m', hm, w7⟩ := hN σ7 H7 n7
      refine ⟨m', hm, i + 1, σ7, H7, I7.unpinned, T.keep _ _ _ st5 fun b hb o e => (I7.pin (b, o) (List.mem_append_right _ (List.mem_append_right _ (mem_pinsAt hb e)))).1, fun b hb => ?_, w7⟩
      obtain ⟨o, e, d⟩ := T.obj _ _ st5 b hb
      exact (I7.pin (b, o) (List.mem_append_right _ (List.mem_append_right _ (mem_pinsAt hb e)))).2.1
    cases f with
    | next => obtain ⟨σ7, H7, I7, n7⟩ := q7; exact again I7 n7
    | cont => obtain ⟨σ7, H7, I7, n7⟩ := q7; exact again I7 n7
    | brk => obtain ⟨σ7, H7, I7, q7⟩ := q7; exact ⟨σ7, H7, I7.unpinned, q7⟩
    | ret v => obtain ⟨x7, σ7, H7, I7, r7, q7⟩ := q7; exact ⟨x7, σ7, H7, I7.unpinned, r7, q7⟩
end
/-! ### the forms one uses -/
end L2
namespace L2
open PySem PySem.Spec PyProof.Rows
abbrev R2 := V → V → Hp → VK → Prop
/-- a two-place operation on values: f is binaryOp op, inplaceOp op or compareOp op -/
def OpR (X : Cx) (f : Value → Value → Sem Value) (r : R2) : Prop :=
  ∀ (pins : List (Addr × Obj)) (s : Shared) (σ : St) (H : Hp) (x y : V) (v u : Value) (Q : VK), Inv X pins σ H s → RelV x v → RelV y u → r x y H Q →
    wpAny (model X.prog X.w) X.A (f v u) (EP X pins σ Q) X.xe s
/-- a call of a value that is known (a builtin, a type) with values -/
def CallR (X : Cx) (f : Value) (r : List V → Hp → VK → Prop) : Prop :=
  ∀ (pins : List (Addr × Obj)) (s : Shared) (σ : St) (H : Hp) (xs : List V) (us : List Value) (Q : VK), Inv X pins σ H s → Vals xs us → r xs H Q →
    wpAny (model X.prog X.w) X.A (call f us) (EP X pins σ Q) X.xe s
/-- a value's truth -/
def TruR (X : Cx) (r : V → Hp → (Bool → Hp → Prop) → Prop) : Prop :=
  ∀ (pins : List (Addr × Obj)) (s : Shared) (σ : St) (H : Hp) (x : V) (v : Value) (Q : Bool → Hp → Prop), Inv X pins σ H s → RelV x v → r x H Q →
    wpAny (model X.prog X.w) X.A (truthy v) (TP X pins σ Q) X.xe s
def tOp (r : R2) (ta tb : TE) : TE := fun σ H Q => ta σ H fun x H1 => tb σ H1 fun y H2 => r x y H2 Q
/-- ints in, under C, and a value out -/
def rI (C : Int → Int → Prop) (g : Int → Int → V) : R2 := fun x y H Q => ∃ i j, x = .int i ∧ y = .int j ∧ C i j ∧ Q (g i j) H
def rI0 (g : Int → Int → V) : R2 := fun x y H Q => ∃ i j, x = .int i ∧ y = .int j ∧ Q (g i j) H
section
variable {X : Cx} {a b c : Expr} {ta tb tc : TE} {pos : Pos}
theorem binT (ha : PE X a ta) (hb : PE X b tb) {pins : List (Addr × Obj)} {s : Shared} {σ : St} {H : Hp} {R : V → V → Hp → Prop} (I : Inv X pins σ H s)
    (h : ta σ H fun x H1 => tb σ H1 fun y H2 => R x y H2) {Q : Value → Shared → Prop} {f : Value → Value → Sem Value}
    (hf : ∀ v u s2 x y H2, Inv X pins σ H2 s2 → RelV x v → RelV y u → R x y H2 → wpAny (model X.prog X.w) X.A (f v u) Q X.xe s2) :
    wpAny (model X.prog X.w) X.A (eval a X.env) (fun v s₁ => wpAny (model X.prog X.w) X.A (eval b X.env) (fun u s₂ => wpAny (model X.prog X.w) X.A (f v u) Q X.xe s₂) X.xe s₁) X.xe s := by
  refine thn (ha pins s σ H _ I h) fun v s1 ⟨x, H1, I1, r1, q1⟩ => ?_
  refine thn (hb pins s1 σ H1 _ I1 q1) fun u s2 ⟨y, H2, I2, r2, q2⟩ => ?_
  exact hf v u s2 x y H2 I2 r1 r2 q2
theorem pe_op {op : Operator} {r : R2} (ho : OpR X (binaryOp op) r) (ha : PE X a ta) (hb : PE X b tb) : PE X (.BinOp a op b pos) (tOp r ta tb) := by
  intro pins s σ H Q I h
  exact wpAny_BinOp (binT ha hb I h fun v u s2 x y H2 I2 rx ry q => ho pins s2 σ H2 x y v u Q I2 rx ry q)
/-! ### ints -/
theorem opI {f : Value → Value → Sem Value} {C : Int → Int → Prop} {g : Int → Int → Int}
    (rule : ∀ (i j : Int) (t u : Tok) (s : Shared) (Q : Value → Shared → Prop) (E : Value → Shared → Prop), C i j → Q (.int (g i j) s.toks) { s with toks := s.toks + 1 } → wpAny (model X.prog X.w) X.A (f (.int i t) (.int j u)) Q E s) :
    OpR X f (rI C fun i j => .int (g i j)) := by
  intro pins s σ H x y v u Q I rx ry h
  obtain ⟨i, j, rfl, rfl, hc, q⟩ := h
  obtain ⟨t, rfl⟩ := rx
  obtain ⟨t', rfl⟩ := ry
  exact rule i j t t' s _ _ hc ⟨.int (g i j), H, I.tok _, ⟨_, rfl⟩, q⟩
theorem opI0 {f : Value → Value → Sem Value} {g : Int → Int → Int}
    (rule : ∀ (i j : Int) (t u : Tok) (s : Shared) (Q : Value → Shared → Prop) (E : Value → Shared → Prop), Q (.int (g i j) s.toks) { s with toks := s.toks + 1 } → wpAny (model X.prog X.w) X.A (f (.int i t) (.int j u)) Q E s) :
    OpR X f (rI0 fun i j => .int (g i j)) := by
  intro pins s σ H x y v u Q I rx ry h
  obtain ⟨i, j, rfl, rfl, q⟩ := h
  obtain ⟨t, rfl⟩ := rx
  obtain ⟨t', rfl⟩ := ry
  exact rule i j t t' s _ _ ⟨.int (g i j), H, I.tok _, ⟨_, rfl⟩, q⟩
theorem opB0 {f : Value → Value → Sem Value} {g : Int → Int → Bool}
    (rule : ∀ (i j : Int) (t u : Tok) (s : Shared) (Q : Value → Shared → Prop) (E : Value → Shared → Prop), Q (.bool (g i j)) s → wpAny (model X.prog X.w) X.A (f (.int i t) (.int j u)) Q E s) :
    OpR X f (rI0 fun i j => .bl (g i j)) := by
  intro pins s σ H x y v u Q I rx ry h
  obtain ⟨i, j, rfl, rfl, q⟩ := h
  obtain ⟨t, rfl⟩ := rx
  obtain ⟨t', rfl⟩ := ry
  exact rule i j t t' s _ _ ⟨.bl (g i j), H, I, rfl, q⟩
def CPow (i j : Int) : Prop := 0 ≤ j ∧ j ≤ 1000000 ∧ i.natAbs < 2 ^ 64
def CMul (i j : Int) : Prop := (-(2 ^ 64) < i ∧ i < 2 ^ 64) ∨ (-(2 ^ 64) < j ∧ j < 2 ^ 64)
theorem CMul.ok {i j : Int} (h : CMul i j) : IntMulOk i j := by
  rcases h with ⟨h1, h2⟩ | ⟨h1, h2⟩
  · exact .of_left (intBits_le_64 h1 h2)
  · exact .of_right (intBits_le_64 h1 h2)
theorem op_add : OpR X (binaryOp .Add) (rI0 fun i j => .int (i + j)) := opI0 fun _ _ _ _ _ _ _ q => add_int q
theorem op_sub : OpR X (binaryOp .Sub) (rI0 fun i j => .int (i - j)) := opI0 fun _ _ _ _ _ _ _ q => sub_int q
theorem op_mul : OpR X (binaryOp .Mult) (rI CMul fun i j => .int (i * j)) := opI fun _ _ _ _ _ _ _ hc q => mul_int q hc.ok
/-- % by a positive divisor of any size -/
theorem op_mod : OpR X (binaryOp .Mod) (rI (fun _ j => 0 < j) fun i j => .int (i % j)) := opI fun i j _ _ _ _ _ hc q => by
  have h1 : (0 : Int) < j := hc
  exact mod_int' (by omega) (by rw [Int.fmod_eq_emod_of_nonneg i (by omega)]; exact q)
theorem op_pow : OpR X (binaryOp .Pow) (rI CPow fun i j => .int (i ^ j.toNat)) := opI fun _ _ _ _ _ _ _ hc q => pow_int_small hc.1 hc.2.1 hc.2.2 q
/-! ### bools among ints: n += (a < b) -/
end
/-! ### comparisons -/
/-- the scalars that == tells apart as data does -/
def scal : V → V → Bool
  | .non, .non => true | .non, .int _ => true | .int _, .non => true | .non, .bl _ => true | .bl _, .non => true | .non, .str _ => true | .str _, .non => true
  | .int _, .int _ => true | .bl _, .bl _ => true | .str _, .str _ => true | .byt _, .byt _ => true
  | .int _, .str _ => true | .str _, .int _ => true | .bl _, .str _ => true | .str _, .bl _ => true
  | _, _ => false
def rNe : R2 := fun x y H Q => scal x y = true ∧ Q (.bl (!decide (x = y))) H
theorem dec_int {i j : Int} : decide (V.int i = V.int j) = (i == j) := by
  rw [Bool.eq_iff_iff]
  simp
theorem dec_bl {i j : Bool} : decide (V.bl i = V.bl j) = (i == j) := by
  rw [Bool.eq_iff_iff]
  simp
theorem dec_str {i j : Str} : decide (V.str i = V.str j) = (i == j) := by
  rw [Bool.eq_iff_iff]
  simp
theorem dec_byt {i j : Array UInt8} : decide (V.byt i = V.byt j) = (i.toList == j.toList) := by
  rw [Bool.eq_iff_iff]
  cases i
  cases j
  simp
section
variable {X : Cx} {a b c : Expr} {ta tb tc : TE} {pos : Pos}
theorem fin_bl {pins : List (Addr × Obj)} {σ : St} {H : Hp} {s : Shared} {Q : VK} {k k' : Bool} (I : Inv X pins σ H s) (q : Q (.bl k) H) (e : k = k') : EP X pins σ Q (.bool k') s := by
  subst e
  exact ⟨.bl k, H, I, rfl, q⟩
theorem op_ne : OpR X (compareOp .NotEq) rNe := by
  intro pins s σ H x y v u Q I rx ry h
  obtain ⟨hs, q⟩ := h
  cases x with
  | non =>
    cases rx
    cases y with
    | non => cases ry; exact PySem.EqNone.ne_none_none (fin_bl I q (by simp))
    | bl j => cases ry; exact PySem.EqNone.ne_none_bool (fin_bl I q (by simp))
    | int j => obtain ⟨t', rfl⟩ := ry; exact PySem.EqNone.ne_none_int (fin_bl I q (by simp))
    | str j => obtain ⟨t', rfl⟩ := ry; exact PySem.EqNone.ne_none_str (fin_bl I q (by simp))
    | _ => exact absurd (show false = true from hs) Bool.false_ne_true
  | bl i =>
    cases rx
    cases y with
    | non => cases ry; exact PySem.EqNone.ne_bool_none (fin_bl I q (by simp))
    | bl j => cases ry; exact ne_bool (fin_bl I q (congrArg not dec_bl))
    | str j => obtain ⟨t', rfl⟩ := ry; exact PySem.EqMixed.ne_bool_str (fin_bl I q (by simp))
    | _ => exact absurd (show false = true from hs) Bool.false_ne_true
  | int i =>
    obtain ⟨t, rfl⟩ := rx
    cases y with
    | non => cases ry; exact PySem.EqNone.ne_int_none (fin_bl I q (by simp))
    | int j => obtain ⟨t', rfl⟩ := ry; exact ne_int (fin_bl I q (congrArg not dec_int))
    | str j => obtain ⟨t', rfl⟩ := ry; exact PySem.EqMixed.ne_int_str (fin_bl I q (by simp))
    | _ => exact absurd (show false = true from hs) Bool.false_ne_true
  | str i =>
    obtain ⟨t, rfl⟩ := rx
    cases y with
    | non => cases ry; exact PySem.EqNone.ne_str_none (fin_bl I q (by simp))
    | bl j => cases ry; exact PySem.EqMixed.ne_str_bool (fin_bl I q (by simp))
    | int j => obtain ⟨t', rfl⟩ := ry; exact PySem.EqMixed.ne_str_int (fin_bl I q (by simp))
    | str j => obtain ⟨t', rfl⟩ := ry; exact ne_str (fin_bl I q (congrArg not dec_str))
    | _ => exact absurd (show false = true from hs) Bool.false_ne_true
  | byt i =>
    obtain ⟨t, rfl⟩ := rx
    cases y with
    | byt j => obtain ⟨t', rfl⟩ := ry; exact PySem.W.ne_bytes (fin_bl I q (congrArg not dec_byt))
    | _ => exact absurd (show false = true from hs) Bool.false_ne_true
  | _ => cases y <;> exact absurd (show false = true from hs) Bool.false_ne_true
theorem op_lt : OpR X (compareOp .Lt) (rI0 fun i j => .bl (decide (i < j))) := opB0 fun _ _ _ _ _ _ _ q => lt_int q
theorem op_gt : OpR X (compareOp .Gt) (rI0 fun i j => .bl (decide (j < i))) := opB0 fun _ _ _ _ _ _ _ q => gt_int q
theorem op_ge : OpR X (compareOp .GtE) (rI0 fun i j => .bl (decide (j ≤ i))) := opB0 fun _ _ _ _ _ _ _ q => ge_int q
/-- two rules for one operation: by cases -/
theorem OpR.or {f : Value → Value → Sem Value} {r r' : R2} (h : OpR X f r) (h' : OpR X f r') : OpR X f (fun x y H Q => r x y H Q ∨ r' x y H Q) := by
  intro pins s σ H x y v u Q I rx ry q
  rcases q with q | q
  · exact h pins s σ H x y v u Q I rx ry q
  · exact h' pins s σ H x y v u Q I rx ry q
theorem nomark (b : Expr) {op : CmpOp} (h : op ≠ .In := by decide) (h2 : op ≠ .NotIn := by decide) : behindInMarks op b = false := by
  have e1 : (op == CmpOp.In) = false := by cases op <;> first | rfl | exact absurd rfl h
  have e2 : (op == CmpOp.NotIn) = false := by cases op <;> first | rfl | exact absurd rfl h2
  cases b <;> simp [behindInMarks, e1, e2]
/-- a comparison as a value; hm: nomark b, or (for in, not in) by with_unfolding_all rfl -/
theorem pe_cmpR {op : CmpOp} {r : R2} (ho : OpR X (compareOp op) r) (ha : PE X a ta) (hb : PE X b tb) (hm : behindInMarks op b = false) : PE X (.Compare a [op] [b] pos) (tOp r ta tb) := by
  intro pins s σ H Q I h
  exact wpAny_Compare1 (binT ha hb I h fun v u s2 x y H2 I2 rx ry q => ho pins s2 σ H2 x y v u Q I2 rx ry q) hm
/-- a reading of a value as a test -/
def tTest (t : TE) : TT := fun σ H Q => t σ H fun x H' => ∃ k, x = .bl k ∧ Q k H'
theorem pt_cmpR {op : CmpOp} {r : R2} (ho : OpR X (compareOp op) r) (ha : PE X a ta) (hb : PE X b tb) (hm : behindInMarks op b = false) : PT X (.Compare a [op] [b] pos) (tTest (tOp r ta tb)) := by
  intro pins s σ H Q I h
  refine wpAny_isTrue_Compare1 (thn (ha pins s σ H _ I h) fun v s1 ⟨x, H1, I1, r1, q1⟩ => thn (hb pins s1 σ H1 _ I1 q1) fun u s2 ⟨y, H2, I2, r2, q2⟩ =>
    thn (ho pins s2 σ H2 x y v u _ I2 r1 r2 q2) fun c s3 ⟨z, H3, I3, r3, k, e, q3⟩ => ?_) hm
  subst e
  cases r3
  exact wpAny_truthy_bool ⟨H3, I3, q3⟩
/-! ### truth -/
/-- a value's truth by the abstract heap -/
def TruV (K : PySem.W.Frag) (x : V) (H : Hp) (k : Bool) : Prop :=
  match x with
  | .non => k = false
  | .bl b => k = b
  | .int i => k = (i != 0)
  | .str y => y.length ≤ sizeLine ∧ k = ((y.length : Int) != 0)
  | .byt y => y.size ≤ sizeLine ∧ k = ((y.size : Int) != 0)
  | .ref p => (∃ xs, SqL K H p xs ∧ k = !xs.isEmpty) ∨ (∃ xs, SqT K H p xs ∧ k = !xs.isEmpty) ∨ ∃ kvs, H p = some (.dK kvs) ∧ k = !kvs.isEmpty
  | _ => False
theorem isEmpty_kv {κ : Type} {kvs : List (κ × V)} {vs : List (κ × Value)} (r : KV kvs vs) : (!vs.isEmpty) = !kvs.isEmpty := by
  cases r <;> rfl
theorem isEmpty_of {xs : List V} {its : List Value} (r : Vals xs its) : (!its.toArray.isEmpty) = !xs.isEmpty := by
  cases r <;> simp
theorem line63 : (sizeLine : Nat) < 2 ^ 63 := by rw [sizeLine_eq]; decide
theorem tru_ok : TruR X (fun x H Q => ∃ k, TruV X.K x H k ∧ Q k H) := by
  intro pins s σ H x v Q I rx h
  obtain ⟨k, e, q⟩ := h
  have hl := line63
  have hs : sizeLine = 16777216 := sizeLine_eq
  cases x with
  | non =>
    cases rx
    have e' : k = false := e
    subst e'
    exact truthy_none ⟨H, I, q⟩
  | bl b =>
    cases rx
    have e' : k = b := e
    subst e'
    exact wpAny_truthy_bool ⟨H, I, q⟩
  | int i =>
    obtain ⟨t, rfl⟩ := rx
    have e' : k = (i != 0) := e
    subst e'
    exact PySem.P.truthy_int ⟨H, I, q⟩
  | str y =>
    obtain ⟨t, rfl⟩ := rx
    obtain ⟨hy, e'⟩ : y.length ≤ sizeLine ∧ k = ((y.length : Int) != 0) := e
    subst e'
    exact PySem.P.truthy_str (by omega) ⟨H, I.tok _, q⟩
  | byt y =>
    obtain ⟨t, rfl⟩ := rx
    obtain ⟨hy, e'⟩ : y.size ≤ sizeLine ∧ k = ((y.size : Int) != 0) := e
    subst e'
    exact PySem.W.truthy_bytes (by omega) ⟨H, I.tok _, q⟩
  | ref p =>
    cases rx
    have e' : (∃ xs, SqL X.K H p xs ∧ k = !xs.isEmpty) ∨ (∃ xs, SqT X.K H p xs ∧ k = !xs.isEmpty) ∨ ∃ kvs, H p = some (.dK kvs) ∧ k = !kvs.isEmpty := e
    rcases e' with ⟨xs, hx, e'⟩ | ⟨xs, hx, e'⟩ | ⟨kvs, hx, e'⟩
    · subst e'
      obtain ⟨its, r, pl, hz⟩ := I.list hx
      have hlen := r.length
      exact wpAny_truthy_list pl.isList (by simp only [List.size_toArray]; omega) ⟨H, I.tok _, by rw [isEmpty_of r]; exact q⟩
    · subst e'
      obtain ⟨its, r, pl, hz⟩ := I.tuple hx
      have hlen := r.length
      exact truthy_tuple pl (by simp only [List.size_toArray]; omega) ⟨H, I.tok _, by rw [isEmpty_of r]; exact q⟩
    · subst e'
      obtain ⟨hz, hS, vs, r, m⟩ : kvs.length ≤ sizeLine ∧ (p == sysModules) = false ∧ ∃ vs, KV kvs vs ∧ s.heap.DictOf (mixKind X.prog X.w) p vs := I.hok p _ hx
      have hlen : kvs.length = vs.length := Paired.length r
      exact wpAny_truthy_dict hS m (by omega) ⟨H, I.tok _, by rw [isEmpty_kv r]; exact q⟩
  | _ => exact (show False from e).elim
/-! ### strs and bytes -/
/-! ### scalar builtins, by CallR -/
theorem vals1 {x : V} {us : List Value} (r : Vals [x] us) : ∃ u, us = [u] ∧ RelV x u := by
  cases r with
  | cons r1 r2 => cases r2; exact ⟨_, rfl, r1⟩
theorem vals2 {x y : V} {us : List Value} (r : Vals [x, y] us) : ∃ u w', us = [u, w'] ∧ RelV x u ∧ RelV y w' := by
  cases r with
  | cons r1 r2 =>
    cases r2 with
    | cons r3 r4 => cases r4; exact ⟨_, _, rfl, r1, r3⟩
theorem call_max2 (hc : X.calm = true) : CallR X (.builtin "max") (fun xs H Q => ∃ i j, xs = [.int i, .int j] ∧ Q (.int (if j > i then j else i)) H) := by
  intro pins s σ H xs us Q I r h
  obtain ⟨i, j, rfl, q⟩ := h
  obtain ⟨u, w', rfl, ⟨t, rfl⟩, ⟨t', rfl⟩⟩ := vals2 r
  refine max_two_ints (I.ok.hd hc) fun h' tk k => ⟨_, H, I.kept k, ?_, q⟩
  by_cases hj : j > i
  · rw [if_pos hj, if_pos hj]; exact ⟨_, rfl⟩
  · rw [if_neg hj, if_neg hj]; exact ⟨_, rfl⟩
theorem call_min2 (hc : X.calm = true) : CallR X (.builtin "min") (fun xs H Q => ∃ i j, xs = [.int i, .int j] ∧ Q (.int (if j < i then j else i)) H) := by
  intro pins s σ H xs us Q I r h
  obtain ⟨i, j, rfl, q⟩ := h
  obtain ⟨u, w', rfl, ⟨t, rfl⟩, ⟨t', rfl⟩⟩ := vals2 r
  refine min_two_ints (I.ok.hd hc) fun h' tk k => ⟨_, H, I.kept k, ?_, q⟩
  by_cases hj : j < i
  · rw [if_pos hj, if_pos hj]; exact ⟨_, rfl⟩
  · rw [if_neg hj, if_neg hj]; exact ⟨_, rfl⟩
/-- len of a str, a bytes, a list, a tuple -/
def LenV (K : PySem.W.Frag) (x : V) (H : Hp) (n : Nat) : Prop :=
  match x with
  | .str y => y.length ≤ sizeLine ∧ n = y.length
  | .byt y => y.size ≤ sizeLine ∧ n = y.size
  | .ref p => (∃ xs, SqL K H p xs ∧ n = xs.length) ∨ ∃ xs, SqT K H p xs ∧ n = xs.length
  | _ => False
theorem call_len : CallR X (.builtin "len") (fun xs H Q => ∃ x n, xs = [x] ∧ LenV X.K x H n ∧ Q (.int n) H) := by
  intro pins s σ H xs us Q I r h
  obtain ⟨x, n, rfl, e, q⟩ := h
  obtain ⟨u, rfl, rx⟩ := vals1 r
  have hl := line63
  have hs : sizeLine = 16777216 := sizeLine_eq
  cases x with
  | str y =>
    obtain ⟨t, rfl⟩ := rx
    obtain ⟨hy, e'⟩ : y.length ≤ sizeLine ∧ n = y.length := e
    subst e'
    exact len_str (by omega) ⟨.int _, H, I.tok _, ⟨_, rfl⟩, q⟩
  | byt y =>
    obtain ⟨t, rfl⟩ := rx
    obtain ⟨hy, e'⟩ : y.size ≤ sizeLine ∧ n = y.size := e
    subst e'
    exact PySem.W.len_bytes (by omega) ⟨.int _, H, I.tok _, ⟨_, rfl⟩, q⟩
  | ref p =>
    cases rx
    have e' : (∃ xs, SqL X.K H p xs ∧ n = xs.length) ∨ ∃ xs, SqT X.K H p xs ∧ n = xs.length := e
    rcases e' with ⟨xs, hx, e'⟩ | ⟨xs, hx, e'⟩
    · subst e'
      obtain ⟨its, r', pl, hz⟩ := I.list hx
      have hlen := r'.length
      exact Calls.call_len_list pl.isList (by simp only [List.size_toArray]; omega) ⟨.int xs.length, H, I.tok _, ⟨_, by simp only [List.size_toArray]; rw [hlen]⟩, q⟩
    · subst e'
      obtain ⟨its, r', pl, hz⟩ := I.tuple hx
      have hlen := r'.length
      exact len_tuple pl (by simp only [List.size_toArray]; omega) ⟨.int xs.length, H, I.tok _, ⟨_, by simp only [List.size_toArray]; rw [hlen]⟩, q⟩
  | _ => exact (show False from e).elim
end
end L2
namespace L2
open PySem PySem.Spec PyProof.Rows
/-! ### an instance, its attributes a map -/
structure ObjM (h : Heap) (x dx C : Addr) (mA : Str → Option Value) : Prop where
  obj : h.get? x = some (PySem.W.instObj C dx)
  ns : h.Ns1 dx mA
  ne : dx ≠ x
theorem lookIn_ns {h : Heap} {dx : Addr} {mA : Str → Option Value} (n : h.Ns1 dx mA) : ∃ od, h.get? dx = some od ∧ ∀ name, PySem.W.lookIn name od = some (mA name) := by
  obtain ⟨o, es, ep, ho, hd, hk, _, hm⟩ := n
  refine ⟨o, ho, fun name => ?_⟩
  have e := hm name
  unfold nsFind findBy at e
  rw [← Array.find?_toList] at e
  unfold PySem.W.lookIn
  rw [hd]
  dsimp only
  split
  · rename_i y q
    rw [q] at e
    exact congrArg some e
  · rename_i q
    rw [q] at e
    have a : es.toList.any (·.refKey) = false := by
      rw [List.any_eq_false]
      intro y hy
      obtain ⟨z, t, hkey⟩ := hk y (Array.mem_toList_iff.mp hy)
      simp [DictEntry.refKey, hkey]
    have a' : ¬ es.toList.any (·.refKey) = true := by rw [a]; exact Bool.false_ne_true
    rw [if_neg a']
    exact congrArg some e
theorem ObjM.look {h : Heap} {x dx C : Addr} {mA : Str → Option Value} (I : ObjM h x dx C mA) : ∃ od, PySem.W.InstAt h x (PySem.W.instObj C dx) C (some od) ∧ ∀ name, PySem.W.lookIn name od = some (mA name) :=
  let ⟨od, ho, hl⟩ := lookIn_ns I.ns
  ⟨od, ⟨I.obj, rfl, rfl, ho⟩, hl⟩
section
variable {prog : Program} {w : World} {A : Around} {E : Value → Shared → Prop} {s : Shared} {K : PySem.W.Frag} {x dx C f : Addr} {mA : Str → Option Value} {name : Str} {v : Value}
end
/-! ### the attributes as a list of pairs -/
theorem RelO.some_of {v : V} {o : Option Value} (r : RelO (some v) o) : ∃ u, o = some u ∧ RelV v u := by
  cases o with
  | none => exact (show False from r).elim
  | some u => exact ⟨u, rfl, r⟩
section
variable {P : Program} {w : World} {H H' : Hp} {h h' : Heap} {a C dx : Addr} {fs fs' : List (Str × V)}
theorem ins_get (hok : HOk P w H h) (e : H a = some (.ins C dx fs)) : ∃ mA, ObjM h a dx C mA ∧ (∀ f, RelO (fs.lookup f) (mA f)) ∧ PySem.Within mA (fs.map (·.1)) ∧ fs.length ≤ 1000 ∧ H dx = some (.own a) := by
  obtain ⟨d, z, ne, ob, mA, n, r, q⟩ := (show ObjOk P w H h a (.ins C dx fs) from hok a _ e)
  exact ⟨mA, ⟨ob, n, ne⟩, r, q, z, d⟩
end
/-! ### what of the text a class must have -/
structure Cls (K : PySem.W.Frag) (C : Addr) : Prop where
  pg : PySem.W.plainGet K C Str.empty = true
  hd : PySem.W.hasDictIn K C = true
  po : PySem.W.plainOver K C = true
  sa : PySem.W.findIn K (.ref C) "__setattr__" = some (some (.builtin "object.__setattr__"))
theorem Cls.get {K : PySem.W.Frag} {C : Addr} (c : Cls K C) (f : Str) : PySem.W.plainGet K C f = true := c.pg
/-- a constant of the class -/
structure Con (K : PySem.W.Frag) (C : Addr) (f : Str) (v : V) (u : Value) : Prop where
  at_ : PySem.W.findIn K (.ref C) f = some (some u)
  rel : RelV v u
  get : PySem.W.specialIn K u "__get__" = some none
  cp : PySem.W.copiedNames.contains f = false
/-- a method: a plain def of the class or of one above it -/
structure Meth (K : PySem.W.Frag) (C : Addr) (m : Str) (f : Addr) : Prop where
  at_ : PySem.W.findIn K (.ref C) m = some (some (.ref f))
  fn : PySem.W.isFn K (.ref f) = true
  kp : PySem.W.keepIn K (.ref f) = true
section
variable {X : Cx} {pins : List (Addr × Obj)} {σ : St} {H : Hp} {s : Shared} {a C dx : Addr} {fs : List (Str × V)} {f : Str} {v : V} {A : Around} {E : Value → Shared → Prop}
end
/-! ### readings and rules -/
section
variable {X : Cx} {o e value : Expr} {f : Str} {pos pos' tpos : Pos} {ta tv : TE}
end
/-! ### isinstance -/
section
variable {X : Cx} {pins : List (Addr × Obj)} {σ : St} {H : Hp} {s : Shared} {A : Around} {E : Value → Shared → Prop} {Q : Value → Shared → Prop} {c : Value} {b : Bool}
/-- the type of a value, as the fragment's deciders take it; for an instance its class -/
inductive TyOf (K : PySem.W.Frag) (H : Hp) : V → Value → Prop where
  | non : TyOf K H .non (.type "NoneType")
  | bl (x : Bool) : TyOf K H (.bl x) (.type "bool")
  | int (i : Int) : TyOf K H (.int i) (.type "int")
  | str (x : Str) : TyOf K H (.str x) (.type "str")
  | flt (x : UInt64) : TyOf K H (.flt x) (.type "float")
  | lst {a : Addr} {xs : List V} (e : H a = some (.lst xs)) : TyOf K H (.ref a) (.type "list")
  | frz {a : Addr} {o : Obj} {xs : List V} (e : H a = some (.frz o (.lst xs))) : TyOf K H (.ref a) (.type "list")
  | tup {a : Addr} {xs : List V} (e : H a = some (.tup xs)) : TyOf K H (.ref a) (.type "tuple")
  | dK {a : Addr} {kvs : List (Key × V)} (e : H a = some (.dK kvs)) : TyOf K H (.ref a) (.type "dict")
  | dT {a : Addr} {kvs : List (List Key × V)} (e : H a = some (.dT kvs)) : TyOf K H (.ref a) (.type "dict")
  | ins {a C dx : Addr} {fs : List (Str × V)} (e : H a = some (.ins C dx fs)) (cl : Cls K C) (ha : PySem.W.findIn K (.ref C) "__class__" = some (some (.builtin "object.__class__")))
      (hn : PySem.W.specialIn K (.builtin "object.__class__") "__get__" = some (some (.builtin "getset_descriptor.__get__"))) (htk : PySem.W.takesIn K (.builtin "object.__class__") = some true)
      (hm : PySem.W.mroIn K C (.type "object") = some true) : TyOf K H (.ref a) (.ref C)
/-- isinstance(x, c) for one class c, a built-in or an own one: kitOne's answer -/
theorem isinst_ok {x : V} {u t : Value} (I : Inv X pins σ H s) (rx : RelV x u) (ty : TyOf X.K H x t) (e : PySem.W.kitOne X.K t c = some b) (h : ∀ tk, Q (.bool b) { s with toks := tk }) :
    wpAny (model X.prog X.w) A (call (.builtin "isinstance") [u, c]) Q E s := by
  cases ty with
  | non => cases (show u = Value.none from rx); exact PySem.W.kia_one PySem.W.kitx_none I.kIn True.intro e (fun z => nomatch z) h
  | bl y => cases (show u = Value.bool y from rx); exact PySem.W.kia_one PySem.W.kitx_bool I.kIn True.intro e (fun z => nomatch z) h
  | int i => obtain ⟨t, q⟩ := (show ∃ t, u = Value.int i t from rx); cases q; exact PySem.W.kia_one PySem.W.kitx_int I.kIn True.intro e (fun z => nomatch z) h
  | str y => obtain ⟨t, q⟩ := (show ∃ t, u = Value.str y t from rx); cases q; exact PySem.W.kia_one PySem.W.kitx_str I.kIn True.intro e (fun z => nomatch z) h
  | flt y => obtain ⟨t, q⟩ := (show ∃ t, u = Value.float y t from rx); cases q; exact PySem.W.kia_one PySem.W.kitx_float I.kIn True.intro e (fun z => nomatch z) h
  | @lst a xs ea =>
    cases (show u = Value.ref a from rx)
    obtain ⟨_, _, n, _, h1⟩ := (show ObjOk X.prog X.w H s.heap a (.lst xs) from I.hok a _ ea)
    exact PySem.W.kia_one PySem.W.kitx_list I.kIn ⟨_, h1, rfl⟩ e (fun z => nomatch z) h
  | @frz a ob xs ea =>
    cases (show u = Value.ref a from rx)
    obtain ⟨_, _, _, n, _, h1⟩ := (show ObjOk X.prog X.w H s.heap a (.frz ob (.lst xs)) from I.hok a _ ea)
    exact PySem.W.kia_one PySem.W.kitx_list I.kIn ⟨_, h1, rfl⟩ e (fun z => nomatch z) h
  | @tup a xs ea =>
    cases (show u = Value.ref a from rx)
    obtain ⟨_, _, _, p, _⟩ := (show ObjOk X.prog X.w H s.heap a (.tup xs) from I.hok a _ ea)
    obtain ⟨o, h1, h2, _⟩ := p
    exact PySem.W.kia_one PySem.W.kitx_tuple I.kIn ⟨o, h1, h2⟩ e (fun z => nomatch z) h
  | @dK a kvs ea =>
    cases (show u = Value.ref a from rx)
    obtain ⟨_, _, vs, _, p⟩ := (show ObjOk X.prog X.w H s.heap a (.dK kvs) from I.hok a _ ea)
    obtain ⟨o, es, ep, h1, h2, _⟩ := p
    exact PySem.W.kia_one PySem.W.kitx_dict I.kIn ⟨o, h1, h2.1⟩ e (fun z => nomatch z) h
  | @dT a kvs ea =>
    cases (show u = Value.ref a from rx)
    obtain ⟨_, _, xs, _, o, es, ep, h1, h2, _⟩ := (show ObjOk X.prog X.w H s.heap a (.dT kvs) from I.hok a _ ea)
    exact PySem.W.kia_one PySem.W.kitx_dict I.kIn ⟨o, h1, h2.1⟩ e (fun z => nomatch z) h
  | @ins a C dx fs ea cl ha hn htk hm =>
    cases (show u = Value.ref a from rx)
    obtain ⟨mA, O, _⟩ := ins_get I.hok ea
    obtain ⟨od, J, _⟩ := O.look
    exact PySem.W.kia_one (PySem.W.kitx_own (cl.get _) cl.hd ha hn htk hm) I.kIn J e (fun z => nomatch z) h
end
end L2
namespace L2
open PySem PySem.Spec PyProof.Rows
/-! ### room -/
structure Room (k : Nat) (A : Around) : Prop where
  hd : A.handled = none
  dp : A.depth + 3 * k + 5 < recursionLimit
  un : A.units + 16 * k + 200 < cLine
theorem Room.mono {j k : Nat} {A : Around} (r : Room k A) (h : j ≤ k) : Room j A := ⟨r.hd, by have := r.dp; omega, by have := r.un; omega⟩
theorem Room.deeper {k : Nat} {A : Around} (r : Room (k + 1) A) (env : Env) : Room k (A.deeper env) :=
  ⟨r.hd, by have := r.dp; show A.depth + 1 + 3 * k + 5 < _; omega, by have := r.un; show A.units + 3 + 16 * k + 200 < _; omega⟩
theorem Room.depth {k : Nat} {A : Around} (r : Room k A) : A.depth < recursionLimit := by have := r.dp; omega
theorem Room.units {k : Nat} {A : Around} (r : Room k A) : A.units + 64 < cLine := by have := r.un; omega
/-! ### argument lists and displays -/
def tNil : TA := fun _ H Q => Q [] H
def tCons (ta : TE) (tr : TA) : TA := fun σ H Q => ta σ H fun x H1 => tr σ H1 fun xs H2 => Q (x :: xs) H2
section
variable {X : Cx} {e : Expr} {es : List Expr} {te : TE} {t : TA} {pos : Pos}
theorem pa_nil : PA X [] tNil := fun _ _ _ _ H Q I h => Calls.spliced_nil ⟨[], H, I, .nil, h⟩
theorem pa_cons (ha : PE X e te) (hr : PA X es t) (hs : starEach (e :: es) X.env = (false, eval e X.env) :: starEach es X.env := by rfl) : PA X (e :: es) (tCons te t) := by
  intro pos pins s σ H Q I h
  rw [hs]
  show wpAny _ _ (spliced ((false, eval e X.env) :: backTo pos (starEach es X.env))) _ _ s
  refine Calls.spliced_cons (thn (ha pins s σ H _ I h) fun u s1 ⟨x, H1, I1, r1, q1⟩ => ?_)
  exact thn (hr pos pins s1 σ H1 _ I1 q1) fun us s2 ⟨xs, H2, I2, r2, q2⟩ => ⟨x :: xs, H2, I2, .cons r1 r2, q2⟩
/-- a tuple, a list of written items -/
def tTup (t : TA) : TE := fun σ H Q => t σ H fun xs H1 => xs.length ≤ sizeLine ∧ ∀ p, H1 p = none → Q (.ref p) (upd H1 p (.tup xs))
def tLst (t : TA) : TE := fun σ H Q => t σ H fun xs H1 => xs.length ≤ sizeLine ∧ ∀ p, H1 p = none → Q (.ref p) (upd H1 p (.lst xs))
theorem pe_tup {x1} (h : PA X es t) : PE X (.Tuple es x1 pos) (tTup t) := by
  intro pins s σ H Q I hq
  refine wpAny_Tuple_spliced (thn (h pos pins s σ H _ I hq) fun us s1 ⟨xs, H1, I1, r, z, q⟩ => ⟨by rw [← r.length]; exact z, ?_⟩)
  have hf : H1 s1.heap.objs.size = none := I1.hok.fresh (Nat.le_refl _)
  refine ⟨.ref s1.heap.objs.size, upd H1 s1.heap.objs.size (.tup xs), I1.laid (t' := s1.toks) (fun b u e => Heap.get?_push_of_some _ e) (Nat.le_refl _) ?_, rfl, q _ hf⟩
  exact ⟨z, us, r, ⟨_, Heap.get?_push_size _ rfl, rfl, _, rfl⟩, _, Heap.get?_push_size _ rfl⟩
theorem pe_lst (h : PA X es t) : PE X (.List es pos) (tLst t) := by
  intro pins s σ H Q I hq
  refine wpAny_List_spliced (thn (h pos pins s σ H _ I hq) fun us s1 ⟨xs, H1, I1, r, z, q⟩ => ⟨by rw [← r.length]; exact z, ?_⟩)
  have hf : H1 s1.heap.objs.size = none := I1.hok.fresh (Nat.le_refl _)
  refine ⟨.ref s1.heap.objs.size, upd H1 s1.heap.objs.size (.lst xs), I1.laid (t' := s1.toks) (fun b u e => Heap.get?_push_of_some _ e) (Nat.le_refl _) ?_, rfl, q _ hf⟩
  exact ⟨z, us, 0, r, Heap.get?_push_size _ rfl⟩
end
/-! ### what a def promises -/
/-- a def's promise: the bound arguments in the parameters' order, the heap, the wanted end, the wanted exception -/
abbrev Sp := List V → Hp → VK → XK → Prop
/-- how an exception lies behind a call (file 08 gives it): the callers' frames, abstract heap and state ahead of the call, the wish, the exception, the state -/
abbrev CXT := List Env → Hp → Shared → XK → Value → Shared → Prop
/-- the state at a call -/
structure Env0 (P : Program) (w : World) (K : PySem.W.Frag) (mg : Str → Option Value) (base : Heap) (A : Around) (outer : List Env) (s : Shared) (H : Hp) : Prop where
  frames : A.frames = some outer
  mod : Mod K mg base
  bs : ∀ b o, base.get? b = some o → s.heap.get? b = some o ∧ H b = none
  bsz : base.objs.size ≤ s.heap.objs.size
  funs : s.heap.FunFrames base outer
  frf : ∀ b ∈ frs outer, H b = none
  hok : HOk P w H s.heap
  bare : AllBare s.gens
/-- a call's end -/
def CE (outer : List Env) (P : Program) (w : World) (H : Hp) (s : Shared) (Q : VK) (u : Value) (s' : Shared) : Prop :=
  ∃ v H', s'.os = s.os ∧ AllBare s'.gens ∧ Un (frs outer) [] H H' s.heap s'.heap ∧ HOk P w H' s'.heap ∧ RelV v u ∧ Q v H'
def CR (CX : CXT) (outer : List Env) (P : Program) (w : World) (H : Hp) (s : Shared) (Q : VK) (E : XK) (r : Result) (s' : Shared) : Prop :=
  match r with
  | .ok (.ret u) => CE outer P w H s Q u s'
  | .ok _ => False
  | .error e => CX outer H s E e s'
structure FnOk (P : Program) (w : World) (K : PySem.W.Frag) (mg : Str → Option Value) (base : Heap) (CX : CXT) (k : Nat) (f : Addr) (fd : FuncData) (ps : List Str) (sp : Sp) : Prop where
  len : ∀ vs H Q E, sp vs H Q E → vs.length = ps.length
  run : ∀ (A : Around) (outer : List Env) (s : Shared) (H : Hp) (args : Args) (us : List Value) (vs : List V) (Q : VK) (E : XK), Room k A → Env0 P w K mg base A outer s H → BindsTo s fd args (ps.zip us) → Vals vs us → sp vs H Q E →
    codeAny (model P w) A (.call (.ref f) args) (CR CX outer P w H s Q E) s
/-- a weaker promise -/
theorem FnOk.imp {P : Program} {w : World} {K : PySem.W.Frag} {mg : Str → Option Value} {base : Heap} {CX : CXT} {k : Nat} {f : Addr} {fd : FuncData} {ps : List Str} {sp sp' : Sp} (F : FnOk P w K mg base CX k f fd ps sp)
    (h : ∀ vs H Q E, sp' vs H Q E → sp vs H Q E) : FnOk P w K mg base CX k f fd ps sp' :=
  ⟨fun vs H Q E q => F.len vs H Q E (h _ _ _ _ q), fun A outer s H args us vs Q E hr he hb hv hs => F.run A outer s H args us vs Q E hr he hb hv (h _ _ _ _ hs)⟩
section
variable {X : Cx} {pins : List (Addr × Obj)} {σ : St} {H : Hp} {s s' : Shared}
/-- from a body: what a callee wants -/
theorem Inv.env0 (I : Inv X pins σ H s) : Env0 X.prog X.w X.K X.mg X.base X.A X.stack s H :=
  ⟨I.ok.frames, I.ok.mod, I.bs, Nat.le_trans I.ok.bsz I.sz, I.stack, I.stkFree, I.hok, I.bare⟩
/-- behind a call -/
theorem Inv.after {Q : VK} {u : Value} (I : Inv X pins σ H s) (h : CE X.stack X.prog X.w H s Q u s') : EP X pins σ Q u s' := by
  obtain ⟨v, H', os, bare, un, hok, r, q⟩ := h
  obtain ⟨hh, g, d, t, os'⟩ := s'
  obtain rfl : os' = s.os := os
  exact ⟨v, H', I.call (h' := hh) (g' := g) (d' := d) (t' := t) (ch := []) un hok bare (fun b z => absurd z (by simp)), r, q⟩
end
/-! ### calls -/
/-- f(..): the written arguments, then the defaults dvs; E: what is wanted of an exception -/
def tCall (sp : Sp) (dvs : List V) (E : XK) (t : TA) : TE := fun σ H Q => t σ H fun vs H1 => sp (vs ++ dvs) H1 Q E
/-- how the parameters are bound: us the positional arguments, kw the keywords' values by name, ds the defaults that fill up -/
def Binds (K : PySem.W.Frag) (fd : FuncData) (ps : List Str) (ds : List Value) : Prop :=
  ∀ (s : Shared) (us : List Value), K.In s.heap → (us ++ ds).length = ps.length → BindsTo s fd ⟨us, []⟩ (ps.zip (us ++ ds))
/-- every parameter is given -/
theorem Binds.all {K : PySem.W.Frag} {fd : FuncData} {ps : List Str} (h : ∀ us : List Value, us.length = ps.length → bindArgs fd ⟨us, []⟩ = pure (ps.zip us)) : Binds K fd ps [] := fun s us _ hl => by
  rw [List.append_nil] at hl ⊢
  exact .of_eq (h us hl)
/-- an exception of a callee reaches what this body wants of exceptions -/
def Passes (CX : CXT) (X : Cx) (E : XK) : Prop := ∀ (pins : List (Addr × Obj)) (σ : St) (H : Hp) (s : Shared) (e : Value) (s' : Shared), Inv X pins σ H s → CX X.stack H s E e s' → X.xe e s'
section
variable {X : Cx} {CX : CXT} {k : Nat} {f C : Addr} {fd : FuncData} {ps : List Str} {sp : Sp} {dvs : List V} {ds : List Value} {E : XK} {x m : Str} {p pos apos : Pos} {e o : Expr} {es : List Expr} {ta : TE} {t : TA}
/-- the callee runs -/
theorem run_fn {pins : List (Addr × Obj)} {σ : St} {H : Hp} {s : Shared} {Q : VK} {us : List Value} {vs : List V} (F : FnOk X.prog X.w X.K X.mg X.base CX k f fd ps sp) (hr : Room k X.A) (hb : Binds X.K fd ps ds) (hd : Vals dvs ds) (hx : Passes CX X E)
    (I : Inv X pins σ H s) (r : Vals vs us) (h : sp (vs ++ dvs) H Q E) : wpAny (model X.prog X.w) X.A (call (.ref f) us) (EP X pins σ Q) X.xe s := by
  have r2 : Vals (vs ++ dvs) (us ++ ds) := r.append hd
  have hl : (us ++ ds).length = ps.length := by rw [← r2.length]; exact F.len _ _ _ _ h
  refine wpAny_call (codeAny_mono (F.run X.A X.stack s H ⟨us, []⟩ (us ++ ds) (vs ++ dvs) Q E hr I.env0 (hb s us I.kIn hl) r2 h) fun r s' hq => ?_)
  cases r with
  | error e => exact hx pins σ H s e s' I hq
  | ok fl =>
    cases fl with
    | ret u => exact I.after hq
    | next => exact False.elim hq
    | brk => exact False.elim hq
    | cont => exact False.elim hq
theorem pe_call (F : FnOk X.prog X.w X.K X.mg X.base CX k f fd ps sp) (hr : Room k X.A) (hg : Gl X x) (hm : X.mg x = some (.ref f)) (hk : PySem.W.keepIn X.K (.ref f) = true) (hb : Binds X.K fd ps ds) (hd : Vals dvs ds) (hx : Passes CX X E)
    (ha : PA X (e :: es) t) (hdb : (x == ("__debug__" : Str)) = false := by decide) (he : starEach (e :: es) X.env = (false, eval e X.env) :: starEach es X.env := by rfl) (hpl : (backTo pos (starEach es X.env)).any (·.1) = false := by rfl) :
    PE X (.Call (.Name x p) (e :: es) [] pos) (tCall sp dvs E t) := by
  intro pins s σ H Q I h
  refine wpAny_Call_Name_kw (ld_glob I hg hm ?_ hdb)
  refine PySem.W.callWith_K (h₀ := X.base) I.ok.mod.kin hk (thn (ha pos pins s σ H _ I h) fun us s1 ⟨vs, H1, I1, r, q⟩ => ⟨I1.kIn, ?_⟩) he hpl
  exact run_fn F hr hb hd hx I1 r q
/-- what a class must have to be made -/
structure Mk (K : PySem.W.Frag) (C f : Addr) : Prop where
  makes : PySem.W.makesIn K C = true
  init : PySem.W.findIn K (.ref C) "__init__" = some (some (.ref f))
  fn : PySem.W.isFn K (.ref f) = true
  kp : PySem.W.keepIn K (.ref C) = true
end
/-! ### keywords -/
section
variable {X : Cx} {CX : CXT} {k : Nat} {f C : Addr} {fd : FuncData} {ps ks : List Str} {sp : Sp} {E : XK} {x m : Str} {p pos apos kpos : Pos} {e o : Expr} {es : List Expr} {kws : List Keyword} {te ta : TE} {t tk : TA} {nm : Option Str}
/-- how a call with keywords binds: g puts the positional values us and the keywords' values ws (names ks) in the parameters' order, defaults among them -/
structure KBinds (K : PySem.W.Frag) (fd : FuncData) (ps ks : List Str) (g : List Value → List Value → List Value) (gV : List V → List V → List V) : Prop where
  to : ∀ (s : Shared) (us ws : List Value), K.In s.heap → (g us ws).length = ps.length → BindsTo s fd ⟨us, ks.zip ws⟩ (ps.zip (g us ws))
  rel : ∀ {vs : List V} {us : List Value} {zs : List V} {ws : List Value}, Vals vs us → Vals zs ws → Vals (gV vs zs) (g us ws)
variable {g : List Value → List Value → List Value} {gV : List V → List V → List V}
end
/-! ### a def's body keeps its promise -/
/-- names: the parameters first -/
structure FnScope (N P : List Str) (sc : Scope) : Prop where
  kind : sc.kind = .function
  co : sc.isCoroutine = false
  gen : sc.isGenerator = false
  nd : N.Nodup
  pre : N.take P.length = P
  par : ∀ x ∈ P, sc.names.lookup x = some .local ∨ sc.names.lookup x = some .cell
  nofree : ∀ y ∈ sc.names, y.2 ≠ .free
theorem bindL_out {kindOf : Str → Option NameKind} {x : Str} : ∀ {binds : List (Str × Value)} {m : Str → Option Value}, (∀ v, (x, v) ∉ binds) → bindL kindOf binds m x = m x
  | [], _, _ => rfl
  | (n, v) :: r, m, h => by
    unfold bindL
    rw [bindL_out fun w hw => h w (List.mem_cons_of_mem _ hw)]
    split
    · have : x ≠ n := by rintro rfl; exact h v List.mem_cons_self
      simp [this]
    · rfl
theorem bindC_out {kindOf : Str → Option NameKind} {x : Str} : ∀ {binds : List (Str × Value)} {m : Str → Option Value}, (∀ v, (x, v) ∉ binds) → bindC kindOf binds m x = m x
  | [], _, _ => rfl
  | (n, v) :: r, m, h => by
    unfold bindC
    rw [bindC_out fun w hw => h w (List.mem_cons_of_mem _ hw)]
    split
    · rfl
    · have : x ≠ n := by rintro rfl; exact h v List.mem_cons_self
      simp [this]
theorem bindL_get {kindOf : Str → Option NameKind} {x : Str} {v : Value} : ∀ {P : List Str} {vs : List Value} {i : Nat} {m : Str → Option Value}, P.Nodup → P[i]? = some x → vs[i]? = some v → kindOf x = some .local →
    bindL kindOf (P.zip vs) m x = some v
  | [], _, _, _, _, h, _, _ => by simp at h
  | _ :: _, [], _, _, _, _, h, _ => by simp at h
  | p :: P, w :: vs, 0, m, nd, h1, h2, hk => by
    simp at h1 h2; subst h1; subst h2
    show bindL kindOf ((p, w) :: P.zip vs) m p = _
    unfold bindL
    rw [bindL_out fun v hv => (List.nodup_cons.mp nd).1 (List.of_mem_zip hv).1, if_pos hk]
    simp
  | p :: P, w :: vs, i + 1, m, nd, h1, h2, hk => by
    show bindL kindOf ((p, w) :: P.zip vs) m x = _
    unfold bindL
    exact bindL_get (i := i) (List.nodup_cons.mp nd).2 (by simpa using h1) (by simpa using h2) hk
theorem bindC_get {kindOf : Str → Option NameKind} {x : Str} {v : Value} : ∀ {P : List Str} {vs : List Value} {i : Nat} {m : Str → Option Value}, P.Nodup → P[i]? = some x → vs[i]? = some v → kindOf x ≠ some .local →
    bindC kindOf (P.zip vs) m x = some v
  | [], _, _, _, _, h, _, _ => by simp at h
  | _ :: _, [], _, _, _, _, h, _ => by simp at h
  | p :: P, w :: vs, 0, m, nd, h1, h2, hk => by
    simp at h1 h2; subst h1; subst h2
    show bindC kindOf ((p, w) :: P.zip vs) m p = _
    unfold bindC
    rw [bindC_out fun v hv => (List.nodup_cons.mp nd).1 (List.of_mem_zip hv).1, if_neg hk]
    simp
  | p :: P, w :: vs, i + 1, m, nd, h1, h2, hk => by
    show bindC kindOf ((p, w) :: P.zip vs) m x = _
    unfold bindC
    exact bindC_get (i := i) (List.nodup_cons.mp nd).2 (by simpa using h1) (by simpa using h2) hk
/-- the names' values at the entry -/
def start (N : List Str) (vs : List V) : St := vs.map some ++ List.replicate (N.length - vs.length) none
/-- the context of a def's body, at its entry; an exception leaves the frame, then lies as CX says -/
def cxOf (CX : CXT) (P : Program) (w : World) (K : PySem.W.Frag) (mg : Str → Option Value) (base : Heap) (N : List Str) (qual : Str) (scope : Scope) (f : Addr) (cd : Value) (A : Around) (outer : List Env) (s : Shared) (H : Hp) (E : XK) : Cx where
  prog := P
  w := w
  K := K
  mg := mg
  base := base
  A := A.deeper (envOfC qual scope s.heap.objs.size f cd)
  N := N
  s₀ := s
  H₀ := H
  env := envOfC qual scope s.heap.objs.size f cd
  outer := outer
  stack := envOfC qual scope s.heap.objs.size f cd :: outer
  ex := []
  calm := true
  fn := fun _ => true
  pn := []
  xe := fun e s' => wpAny (model P w) (A.deeper (envOfC qual scope s.heap.objs.size f cd)) (leaving (envOfC qual scope s.heap.objs.size f cd) e) (fun _ s'' => CX outer H s E e s'') (fun e' s'' => CX outer H s E e' s'') s'
theorem cell_has {sc : Scope} {n : Nat} {x : Str} (h : sc.names.lookup x = some .cell) : ∃ c, (cellsFrom n sc.names []).lookup x = some c := by
  have q := PySem.W.cellsFrom_some sc.names n [] (.inl h)
  exact Option.isSome_iff_exists.mp q
theorem inv_start {CX : CXT} {P : Program} {w : World} {K : PySem.W.Frag} {mg : Str → Option Value} {base : Heap} {N ps : List Str} {qual : Str} {scope : Scope} {f : Addr} {cd : Value} {A : Around} {outer : List Env} {s s1 : Shared} {H : Hp} {E : XK} {us : List Value} {vs : List V}
    (S : FnScope N ps scope) (hd : A.handled = none) (e0 : Env0 P w K mg base A outer s H) (hl : vs.length = ps.length) (r : Vals vs us)
    (x : InCallC s s.heap.objs.size (bindL (envOfC qual scope s.heap.objs.size f cd).kindOf (ps.zip us) fun _ => none) (cellsFrom (s.heap.objs.size + 1) scope.names []) (bindC (envOfC qual scope s.heap.objs.size f cd).kindOf (ps.zip us) fun _ => none) s1) :
    Inv (cxOf CX P w K mg base N qual scope f cd A outer s H E) [] (start N vs) H s1 := by
  have hpl : ps.length ≤ N.length := by have := congrArg List.length S.pre; rw [List.length_take] at this; omega
  obtain ⟨h1, tk, rfl, hk⟩ := x.done
  have noA : ∀ b : Addr, b ∉ (cxOf CX P w K mg base N qual scope f cd A outer s H E).ex := fun b z => absurd (show b ∈ ([] : List Addr) from z) (by simp)
  refine ⟨⟨e0.mod, S.kind, rfl, rfl, Nat.le_refl _, fun y z c h1 h2 => ?_, fun y hy => ?_, fun y c _ h => ?_, fun _ => hd, Around.frames_deeper e0.frames, .inr ⟨rfl, rfl⟩, fun b z => absurd z (noA b), e0.bs, e0.bsz, fun b _ _ => noA b, fun b z => absurd z (noA b), e0.funs, e0.frf⟩,
    rfl, e0.bare, Un.kept hk, ⟨_, x.toInCall.ns, fun i y v h1 h2 h3 => ?_⟩, fun y c h => ⟨_, x.cell y c h⟩, e0.hok.fresh (Nat.le_refl _), fun y c h => ?_, fun p hp => absurd (show p ∈ ([] : List (Addr × Obj)) from hp) (by simp), e0.hok.kept hk, ?_⟩
  · exact name_of_addr x.apart (PySem.mem_of_lookup h1) (PySem.mem_of_lookup h2)
  · have hy : scope.names.lookup y = some .cell ∨ scope.names.lookup y = some .free := hy
    rcases hy with hy | hy
    · exact cell_has hy
    · exact absurd rfl (S.nofree _ (PySem.mem_of_lookup hy))
  · exact Nat.le_of_lt (x.above y c (PySem.mem_of_lookup h))
  · have hi : i < vs.length := by
      unfold start at h2
      by_cases hi : i < vs.length
      · exact hi
      · rw [List.getElem?_append_right (by simpa using hi)] at h2
        rw [List.getElem?_replicate] at h2
        split at h2 <;> cases h2
    have ha : vs[i]? = some v := by
      unfold start at h2
      rw [List.getElem?_append_left (by simpa using hi), List.getElem?_map] at h2
      cases e : vs[i]? with
      | none => rw [e] at h2; cases h2
      | some a => rw [e] at h2; cases h2; rfl
    obtain ⟨u, hu, rv⟩ := r.get ha
    have hp : ps[i]? = some y := by
      rw [← S.pre, List.getElem?_take_of_lt (by omega)]; exact h1
    have ndP : ps.Nodup := by rw [← S.pre]; exact S.nd.sublist (List.take_sublist _ _)
    refine ⟨u, rv, ?_⟩
    rcases S.par y (List.mem_of_getElem? hp) with k | k
    · exact .inl ⟨k, bindL_get ndP hp hu k⟩
    · obtain ⟨c, e⟩ := cell_has (n := s.heap.objs.size + 1) k
      refine .inr ⟨.inl k, c, e, ?_⟩
      have q := x.cell y c e
      rw [bindC_get ndP hp hu (by show scope.names.lookup y ≠ _; rw [k]; decide)] at q
      exact q
  · exact e0.hok.fresh (Nat.le_of_lt (x.above y c (PySem.mem_of_lookup h)))
  · unfold start
    show _ = N.length
    rw [List.length_append, List.length_map, List.length_replicate]
    omega
/-- THE RULE: a def (or a method) of the text, by its body. The body's reading t is chosen for each entry; it is run at the parameters' values -/
theorem fn_of {CX : CXT} {P : Program} {w : World} {K : PySem.W.Frag} {mg : Str → Option Value} {base : Heap} {k : Nat} {f : Addr} {name qual : Str} {params : Arguments} {body : List Stmt} {scope : Scope} {dV kV doc pm cdv ct oc : Value} {an od : Option Addr}
    {osl : Array (Option Value)} {N ps : List Str} {sp : Sp} (lk : K.lookup f = some ⟨oc, od, .func (PySem.W.fnOf name qual params body scope dV kV doc pm an cdv ct), osl⟩) (hcd : PySem.W.codeIn K cdv qual = true) (S : FnScope N ps scope)
    (len : ∀ vs H Q E, sp vs H Q E → vs.length = ps.length)
    (hbody : ∀ (A : Around) (outer : List Env) (s : Shared) (H : Hp) (vs : List V) (Q : VK) (E : XK), Room k (A.deeper (envOfC qual scope s.heap.objs.size f cdv)) → sp vs H Q E →
      ∃ t, PSs (cxOf CX P w K mg base N qual scope f cdv A outer s H E) body t ∧ t { nx := fun _ H' => Q .non H', rt := Q } (start N vs) H) :
    FnOk P w K mg base CX (k + 1) f (PySem.W.fnOf name qual params body scope dV kV doc pm an cdv ct) ps sp := by
  refine ⟨len, fun A outer s H args us vs Q E hr e0 hb r hsp => ?_⟩
  have hl := len _ _ _ _ hsp
  have KX : K.In s.heap := e0.mod.kin.keeps fun b o e => (e0.bs b o e).1
  have lim : s.heap.NoLimit := e0.mod.nolimit.keeps fun b o e => (e0.bs b o e).1
  have hkind : ∀ y ∈ ps.zip us, scope.names.lookup y.1 = some .local ∨ (scope.names.lookup y.1 = some .cell ∧ ((cellsFrom (s.heap.objs.size + 1) scope.names []).lookup y.1).isSome = true) := fun ⟨n, v⟩ hy => by
    rcases S.par n (List.of_mem_zip hy).1 with q | q
    · exact .inl q
    · exact .inr ⟨q, PySem.W.cellsFrom_some _ _ _ (.inl q)⟩
  refine codeAny_call_function hr.depth (KX _ _ lk) rfl S.co S.gen rfl (PySem.W.codeRec_of KX hcd) (hb _ _ _ _ ?_)
  refine wpAny_newFunctionEnv_cells S.kind hkind fun env he s1 x => ?_
  subst he
  refine ⟨lim.keeps x.toInCall.keep, codeAny_func ?_⟩
  obtain ⟨t, ht, hq⟩ := hbody A outer s H vs Q E (hr.deeper _) hsp
  have I : Inv (cxOf CX P w K mg base N qual scope f cdv A outer s H E) [] (start N vs) H s1 := inv_start S hr.hd e0 hl r x
  refine wpAny_mono (ht [] s1 (start N vs) H _ I hq) (fun fl s' hs => ?_) fun e s' hs => hs
  have fin : ∀ {σ' : St} {H' : Hp} {v : V} {u : Value}, Inv (cxOf CX P w K mg base N qual scope f cdv A outer s H E) [] σ' H' s' → RelV v u → Q v H' → CE outer P w H s Q u s' :=
    fun {σ' H' v u} J rv q => ⟨v, H', J.os, J.bare, J.base, J.hok, rv, q⟩
  cases fl with
  | ret u =>
    obtain ⟨v, σ', H', J, rv, q⟩ := hs
    exact fin J rv q
  | next =>
    obtain ⟨σ', H', J, q⟩ := hs
    exact fin (v := V.non) (u := Value.none) J rfl q
  | brk =>
    obtain ⟨_, _, _, q⟩ := hs
    exact False.elim q
  | cont =>
    obtain ⟨_, _, _, q⟩ := hs
    exact False.elim q
end L2
namespace L2
open PySem PySem.Spec PyProof.Rows
section
variable {X : Cx} {x : Str} {p pos : Pos} {e : Expr} {es : List Expr} {t : TA} {id T : String} {r : List V → Hp → VK → Prop}
def tCB (r : List V → Hp → VK → Prop) (t : TA) : TE := fun σ H Q => t σ H fun vs H1 => r vs H1 Q
/-- f(e, ..), f a built-in function -/
theorem pe_callB (hc : CallR X (.builtin id) r) (hg : Gl X x) (hm : X.mg x = none) (hv : bootBuiltins x = some (.builtin id)) (ha : PA X (e :: es) t) (hn : x ≠ "__name__" := by decide) (hdb : (x == ("__debug__" : Str)) = false := by decide)
    (he : starEach (e :: es) X.env = (false, eval e X.env) :: starEach es X.env := by rfl) (hpl : (backTo pos (starEach es X.env)).any (·.1) = false := by rfl) : PE X (.Call (.Name x p) (e :: es) [] pos) (tCB r t) := by
  intro pins s σ H Q I h
  refine wpAny_Call_Name_kw (ld_blt I hg hm hv ?_ hn hdb)
  exact PyProof.Rows.callWith_builtin1 (thn (ha pos pins s σ H _ I h) fun us s1 ⟨vs, H1, I1, r1, q1⟩ => hc pins s1 σ H1 vs us Q I1 r1 q1) he hpl
/-- T(e, ..), T a built-in type -/
theorem pe_callTy (hc : CallR X (.type T) r) (hg : Gl X x) (hm : X.mg x = none) (hv : bootBuiltins x = some (.type T)) (ha : PA X (e :: es) t) (hn : x ≠ "__name__" := by decide) (hdb : (x == ("__debug__" : Str)) = false := by decide)
    (he : starEach (e :: es) X.env = (false, eval e X.env) :: starEach es X.env := by rfl) (hpl : (backTo pos (starEach es X.env)).any (·.1) = false := by rfl) : PE X (.Call (.Name x p) (e :: es) [] pos) (tCB r t) := by
  intro pins s σ H Q I h
  refine wpAny_Call_Name_kw (ld_blt I hg hm hv ?_ hn hdb)
  exact PyProof.Rows.callWith_type1 (thn (ha pos pins s σ H _ I h) fun us s1 ⟨vs, H1, I1, r1, q1⟩ => hc pins s1 σ H1 vs us Q I1 r1 q1) he hpl
end
end L2
namespace HT
open PySem PyProof.Rows
section
open PySem.SeqAt
open PySem.AutoSeq1 (wpAny_loadPart')
open PySem.MeetsSeq PySem.MeetsSeq2 PySem.MeetsSeq3
end
section
variable {prog : Program} {w : World} {A : Around} {E : Value → Shared → Prop} {s : Shared}
/-- t + u, t not empty -/
theorem cat_tup {t b : Addr} {vs ws : List Value} {Q : Value → Shared → Prop} (ht : IsTup s.heap t vs.toArray) (hb : IsTup s.heap b ws.toArray) (hv : vs ≠ [])
    (h1 : ws = [] → Q (.ref t) s) (h2 : ws ≠ [] → Q (.ref s.heap.objs.size) { s with heap := s.heap.push { cls := .type "tuple", data := .seq (vs ++ ws).toArray } })
    (hsz : vs.length + ws.length ≤ sizeLine) : wpAny (model prog w) A (binaryOp .Add (.ref t) (.ref b)) Q E s := by
  obtain ⟨⟨cls, dd, data, sl⟩, ho, hc, n, hd⟩ := id ht
  obtain ⟨⟨cls2, dd2, data2, sl2⟩, ho2, hc2, n2, hd2⟩ := id hb
  simp only at hc hd hc2 hd2
  subst hc hd hc2 hd2
  have e : vs.toArray ++ ws.toArray = (vs ++ ws).toArray := by simp
  by_cases hw : ws = []
  · exact concat_meets ⟨_, ho, rfl⟩ ⟨_, ho2, rfl⟩ noFill_tuple_add seq_tuple_add PySem.F.slot_tuple_add PySem.F.entry_tuple_add (PySem.F.args_tuple_add_2 _ _)
      (tuple_addW1 t b vs.toArray ws.toArray n n2 dd dd2 sl sl2 (by simpa using hv) (by simp [hw])) ⟨ho, ho2, h1 hw⟩
  · refine concat_meets ⟨_, ho, rfl⟩ ⟨_, ho2, rfl⟩ noFill_tuple_add seq_tuple_add PySem.F.slot_tuple_add PySem.F.entry_tuple_add (PySem.F.args_tuple_add_2 _ _)
      (tuple_addW2 t b vs.toArray ws.toArray n n2 dd dd2 sl sl2 (by simpa using hv) (by simpa using hw) (by rw [List.size_toArray, List.size_toArray]; exact hsz)) ⟨ho, ho2, ?_⟩
    rw [e]
    exact h2 hw
/-! ### t[a:b], not the whole -/
/-- a slice's bound as a place among n (d where it is left out) -/
def sIx (n d : Nat) : Option Int → Nat
  | none => d
  | some v => if v < 0 then (v + (n : Int)).toNat else min v.toNat n
theorem sIx_none (n d : Nat) : sIx n d none = d := rfl
theorem sIx_nat (n d k : Nat) : sIx n d (some (k : Int)) = min k n := by
  show (if (k : Int) < 0 then ((k : Int) + (n : Int)).toNat else min (k : Int).toNat n) = min k n
  rw [if_neg (by omega), Int.toNat_natCast]
theorem sIx_le (n d : Nat) (hd : d ≤ n) (o : Option Int) : sIx n d o ≤ n := by
  cases o with
  | none => exact hd
  | some v =>
    show (if v < 0 then (v + (n : Int)).toNat else min v.toNat n) ≤ n
    by_cases hv : v < 0
    · rw [if_pos hv]; omega
    · rw [if_neg hv]; exact Nat.min_le_right _ _
theorem clip_eq (v : Int) (n d : Nat) : (if v < 0 then max (v + (n : Int)) 0 else min v (n : Int)) = ((sIx n d (some v) : Nat) : Int) := by
  show (if v < 0 then max (v + (n : Int)) 0 else min v (n : Int)) = (((if v < 0 then (v + (n : Int)).toNat else min v.toNat n) : Nat) : Int)
  by_cases hv : v < 0
  · simp only [if_pos hv]; omega
  · simp only [if_neg hv]; omega
theorem adjust_gen (lo hi : Option Int) (n : Nat) : Builtin.Slice.sliceAdjust lo hi 1 (n : Int) = (((sIx n 0 lo : Nat) : Int), ((sIx n n hi : Nat) : Int)) := by
  have h1 : ¬ ((1 : Int) < 0) := by omega
  unfold Builtin.Slice.sliceAdjust
  simp only [h1, if_false]
  refine Prod.ext ?_ ?_
  · cases lo with
    | none => rfl
    | some v => exact clip_eq v n 0
  · cases hi with
    | none => rfl
    | some v => exact clip_eq v n n
theorem places_gen (i j : Nat) : Builtin.Slice.slicePlaces (i : Int) (j : Int) 1 = j - i := by
  unfold Builtin.Slice.slicePlaces
  have h1 : (1 : Int) > 0 := by omega
  simp only [h1, if_true, Int.ediv_one]
  split <;> omega
theorem slicePart_ {v : Value} {o : Option Int} {Q : Option Int → Shared → Prop} (p : IsPart v o) (h : Q o s) : wpAny (model prog w) A (Builtin.Slice.slicePartIndex v) Q E s := by
  cases p with
  | none => exact slicePart_none h
  | int i t => exact slicePart_int h
theorem sliceApplied_gen {sl : Addr} {vl vu : Value} {lo hi : Option Int} {n : Nat} {Q : Int × Int × Nat → Shared → Prop} (hs : s.heap.IsSliceOf sl vl vu .none) (pl : IsPart vl lo) (pu : IsPart vu hi)
    (h : Q (((sIx n 0 lo : Nat) : Int), 1, sIx n n hi - sIx n 0 lo) s) : wpAny (model prog w) A (Builtin.Slice.sliceApplied (.ref sl) (pure (n : Int))) Q E s := by
  obtain ⟨os, hos, hcs, hds⟩ := id hs
  unfold Builtin.Slice.sliceApplied Builtin.Slice.sliceFields
  refine wpAny_bind (wpAny_bind (wpAny_field hos hds (x := vl) rfl (wpAny_bind (wpAny_field hos hds (x := vu) rfl (wpAny_bind (wpAny_field hos hds (x := .none) rfl (wpAny_pure ?_)))))))
  refine wpAny_bind (slicePart_none ?_)
  show wpAny _ _ (if ((1 : Int) == 0) = true then _ else _) _ _ s
  rw [if_neg (by decide)]
  refine wpAny_bind (slicePart_ pl (wpAny_bind (slicePart_ pu (wpAny_bind (wpAny_pure ?_)))))
  show wpAny _ _ (match Builtin.Slice.sliceAdjust lo hi 1 (n : Int) with | (lo, hi) => pure (lo, (1 : Int), Builtin.Slice.slicePlaces lo hi 1)) _ _ s
  rw [adjust_gen lo hi n]
  show wpAny _ _ (pure (((sIx n 0 lo : Nat) : Int), (1 : Int), Builtin.Slice.slicePlaces ((sIx n 0 lo : Nat) : Int) ((sIx n n hi : Nat) : Int) 1)) _ _ s
  rw [places_gen]
  exact wpAny_pure h
theorem pick_gen (xs : Array Value) (i k : Nat) : ((List.range k).filterMap fun (m : Nat) => xs[((i : Int) + (m : Int) * 1).toNat]?).toArray = ((xs.toList.drop i).take k).toArray := by
  have e : (fun (m : Nat) => xs[((i : Int) + (m : Int) * 1).toNat]?) = fun m => xs[i + m]? := by
    funext m
    have : ((i : Int) + (m : Int) * 1).toNat = i + m := by omega
    rw [this]
  rw [e]
  have := pick_run xs i k
  rw [List.filterMap_map] at this
  have e2 : ((fun x => xs[x]?) ∘ fun x => i + x) = fun m => xs[i + m]? := rfl
  rw [e2] at this
  rw [this]
theorem getItem_tuple_cut {t sl : Addr} {items : Array Value} {vl vu : Value} {lo hi : Option Int} {Q : Value → Shared → Prop} (ht : IsTup s.heap t items) (hs : s.heap.IsSliceOf sl vl vu .none) (pl : IsPart vl lo) (pu : IsPart vu hi)
    (hw : ¬ (sIx items.size 0 lo = 0 ∧ sIx items.size items.size hi = items.size))
    (h : Q (.ref s.heap.objs.size) { s with heap := s.heap.push { cls := .type "tuple", data := .seq ((items.toList.drop (sIx items.size 0 lo)).take (sIx items.size items.size hi - sIx items.size 0 lo)).toArray } })
    (hsz : items.size ≤ sizeLine) : wpAny (model prog w) A (getItem (.ref t) (.ref sl)) Q E s := by
  have htake : sizeOk (.seq ((items.toList.drop (sIx items.size 0 lo)).take (sIx items.size items.size hi - sIx items.size 0 lo)).toArray) := by
    show ((items.toList.drop (sIx items.size 0 lo)).take (sIx items.size items.size hi - sIx items.size 0 lo)).toArray.size ≤ sizeLine
    rw [List.size_toArray, List.length_take, List.length_drop, Array.length_toList]
    omega
  have hj : sIx items.size items.size hi ≤ items.size := sIx_le _ _ (Nat.le_refl _) hi
  obtain ⟨os, hos, hcs, hds⟩ := id hs
  have hTs : s.TypeIs (.ref sl) "slice" := ⟨os, hos, hcs⟩
  unfold getItem
  try with_reducible refine wpAny_holding ?_
  first | refine wpAny_bind (wpAny_pure ?_) | skip
  refine wpAny_bind (wpAny_sequenceKey ht.typeIs (by decide) ?_)
  refine wpAny_bind (wpAny_callSpecial?_slot (name := Str.ofString "__getitem__") ht.typeIs PyProof.Rows.slot_tuple_getitem
    (wpAny_call_entry PyProof.Rows.slot_tuple_getitem ht.typeIs entry_tuple_getitem ?_ (args_tuple_getitem _ _)))
  show wpAny _ _ (Builtin.Tuple.tupleItemsOf (.ref t) >>= _) _ _ s
  refine wpAny_bind (tupleItemsOf_ ht ?_)
  refine wpAny_bind (wpAny_typeOf hTs ?_)
  rw [if_pos (by decide)]
  refine wpAny_bind (sliceApplied_gen hs pl pu ?_)
  have hno : ¬ ((((sIx items.size 0 lo : Nat) : Int) == 0 && (1 : Int) == 1 && (sIx items.size items.size hi - sIx items.size 0 lo) == items.size) = true) := by
    intro q
    rw [Bool.and_eq_true, Bool.and_eq_true] at q
    have q1 : ((sIx items.size 0 lo : Nat) : Int) = 0 := eq_of_beq q.1.1
    have q2 : sIx items.size items.size hi - sIx items.size 0 lo = items.size := eq_of_beq q.2
    exact hw ⟨by omega, by omega⟩
  show wpAny _ _ (if (((sIx items.size 0 lo : Nat) : Int) == 0 && (1 : Int) == 1 && (sIx items.size items.size hi - sIx items.size 0 lo) == items.size) = true then _ else _) _ _ s
  rw [if_neg hno, pick_gen]
  first
    | exact wpAny_bind (m := Builtin.Tuple.tupleExact _) (wpAny_newObj_type (wpAny_pure ⟨_, rfl, wpAny_pure h⟩) htake)
    | exact wpAny_bind (m := Builtin.Tuple.tupleExact _) (wpAny_newObj_type (wpAny_bind (wpAny_pure (wpAny_pure ⟨_, rfl, wpAny_pure h⟩))) htake)
    | exact wpAny_bind (wpAny_bind (m := Builtin.Tuple.tupleExact _) (wpAny_newObj_type (wpAny_pure (wpAny_pure ⟨_, rfl, wpAny_pure h⟩)) htake))
    | exact wpAny_bind (wpAny_bind (m := Builtin.Tuple.tupleExact _) (wpAny_newObj_type (wpAny_pure ⟨_, rfl, wpAny_pure h⟩) htake))
end
end HT
namespace L2
open PySem PySem.Spec PyProof.Rows
/-! ### the parts of a slice -/
abbrev TO := St → Hp → (Option Int → Hp → Prop) → Prop
/-- a slice's part (left out, or an int) -/
def PO (X : Cx) (e : Option Expr) (t : TO) : Prop :=
  ∀ (pins : List (Addr × Obj)) (s : Shared) (σ : St) (H : Hp) (Q : Option Int → Hp → Prop), Inv X pins σ H s → t σ H Q →
    wpAny (model X.prog X.w) X.A (evalPart e X.env) (fun u s' => ∃ o H', Inv X pins σ H' s' ∧ IsPart u o ∧ Q o H') X.xe s
def tNoPart : TO := fun _ H Q => Q none H
def tPart (t : TE) : TO := fun σ H Q => t σ H fun x H1 => ∃ i, x = .int i ∧ Q (some i) H1
section
variable {X : Cx} {e : Expr} {te : TE} {lo hi : Option Expr} {tl th : TO} {pos p2 : Pos}
theorem po_none : PO X none tNoPart := by
  intro pins s σ H Q I h
  rw [evalPart_none]
  exact wpAny_pure ⟨none, H, I, .none, h⟩
theorem po_some (h : PE X e te) : PO X (some e) (tPart te) := by
  intro pins s σ H Q I hw
  rw [evalPart_some]
  refine thn (h pins s σ H _ I hw) fun u s1 ⟨x, H1, I1, r1, q1⟩ => ?_
  obtain ⟨i, rfl, q⟩ := q1
  obtain ⟨t, rfl⟩ := r1
  exact ⟨some i, H1, I1, .int i t, q⟩
/-- what a slice of a value is, by values: the slice object stands at sl -/
def SlR (X : Cx) (r : V → Option Int → Option Int → Hp → VK → Prop) : Prop :=
  ∀ (pins : List (Addr × Obj)) (s : Shared) (σ : St) (H : Hp) (x : V) (v vl vu : Value) (lo hi : Option Int) (sl : Addr) (Q : VK), Inv X pins σ H s → RelV x v → s.heap.IsSliceOf sl vl vu .none → IsPart vl lo → IsPart vu hi → r x lo hi H Q →
    ∃ T id, typeLookup (.type T) "__getitem__" = pure (some (.builtin id)) ∧ s.TypeIs v T ∧ wpAny (model X.prog X.w) X.A (getItem v (.ref sl)) (EP X pins σ Q) X.xe s
theorem SlR.or {r r' : V → Option Int → Option Int → Hp → VK → Prop} (h : SlR X r) (h' : SlR X r') : SlR X (fun x lo hi H Q => r x lo hi H Q ∨ r' x lo hi H Q) := by
  intro pins s σ H x v vl vu lo hi sl Q I rx hs pl pu q
  rcases q with q | q
  · exact h pins s σ H x v vl vu lo hi sl Q I rx hs pl pu q
  · exact h' pins s σ H x v vl vu lo hi sl Q I rx hs pl pu q
def tSl (r : V → Option Int → Option Int → Hp → VK → Prop) (te : TE) (tl th : TO) : TE := fun σ H Q => te σ H fun x H1 => tl σ H1 fun l H2 => th σ H2 fun u H3 => r x l u H3 Q
/-- a[lo:hi], any a -/
theorem pe_slice {r : V → Option Int → Option Int → Hp → VK → Prop} (hr : SlR X r) (he : PE X e te) (hl : PO X lo tl) (hu : PO X hi th) : PE X (.Subscript e (.Slice lo hi none p2) pos) (tSl r te tl th) := by
  intro pins s σ H Q I h
  refine Subscript_ (thn (he pins s σ H _ I h) fun v s1 ⟨x, H1, I1, r1, q1⟩ => ?_)
  refine wpAny_Slice (thn (hl pins s1 σ H1 _ I1 q1) fun vl s2 ⟨l, H2, I2, pl, q2⟩ => thn (hu pins s2 σ H2 _ I2 q2) fun vu s3 ⟨u, H3, I3, pu, q3⟩ => ?_)
  rw [evalPart_none]
  refine wpAny_pure ?_
  have I4 : Inv X pins σ H3 { s3 with heap := s3.heap.push { cls := .type "slice", data := .fields #[vl, vu, .none] } } := I3.kept (t' := s3.toks) fun b ob q => Heap.get?_push_of_some _ q
  obtain ⟨T, id, hT, ht, hg⟩ := hr pins { s3 with heap := s3.heap.push { cls := .type "slice", data := .fields #[vl, vu, .none] } } σ H3 x v vl vu l u s3.heap.objs.size Q I4 r1 (Heap.IsSliceOf.new ..) pl pu q3
  show wpAny (model X.prog X.w) X.A (subscriptTail e (.Slice lo hi none p2) v (.ref s3.heap.objs.size)) (EP X pins σ Q) X.xe { s3 with heap := s3.heap.push { cls := .type "slice", data := .fields #[vl, vu, .none] } }
  exact tail_any (ops := [.ref s3.heap.objs.size, v]) ht hT hg (by with_unfolding_all rfl)
/-- the items of xs[lo:hi] -/
def cutV (xs : List V) (lo hi : Option Int) : List V := (xs.drop (HT.sIx xs.length 0 lo)).take (HT.sIx xs.length xs.length hi - HT.sIx xs.length 0 lo)
theorem cutV_length (xs : List V) (lo hi : Option Int) : (cutV xs lo hi).length ≤ xs.length := by
  unfold cutV
  rw [List.length_take, List.length_drop]
  omega
/-- t[lo:hi], not the whole of it (the whole would be t itself) -/
def rSlT (K : PySem.W.Frag) : V → Option Int → Option Int → Hp → VK → Prop := fun x lo hi H Q => ∃ a xs, x = .ref a ∧ SqT K H a xs ∧
  ¬ (HT.sIx xs.length 0 lo = 0 ∧ HT.sIx xs.length xs.length hi = xs.length) ∧ ∀ p, H p = none → Q (.ref p) (upd H p (.tup (cutV xs lo hi)))
theorem sl_tup : SlR X (rSlT X.K) := by
  intro pins s σ H x v vl vu lo hi sl Q I rx hs pl pu h
  obtain ⟨a, xs, rfl, hx, hw, q⟩ := h
  cases rx
  obtain ⟨its, r, ht, hz⟩ := I.tuple hx
  have hlen : its.toArray.size = xs.length := by rw [List.size_toArray]; exact r.length.symm
  refine ⟨"tuple", _, PyProof.Rows.slot_tuple_getitem.lookup, ht.typeIs, ?_⟩
  refine HT.getItem_tuple_cut ht hs pl pu (by rw [hlen]; exact hw) ?_ (by rw [hlen]; exact hz)
  rw [hlen]
  refine ⟨.ref s.heap.objs.size, _, I.laid (t' := s.toks) (o := .tup (cutV xs lo hi)) (fun b ob q => Heap.get?_push_of_some _ q) (Nat.le_refl _) ?_, rfl, q _ (I.hok.fresh (Nat.le_refl _))⟩
  exact ⟨Nat.le_trans (cutV_length xs lo hi) hz, _, (r.drop (HT.sIx xs.length 0 lo)).take (HT.sIx xs.length xs.length hi - HT.sIx xs.length 0 lo), IsTup.new _ _, _, Heap.get?_push_size _ rfl⟩
/-! ### t < u, t + u -/
/-- t + u, t not empty: u empty gives t itself -/
def rCatT (K : PySem.W.Frag) : R2 := fun x y H Q => ∃ a b xs ys, x = .ref a ∧ y = .ref b ∧ SqT K H a xs ∧ SqT K H b ys ∧ xs ≠ [] ∧ xs.length + ys.length ≤ sizeLine ∧
  (ys = [] → Q (.ref a) H) ∧ (ys ≠ [] → ∀ p, H p = none → Q (.ref p) (upd H p (.tup (xs ++ ys))))
theorem Vals.nil_iff {xs : List V} {us : List Value} (r : Vals xs us) : us = [] ↔ xs = [] := by
  cases r with
  | nil => simp
  | cons _ _ => simp
theorem op_catT : OpR X (binaryOp .Add) (rCatT X.K) := by
  intro pins s σ H x y v u Q I rx ry h
  obtain ⟨a, b, xs, ys, rfl, rfl, ha, hb, hx, hz, q1, q2⟩ := h
  cases rx
  cases ry
  obtain ⟨its, r1, p1, _⟩ := I.tuple ha
  obtain ⟨its2, r2, p2, _⟩ := I.tuple hb
  refine HT.cat_tup p1 p2 (fun z => hx (r1.nil_iff.mp z)) (fun z => ⟨.ref a, H, I, rfl, q1 (r2.nil_iff.mp z)⟩) (fun z => ?_) (by rw [← r1.length, ← r2.length]; exact hz)
  refine ⟨.ref s.heap.objs.size, _, I.laid (t' := s.toks) (o := .tup (xs ++ ys)) (fun b ob q => Heap.get?_push_of_some _ q) (Nat.le_refl _) ?_, rfl, q2 (fun w => z (r2.nil_iff.mpr w)) _ (I.hok.fresh (Nat.le_refl _))⟩
  exact ⟨by rw [List.length_append]; exact hz, _, r1.append r2, IsTup.new _ _, _, Heap.get?_push_size _ rfl⟩
end
end L2
namespace L2
open PySem PySem.Spec PyProof.Rows
/-! ### places -/
/-- the place that an index of any sign means -/
def ixN (n : Nat) (i : Int) : Option Nat := if 0 ≤ i then (if i < n then some i.toNat else none) else if -(n : Int) ≤ i then some (i + n).toNat else none
def atI {α : Type} (xs : List α) (i : Int) : Option α := (ixN xs.length i).bind fun j => xs[j]?
theorem ixN_seq {n : Nat} {i : Int} {j : Nat} (h : ixN n i = some j) : seqIndex? i n = some j ∧ j < n ∧ -(n : Int) ≤ i ∧ i < n := by
  unfold ixN at h
  by_cases h0 : 0 ≤ i
  · rw [if_pos h0] at h
    by_cases h1 : i < n
    · rw [if_pos h1] at h
      have e : i.toNat = j := Option.some.inj h
      exact ⟨by rw [seqIndex_of h0 h1, e], by omega, by omega, h1⟩
    · rw [if_neg h1] at h; cases h
  · rw [if_neg h0] at h
    by_cases h1 : -(n : Int) ≤ i
    · rw [if_pos h1] at h
      have e : (i + n).toNat = j := Option.some.inj h
      exact ⟨by rw [seqIndex_neg (by omega) h1, e], by omega, h1, by omega⟩
    · rw [if_neg h1] at h; cases h
theorem atI_get {α : Type} {xs : List α} {i : Int} {v : α} (h : atI xs i = some v) : ∃ j, seqIndex? i xs.length = some j ∧ xs[j]? = some v ∧ j < xs.length ∧ -(xs.length : Int) ≤ i ∧ i < xs.length := by
  unfold atI at h
  cases e : ixN xs.length i with
  | none => rw [e] at h; cases h
  | some j =>
    rw [e] at h
    obtain ⟨h1, h2, h3, h4⟩ := ixN_seq e
    exact ⟨j, h1, h, h2, h3, h4⟩
/-! ### what may be subscripted -/
/-- what stands as an index of a plain subscript -/
def PlainIx (b : Expr) : Prop := ∀ o i, subscripted b false o i = operate [o, i] (getItem o i)
/-- a subscript by values -/
def IxR (X : Cx) (r : R2) : Prop :=
  ∀ (value slice : Expr) (pins : List (Addr × Obj)) (s : Shared) (σ : St) (H : Hp) (x y : V) (v u : Value) (Q : VK), Inv X pins σ H s → RelV x v → RelV y u → r x y H Q →
    subscripted slice false v u = operate [v, u] (getItem v u) → wpAny (model X.prog X.w) X.A (subscriptTail value slice v u) (EP X pins σ Q) X.xe s
/-- a call of a builtin's method by values: the receiver, the arguments -/
def MtR (X : Cx) (id : String) (r : V → List V → Hp → VK → Prop) : Prop :=
  ∀ (pins : List (Addr × Obj)) (s : Shared) (σ : St) (H : Hp) (x : V) (xs : List V) (v : Value) (us : List Value) (Q : VK), Inv X pins σ H s → RelV x v → Vals xs us → r x xs H Q →
    wpAny (model X.prog X.w) X.A (call (.builtin id) (v :: us)) (EP X pins σ Q) X.xe s
section
variable {X : Cx} {a b : Expr} {ta tb : TE} {pos : Pos}
theorem IxR.or {r r' : R2} (h : IxR X r) (h' : IxR X r') : IxR X (fun x y H Q => r x y H Q ∨ r' x y H Q) := by
  intro value slice pins s σ H x y v u Q I rx ry q hs
  rcases q with q | q
  · exact h value slice pins s σ H x y v u Q I rx ry q hs
  · exact h' value slice pins s σ H x y v u Q I rx ry q hs
theorem MtR.or {id : String} {r r' : V → List V → Hp → VK → Prop} (h : MtR X id r) (h' : MtR X id r') : MtR X id (fun x xs H Q => r x xs H Q ∨ r' x xs H Q) := by
  intro pins s σ H x xs v us Q I rx rs q
  rcases q with q | q
  · exact h pins s σ H x xs v us Q I rx rs q
  · exact h' pins s σ H x xs v us Q I rx rs q
/-- a[b] -/
theorem pe_ix {r : R2} (hr : IxR X r) (ha : PE X a ta) (hb : PE X b tb) (hs : PlainIx b) : PE X (.Subscript a b pos) (tOp r ta tb) := by
  intro pins s σ H Q I h
  exact Subscript_ (binT ha hb I h fun v u s2 x y H2 I2 rx ry q => hr a b pins s2 σ H2 x y v u Q I2 rx ry q (hs _ _))
def rIxL (K : PySem.W.Frag) : R2 := fun x y H Q => ∃ p xs i v, x = .ref p ∧ y = .int i ∧ SqL K H p xs ∧ atI xs i = some v ∧ Q v H
def rIxT (K : PySem.W.Frag) : R2 := fun x y H Q => ∃ p xs i v, x = .ref p ∧ y = .int i ∧ SqT K H p xs ∧ atI xs i = some v ∧ Q v H
def rIxS : R2 := fun x y H Q => ∃ z i c, x = .str z ∧ y = .int i ∧ z.length ≤ sizeLine ∧ atI z.cps.toList i = some c ∧ Q (.str ⟨#[c]⟩) H
theorem ix_list : IxR X (rIxL X.K) := by
  intro value slice pins s σ H x y v u Q I rx ry h hs
  obtain ⟨p, xs, i, z, rfl, rfl, hq, he, q⟩ := h
  cases rx
  obtain ⟨t, rfl⟩ := ry
  obtain ⟨its, r, pl, hz⟩ := I.list hq
  obtain ⟨j, h1, h2, h3, h4, h5⟩ := atI_get he
  obtain ⟨w, ew, rw'⟩ := r.get h2
  have hl := r.length
  have hn := line63
  have fin : EP X pins σ Q w s := ⟨z, H, I, rw', q⟩
  by_cases h0 : 0 ≤ i
  · have hj : i.toNat = j := by
      rw [seqIndex_of h0 h5] at h1
      exact Option.some.inj h1
    exact item_listR pl.isList h0 (by omega) (by rw [hj]; simpa using ew) fin hs
  · have hj : (i + (its.toArray.size : Int)).toNat = j := by
      rw [seqIndex_neg (by omega) h4] at h1
      rw [List.size_toArray, ← hl]
      exact Option.some.inj h1
    exact subscriptTail_builtinR (x := w) pl.isList.typeIs slot_list_getitem.lookup
      (wpAny_getItem_list_neg (Q := fun r s' => r = w ∧ EP X pins σ Q r s') pl.isList (by omega) (by rw [List.size_toArray] <;> omega) (by omega) (by rw [hj]; simpa using ew) ⟨rfl, fin⟩) hs
theorem ix_tup : IxR X (rIxT X.K) := by
  intro value slice pins s σ H x y v u Q I rx ry h hs
  obtain ⟨p, xs, i, z, rfl, rfl, hq, he, q⟩ := h
  cases rx
  obtain ⟨t, rfl⟩ := ry
  obtain ⟨its, r, pl, hz⟩ := I.tuple hq
  obtain ⟨j, h1, h2, h3, h4, h5⟩ := atI_get he
  obtain ⟨w, ew, rw'⟩ := r.get h2
  have hl := r.length
  have hn := line63
  have fin : EP X pins σ Q w s := ⟨z, H, I, rw', q⟩
  exact subscriptTail_builtinR (x := w) pl.typeIs slot_tuple_getitem.lookup
    (getItem_tuple (j := j) (Q := fun r s' => r = w ∧ EP X pins σ Q r s') pl (by omega) (by omega) (by rw [List.size_toArray, ← hl]; exact h1) (by simpa using ew) ⟨rfl, fin⟩) hs
theorem ix_str : IxR X rIxS := by
  intro value slice pins s σ H x y v u Q I rx ry h hs
  obtain ⟨z, i, c, rfl, rfl, hz, he, q⟩ := h
  obtain ⟨t, rfl⟩ := rx
  obtain ⟨t', rfl⟩ := ry
  obtain ⟨j, h1, h2, h3, h4, h5⟩ := atI_get he
  have hl : z.cps.toList.length = z.length := by simp [Str.length]
  rw [hl] at h1 h4 h5
  have hn := line63
  exact tail_any (typeIs_str s z t) slot_str_getitem.lookup (getItem_str (c := c) (by
    have e1 : decide (i < -(2 ^ 63 : Int)) = false := decide_eq_false (by omega)
    have e2 : decide (i ≥ 2 ^ 63) = false := decide_eq_false (by omega)
    rw [e1, e2, Bool.or_false]) (by rw [h1]; simpa using h2) ⟨.str ⟨#[c]⟩, H, I.tok _, ⟨_, rfl⟩, q⟩) hs
/-- list, tuple or str -/
def rIx (K : PySem.W.Frag) : R2 := fun x y H Q => rIxL K x y H Q ∨ rIxT K x y H Q ∨ rIxS x y H Q
theorem ix_seq : IxR X (rIx X.K) := ix_list.or (ix_tup.or ix_str)
/-! ### xs[i] = v, any sign -/
/-- the list's object behind a store -/
theorem mapSeq_set (its : List Value) (n j : Nat) (u : Value) : Obj.mapSeq (·.setIfInBounds j u) { cls := .type "list", data := .seq its.toArray n } = { cls := .type "list", data := .seq (its.set j u).toArray n } := by
  simp [Obj.mapSeq]
theorem Inv.lst {pins : List (Addr × Obj)} {σ : St} {H : Hp} {s : Shared} {p : Addr} {xs : List V} (I : Inv X pins σ H s) (h : H p = some (.lst xs)) :
    ∃ (its : List Value) (n : Nat), Vals xs its ∧ s.heap.get? p = some { cls := .type "list", data := .seq its.toArray n } ∧ xs.length ≤ sizeLine := by
  obtain ⟨z, its, n, r, e⟩ := I.hok p _ h
  exact ⟨its, n, r, e, z⟩
/-- the list at p is written by an update of its object -/
theorem Inv.lstUpd {pins : List (Addr × Obj)} {σ : St} {H : Hp} {s : Shared} {p : Addr} {xs ys : List V} {its its' : List Value} {n n' : Nat} {f : Obj → Obj} (I : Inv X pins σ H s) (h : H p = some (.lst xs))
    (ho : s.heap.get? p = some { cls := .type "list", data := .seq its.toArray n }) (hf : f { cls := .type "list", data := .seq its.toArray n } = { cls := .type "list", data := .seq its'.toArray n' }) (r : Vals ys its') (hz : ys.length ≤ sizeLine) (t : Nat) :
    Inv X pins σ (upd H p (.lst ys)) { s with heap := s.heap.update p f, toks := t } := by
  have e : (s.heap.update p f).get? p = some { cls := .type "list", data := .seq its'.toArray n' } := by
    rw [Heap.get?_update_self f ho (by rw [hf] <;> rfl), hf]
  refine I.write (x := p) (e := p) (by rw [h]; trivial) (.inl rfl) (fun b u hb q => (Heap.get?_update_other _ _ (Ne.symm hb)).trans q) ⟨_, e⟩ ?_
  exact ⟨hz, its', n', r, e⟩
def rSetL : V → V → V → Hp → (Hp → Prop) → Prop := fun o i v H Q => ∃ p xs k j, o = .ref p ∧ i = .int k ∧ H p = some (.lst xs) ∧ ixN xs.length k = some j ∧ Q (upd H p (.lst (xs.set j v)))
theorem set_list : PSet X rSetL := by
  intro pins s σ H o i v ov iv u Q I ro ri rv h
  obtain ⟨p, xs, k, j, rfl, rfl, hp, hj, q⟩ := h
  cases ro
  obtain ⟨t, rfl⟩ := ri
  obtain ⟨its, n, r, ho, hz⟩ := I.lst hp
  obtain ⟨h1, h2, h3, h4⟩ := ixN_seq hj
  have hl := r.length
  have hn := line63
  have I' : Inv X pins σ (upd H p (.lst (xs.set j v))) { s with heap := s.heap.update p (Obj.mapSeq (·.setIfInBounds j u)) } :=
    I.lstUpd hp ho (mapSeq_set its n j u) (r.set rv j) (by rw [List.length_set]; exact hz) s.toks
  by_cases h0 : 0 ≤ k
  · have hk : k.toNat = j := by
      rw [seqIndex_of h0 h4] at h1
      exact Option.some.inj h1
    exact PySem.W.ki_setAt ho h0 (by omega) (by rw [List.size_toArray, ← hl]; exact h4) (by rw [hk]; exact ⟨_, I', q⟩)
  · have hk : (k + (its.toArray.size : Int)).toNat = j := by
      rw [seqIndex_neg (by omega) h3] at h1
      rw [List.size_toArray, ← hl]
      exact Option.some.inj h1
    exact PySem.W.ki_setBack ho (by omega) (by rw [List.size_toArray, ← hl]; exact h3) (by omega) (by rw [hk]; exact ⟨_, I', q⟩)
/-! ### slices -/
theorem slice_bounds (lo hi : Option Int) (n : Nat) : (sliceBounds lo hi none n).1 = ((HT.sIx n 0 lo : Nat) : Int) ∧ (sliceBounds lo hi none n).2.1 = ((HT.sIx n n hi : Nat) : Int) ∧ (sliceBounds lo hi none n).2.2 = 1 := by
  refine ⟨?_, ?_, rfl⟩
  · cases lo with
    | none => simp [sliceBounds, HT.sIx]
    | some i =>
      simp only [sliceBounds, HT.sIx, Option.getD_none, show (1 : Int) > 0 by decide, if_true]
      by_cases h : i < 0
      · simp only [h, if_true] <;> omega
      · simp only [h, if_false] <;> omega
  · cases hi with
    | none => simp [sliceBounds, HT.sIx]
    | some i =>
      simp only [sliceBounds, HT.sIx, Option.getD_none, show (1 : Int) > 0 by decide, if_true]
      by_cases h : i < 0
      · simp only [h, if_true] <;> omega
      · simp only [h, if_false] <;> omega
theorem slicePick_cut (its : List Value) (lo hi : Option Int) : slicePick its.toArray lo hi none = ((its.drop (HT.sIx its.length 0 lo)).take (HT.sIx its.length its.length hi - HT.sIx its.length 0 lo)).toArray := by
  obtain ⟨h1, h2, h3⟩ := slice_bounds lo hi its.toArray.size
  unfold slicePick
  rw [h1, h2, h3]
  simp only [sliceRange_one, pick_run, List.size_toArray] <;> rfl
/-- xs[lo:hi] of a list: a new list -/
def rSlL (K : PySem.W.Frag) : V → Option Int → Option Int → Hp → VK → Prop := fun x lo hi H Q => ∃ a xs, x = .ref a ∧ SqL K H a xs ∧ ∀ p, H p = none → Q (.ref p) (upd H p (.lst (cutV xs lo hi)))
theorem sl_list : SlR X (rSlL X.K) := by
  intro pins s σ H x v vl vu lo hi sl Q I rx hs pl pu h
  obtain ⟨a, xs, rfl, hx, q⟩ := h
  cases rx
  obtain ⟨its, r, ht, hz⟩ := I.list hx
  have hlen := r.length
  refine ⟨"list", _, slot_list_getitem.lookup, ht.isList.typeIs, ?_⟩
  refine wpAny_getItem_list_slice ht.isList hs pl pu .none (by simp) ?_ (by rw [List.size_toArray] <;> omega)
  rw [slicePick_cut, ← hlen]
  refine ⟨.ref s.heap.objs.size, _, I.laid (t' := s.toks) (o := .lst (cutV xs lo hi)) (fun b ob q => Heap.get?_push_of_some _ q) (Nat.le_refl _) ?_, rfl, q _ (I.hok.fresh (Nat.le_refl _))⟩
  exact ⟨Nat.le_trans (cutV_length xs lo hi) hz, _, 0, (r.drop (HT.sIx xs.length 0 lo)).take (HT.sIx xs.length xs.length hi - HT.sIx xs.length 0 lo), Heap.get?_push_size _ rfl⟩
/-! ### in, not in: flat items -/
def flatV : V → Bool
  | .non => true
  | .bl _ => true
  | .int _ => true
  | .str _ => true
  | _ => false
/-- == of flat values -/
def eqV : V → V → Bool
  | .non, .non => true
  | .bl a, .bl b => a == b
  | .bl a, .int b => (if a then 1 else 0) == b
  | .int a, .bl b => a == (if b then 1 else 0)
  | .int a, .int b => a == b
  | .str a, .str b => a == b
  | _, _ => false
theorem eqAt_V {A : Around} {s : Shared} {y x : V} {u v : Value} (ry : RelV y u) (rx : RelV x v) (fy : flatV y = true) (fx : flatV x = true) : SeqAt.EqAt A s u v (eqV y x) := by
  cases y with
  | non =>
    cases ry
    cases x with
    | non => cases rx; exact SeqAt.EqAt.same _
    | bl b => cases rx; exact SeqAt.EqAt.none_bool b
    | int b => obtain ⟨t, rfl⟩ := rx; exact SeqAt.EqAt.none_int b t
    | str b => obtain ⟨t, rfl⟩ := rx; exact SeqAt.EqAt.none_str b t
    | _ => exact absurd (show false = true from fx) Bool.false_ne_true
  | bl a =>
    cases ry
    cases x with
    | non => cases rx; exact SeqAt.EqAt.bool_none a
    | bl b => cases rx; exact SeqAt.EqAt.bool_bool a b
    | int b => obtain ⟨t, rfl⟩ := rx; exact SeqAt.EqAt.bool_int a b t
    | str b => obtain ⟨t, rfl⟩ := rx; exact SeqAt.EqAt.bool_str a b t
    | _ => exact absurd (show false = true from fx) Bool.false_ne_true
  | int a =>
    obtain ⟨t', rfl⟩ := ry
    cases x with
    | non => cases rx; exact SeqAt.EqAt.int_none a t'
    | bl b => cases rx; exact SeqAt.EqAt.int_bool a t' b
    | int b => obtain ⟨t, rfl⟩ := rx; exact SeqAt.EqAt.int_int a t' b t
    | str b => obtain ⟨t, rfl⟩ := rx; exact SeqAt.EqAt.int_str a t' b t
    | _ => exact absurd (show false = true from fx) Bool.false_ne_true
  | str a =>
    obtain ⟨t', rfl⟩ := ry
    cases x with
    | non => cases rx; exact SeqAt.EqAt.str_none a t'
    | bl b => cases rx; exact SeqAt.EqAt.str_bool a t' b
    | int b => obtain ⟨t, rfl⟩ := rx; exact SeqAt.EqAt.str_int a t' b t
    | str b => obtain ⟨t, rfl⟩ := rx; exact SeqAt.EqAt.str_str a t' b t
    | _ => exact absurd (show false = true from fx) Bool.false_ne_true
  | _ => exact absurd (show false = true from fy) Bool.false_ne_true
/-- the items' answers, read off the values (a value's own answer does not lean on its token) -/
def eqU (x : V) (u : Value) : Bool := match u with
  | .none => eqV .non x
  | .bool b => eqV (.bl b) x
  | .int i _ => eqV (.int i) x
  | .str z _ => eqV (.str z) x
  | _ => false
theorem eqU_of {x y : V} {u : Value} (r : RelV y u) (f : flatV y = true) : eqU x u = eqV y x := by
  cases y with
  | non => cases r; rfl
  | bl b => cases r; rfl
  | int i => obtain ⟨t, rfl⟩ := r; rfl
  | str z => obtain ⟨t, rfl⟩ := r; rfl
  | _ => exact absurd (show false = true from f) Bool.false_ne_true
theorem mem_eqAt {A : Around} {s : Shared} {x : V} {v : Value} (rx : RelV x v) (fx : flatV x = true) : ∀ {xs : List V} {us : List Value}, Vals xs us → xs.all flatV = true → ∀ u ∈ us, SeqAt.EqAt A s u v (eqU x u)
  | _, _, .nil, _ => fun u hu => by cases hu
  | y :: xs, u :: us, .cons r t, f => fun u' hu => by
    rw [List.all_cons, Bool.and_eq_true] at f
    rcases List.mem_cons.mp hu with rfl | hu
    · rw [eqU_of r f.1]; exact eqAt_V r rx f.1 fx
    · exact mem_eqAt rx fx t f.2 u' hu
/-! ### len, list(x), tuple(x) of any list or tuple that is read -/
theorem call_tuple_of : CallR X (.type "tuple") (fun xs H Q => ∃ p ys, xs = [.ref p] ∧ ((SqL X.K H p ys ∧ ∀ l, H l = none → Q (.ref l) (upd H l (.tup ys))) ∨ (SqT X.K H p ys ∧ Q (.ref p) H))) := by
  intro pins s σ H xs us Q I r h
  obtain ⟨p, ys, rfl, h⟩ := h
  obtain ⟨u, rfl, rx⟩ := vals1 r
  cases rx
  rcases h with ⟨hq, q⟩ | ⟨hq, q⟩
  · obtain ⟨its, r', pl, hz⟩ := I.list hq
    have hlen := r'.length
    refine call_tuple_list pl.isList (fun h' kp => ?_) (by simp only [List.size_toArray] <;> omega)
    have I1 : Inv X pins σ H { s with heap := h' } := I.kept (t' := s.toks) kp
    have I2 : Inv X pins σ (upd H h'.objs.size (.tup ys)) { s with heap := h'.push { cls := .type "tuple", data := .seq its.toArray } } :=
      I1.laid (t' := s.toks) (fun b o e => Heap.get?_push_of_some _ e) (Nat.le_refl _) (show ObjOk X.prog X.w _ _ _ (.tup ys) from ⟨hz, its, r', IsTup.new _ _, _, Heap.get?_push_size _ rfl⟩)
    exact ⟨.ref h'.objs.size, _, I2, rfl, q _ (I1.hok.fresh (Nat.le_refl _))⟩
  · obtain ⟨its, r', pl, hz⟩ := I.tuple hq
    exact call_tuple_same pl ⟨.ref p, H, I, rfl, q⟩
/-! ### the call of a builtin's method: o.m(..) -/
/-- the value is of that builtin type -/
def tyV (K : PySem.W.Frag) (T : String) (x : V) (H : Hp) : Prop := match x with
  | .str _ => T = "str"
  | .int _ => T = "int"
  | .ref p => (T = "list" ∧ ∃ xs, SqL K H p xs) ∨ (T = "tuple" ∧ ((∃ o, K.lookup p = some o ∧ o.cls = .type "tuple" ∧ o.dict = none) ∨ ∃ xs, H p = some (.tup xs))) ∨
      (T = "dict" ∧ ((∃ kvs, H p = some (.dK kvs)) ∨ ∃ kvs, H p = some (.dT kvs))) ∨ (T = "set" ∧ ∃ S n, H p = some (.set S n))
  | _ => False
theorem tyV_is {pins : List (Addr × Obj)} {σ : St} {H : Hp} {s : Shared} {T : String} {x : V} {v : Value} (I : Inv X pins σ H s) (r : RelV x v) (ty : tyV X.K T x H) :
    s.TypeIs v T ∧ ∀ a, v = .ref a → ∃ ob, s.heap.get? a = some ob ∧ ob.dict = none := by
  cases x with
  | str z =>
    obtain ⟨t, rfl⟩ := r
    cases (show T = "str" from ty)
    exact ⟨typeIs_str s z t, fun _ e => nomatch e⟩
  | int i =>
    obtain ⟨t, rfl⟩ := r
    cases (show T = "int" from ty)
    exact ⟨typeIs_int s i t, fun _ e => nomatch e⟩
  | ref p =>
    cases r
    rcases ty with ⟨rfl, xs, hq⟩ | ⟨rfl, ⟨o, hk, hc, hd⟩ | ⟨xs, hq⟩⟩ | ⟨rfl, hk⟩ | ⟨rfl, S, n, hk⟩
    · obtain ⟨its, _, pl, _⟩ := I.list hq
      refine ⟨pl.isList.typeIs, fun a e => ?_⟩
      cases e
      obtain ⟨o, n, e, c, hd, _⟩ := pl
      exact ⟨o, e, hd⟩
    · refine ⟨⟨o, I.kIn p o hk, hc⟩, fun a e => ?_⟩
      cases e
      exact ⟨o, I.kIn _ o hk, hd⟩
    · obtain ⟨_, its, _, ⟨o, e, c, _⟩, n2, e2⟩ := I.hok p _ hq
      refine ⟨⟨o, e, c⟩, fun a e' => ?_⟩
      cases e'
      exact ⟨_, e2, rfl⟩
    · have z : ∃ o, s.heap.get? p = some o ∧ o.ExactDict := by
        rcases hk with ⟨kvs, hk⟩ | ⟨kvs, hk⟩
        · obtain ⟨_, _, _, _, o, _, _, e, ex, _⟩ := I.hok p _ hk
          exact ⟨o, e, ex⟩
        · obtain ⟨_, _, _, _, o, _, _, e, ex, _⟩ := I.hok p _ hk
          exact ⟨o, e, ex⟩
      obtain ⟨o, e, ex⟩ := z
      refine ⟨⟨o, e, ex.1⟩, fun a e2 => ?_⟩
      cases e2
      exact ⟨o, e, ex.2.1⟩
    · obtain ⟨o, _, _, _, e, ex, _⟩ := I.hok p _ hk
      refine ⟨⟨o, e, ex.1⟩, fun a e2 => ?_⟩
      cases e2
      exact ⟨o, e, ex.2.1⟩
  | _ => exact False.elim ty
def tBM (K : PySem.W.Frag) (T : String) (r : V → List V → Hp → VK → Prop) (to : TE) (t : TA) : TE := fun σ H Q => to σ H fun x H1 => tyV K T x H1 ∧ t σ H1 fun xs H2 => r x xs H2 Q
variable {o e : Expr} {es : List Expr} {to : TE} {t : TA} {name : Str} {apos cpos : Pos} {T id : String} {r : V → List V → Hp → VK → Prop}
theorem pe_bm (pa : PlainAttrs T) (slot : Slot T name id) (hty : typeOf (.builtin id) = pure (.type "method_descriptor")) (hm : MtR X id r) (ho : PE X o to) (ha : PA X (e :: es) t)
    (hbase : attributeBase o name X.env (eval o X.env) = eval o X.env := by rfl)
    (hfew : ((backTo cpos (starEach (e :: es) X.env)).all (fun x => !x.1) && (backToKw cpos (keywordEach [] X.env)).all (fun x => x.1.isSome)
      && decide ((e :: es).length + ([] : List Keyword).length + (if ([] : List Keyword).isEmpty then 0 else 1) < 30)) = true := by rfl)
    (hline : (apos.endLine == cpos.line) = true := by rfl) (hs : starEach (e :: es) X.env = (false, eval e X.env) :: starEach es X.env := by rfl) (hplain : (backTo cpos (starEach es X.env)).any (·.1) = false := by rfl) :
    PE X (.Call (.Attribute o name apos) (e :: es) [] cpos) (tBM X.K T r to t) := by
  intro pins s σ H Q I h
  refine wpAny_Call_method_late hbase hfew hline rfl (thn (ho pins s σ H _ I h) fun v s1 ⟨x, H1, I1, r1, ty, q1⟩ => ?_)
  obtain ⟨h1, h2⟩ := tyV_is I1 r1 ty
  refine ⟨T, id, pa, slot, hty, h1, h2, ?_⟩
  have hA := ha cpos pins s1 σ H1 _ I1 q1
  rw [hs] at hA ⊢
  refine Calls.callWith_builtin (by show (false || (backTo cpos (starEach es X.env)).any (·.1)) = false; rw [hplain] <;> rfl) (Calls.evalArgs_plain ?_)
  exact thn hA fun us s2 ⟨vs, H2, I2, r2, q2⟩ => hm pins s2 σ H2 x vs v us Q I2 r1 r2 q2
/- xs.append(e), list.index on a module's tuple .. are MtR facts of 06m -/
end
end L2
namespace L2
open PySem PySem.Spec PyProof.Rows
def MtM (X : Cx) (id : String) (r : V → List V → Hp → VK → Prop) : Prop :=
  ∀ (pins : List (Addr × Obj)) (s : Shared) (σ : St) (H : Hp) (x : V) (xs : List V) (v : Value) (us : List Value) (Q : VK), Inv X pins σ H s → RelV x v → Vals xs us → r x xs H Q →
    wpAny (model X.prog X.w) X.A (call (.builtin id) (v :: us)) (EP X pins σ Q) X.xe s
/-! ### lists of values -/
theorem Vals.one : ∀ {x : V} {us : List Value}, Vals [x] us → ∃ u, us = [u] ∧ RelV x u
  | _, _, .cons r .nil => ⟨_, rfl, r⟩
theorem Vals.eraseIdx : ∀ {xs : List V} {us : List Value} (i : Nat), Vals xs us → Vals (xs.eraseIdx i) (us.eraseIdx i)
  | _, _, _, .nil => .nil
  | _, _, 0, .cons _ t => t
  | _, _, i + 1, .cons r t => .cons r (Vals.eraseIdx i t)
theorem len_erase {α : Type} : ∀ (l : List α) (i : Nat), (l.eraseIdx i).length ≤ l.length
  | [], _ => Nat.le_refl _
  | _ :: _, 0 => Nat.le_succ _
  | _ :: r, i + 1 => Nat.succ_le_succ (len_erase r i)
section
variable {X : Cx} {pins : List (Addr × Obj)} {σ : St} {H : Hp} {s : Shared} {l b : Addr} {xs ys zs : List V}
/-! ### the two steps: a tracked list is rewritten, a new list is laid -/
theorem Inv.lset {its its' : List Value} {n : Nat} {f : Array Value → Array Value} {t' : Nat} (I : Inv X pins σ H s) (hH : H l = some (.lst xs))
    (e : s.heap.get? l = some { cls := .type "list", data := .seq its.toArray n }) (hf : f its.toArray = its'.toArray) (hv : Vals ys its') (hz : ys.length ≤ sizeLine) :
    Inv X pins σ (upd H l (.lst ys)) { s with heap := s.heap.update l (Obj.mapSeq f), toks := t' } := by
  have q := PySem.IsL.update e f
  rw [hf] at q
  refine I.write (x := l) (e := l) (by rw [hH]; exact trivial) (.inl rfl) (fun b' u hb hu => (Heap.get?_update_other s.heap (Obj.mapSeq f) (Ne.symm hb)).trans hu) ⟨_, q⟩ ?_
  exact ⟨hz, its', _, hv, q⟩
theorem Inv.lnew {its : List Value} {t' : Nat} (I : Inv X pins σ H s) (hv : Vals ys its) (hz : ys.length ≤ sizeLine) :
    Inv X pins σ (upd H s.heap.objs.size (.lst ys)) { s with heap := s.heap.push { cls := .type "list", data := .seq its.toArray }, toks := t' } :=
  I.laid (fun _ _ q => Heap.get?_push_of_some _ q) (Nat.le_refl _) ⟨hz, its, 0, hv, Heap.get?_push_size _ rfl⟩
theorem Inv.fresh (I : Inv X pins σ H s) : H s.heap.objs.size = none := I.hok.fresh (Nat.le_refl _)
theorem Inv.lstM (I : Inv X pins σ H s) (hH : H l = some (.lst xs)) : xs.length ≤ sizeLine ∧ ∃ (its : List Value) (n : Nat), Vals xs its ∧ xs.length = its.length ∧ s.heap.get? l = some { cls := .type "list", data := .seq its.toArray n } := by
  obtain ⟨z, its, n, r, e⟩ := I.hok l _ hH
  exact ⟨z, its, n, r, r.length, e⟩
theorem notLongL {n : Nat} (h : n ≤ sizeLine) : Builtin.List.listTooLong n = false := by
  unfold Builtin.List.listTooLong
  exact decide_eq_false (by omega)
end
section
variable {X : Cx}
/-! ### methods -/
def rAppend : V → List V → Hp → VK → Prop := fun x vs H Q => ∃ l xs y, x = .ref l ∧ vs = [y] ∧ H l = some (.lst xs) ∧ xs.length < sizeLine ∧ Q .non (upd H l (.lst (xs ++ [y])))
theorem mt_append : MtM X "list.append" rAppend := by
  intro pins s σ H x vs v us Q I rx rv h
  obtain ⟨l, xs, y, rfl, rfl, hH, hz, q⟩ := h
  cases rx
  obtain ⟨u, rfl, ru⟩ := rv.one
  obtain ⟨z, its, n, r, hl, e⟩ := I.lstM hH
  refine call_meets F.slot_list_append ⟨_, e, rfl⟩ F.entry_list_append (F.args_list_append_2 _ _) (PySem.list_append l its.toArray n u (by rw [List.size_toArray]; omega)) ⟨e, ?_⟩
  refine ⟨.non, _, I.lset (its' := its ++ [u]) hH e (by simp) (r.append (.cons ru .nil)) ?_, rfl, q⟩
  rw [List.length_append, List.length_singleton]
  omega
def rExtend : V → List V → Hp → VK → Prop := fun x vs H Q => ∃ l b xs zs, x = .ref l ∧ vs = [.ref b] ∧ H l = some (.lst xs) ∧ H b = some (.lst zs) ∧ xs.length + zs.length ≤ sizeLine ∧ Q .non (upd H l (.lst (xs ++ zs)))
theorem mt_extend : MtM X "list.extend" rExtend := by
  intro pins s σ H x vs v us Q I rx rv h
  obtain ⟨l, b, xs, zs, rfl, rfl, hH, hB, hz, q⟩ := h
  cases rx
  obtain ⟨u, rfl, ru⟩ := rv.one
  cases ru
  obtain ⟨z, its, n, r, hl, e⟩ := I.lstM hH
  obtain ⟨z2, its2, n2, r2, hl2, e2⟩ := I.lstM hB
  have hsz : its.toArray.size + its2.toArray.size ≤ sizeLine := by rw [List.size_toArray, List.size_toArray]; omega
  have hlong : ¬ (!its.toArray.isEmpty && Builtin.List.listTooLong (its.toArray.size + its2.toArray.size)) = true := by
    rw [notLongL hsz, Bool.and_false]
    exact Bool.false_ne_true
  refine call_meets F.slot_list_extend ⟨_, e, rfl⟩ F.entry_list_extend (F.args_list_extend_2 _ _)
    (AutoSeq1.list_extend_list_list_0 l its.toArray n b its2.toArray n2 hlong (by rw [List.size_toArray]; omega) (by omega)) ⟨e, e2, ?_⟩
  refine ⟨.non, _, I.lset (its' := its ++ its2) hH e (by simp) (r.append r2) ?_, rfl, q⟩
  rw [List.length_append]
  omega
def rPopAt : V → List V → Hp → VK → Prop := fun x vs H Q => ∃ l xs i k y, x = .ref l ∧ vs = [.int i] ∧ H l = some (.lst xs) ∧ -(2 ^ 63) ≤ i ∧ i < 2 ^ 63 ∧ seqIndex? i xs.length = some k ∧ xs[k]? = some y ∧ Q y (upd H l (.lst (xs.eraseIdx k)))
theorem mt_popAt : MtM X "list.pop" rPopAt := by
  intro pins s σ H x vs v us Q I rx rv h
  obtain ⟨l, xs, i, k, y, rfl, rfl, hH, h1, h2, hk, hy, q⟩ := h
  cases rx
  obtain ⟨u, rfl, ru⟩ := rv.one
  obtain ⟨t, rfl⟩ := ru
  obtain ⟨z, its, n, r, hl, e⟩ := I.lstM hH
  obtain ⟨w, hw, rw'⟩ := r.get hy
  refine call_meets F.slot_list_pop ⟨_, e, rfl⟩ F.entry_list_pop (F.args_list_pop_2 _ _)
    (MeetsSeq.list_pop_at l its.toArray n i t k w (fitsIndex_both h1 h2) (by rw [List.size_toArray, ← hl]; exact hk) (by rw [← Array.getElem?_toList]; exact hw) (by rw [List.size_toArray]; omega)) ⟨e, ?_⟩
  refine ⟨y, _, I.lset (its' := its.eraseIdx k) hH e ?_ (r.eraseIdx k) ?_, rw', q⟩
  · show its.toArray.eraseIdxIfInBounds k = (its.eraseIdx k).toArray
    rw [List.eraseIdxIfInBounds_toArray]
  · have := len_erase xs k
    omega
/-! ### list + list, list += list, list * int -/
def rCat : R2 := fun x y H Q => ∃ l b xs zs, x = .ref l ∧ y = .ref b ∧ H l = some (.lst xs) ∧ H b = some (.lst zs) ∧ xs.length + zs.length ≤ sizeLine ∧ ∀ p, H p = none → Q (.ref p) (upd H p (.lst (xs ++ zs)))
theorem op_cat : OpR X (binaryOp .Add) rCat := by
  intro pins s σ H x y v u Q I rx ry h
  obtain ⟨l, b, xs, zs, rfl, rfl, hH, hB, hz, q⟩ := h
  cases rx
  cases ry
  obtain ⟨z, its, n, r, hl, e⟩ := I.lstM hH
  obtain ⟨z2, its2, n2, r2, hl2, e2⟩ := I.lstM hB
  refine PySem.P.add_list e e2 ?_ (by rw [List.size_toArray, List.size_toArray]; omega)
  have ea : its.toArray ++ its2.toArray = (its ++ its2).toArray := by simp
  rw [ea]
  exact ⟨.ref _, _, I.lnew (t' := s.toks) (r.append r2) (by rw [List.length_append]; omega), rfl, q _ I.fresh⟩
/-! ### del xs[i] -/
end
/-! ### xs[a:b] = ys -/
section
variable {prog : Program} {w : World} {A : Around} {E : Value → Shared → Prop} {s : Shared}
set_option maxRecDepth 100000 in
end
section
variable {X : Cx}
end
end L2
namespace Att
open PySem PySem.W PySem.Calls PyProof.Rows
/-! ### the script -/
theorem ints_of_wellAll {P : Params} {h : Heap} : ∀ (ns : List Int) (vs : List Value), WellAll P h vs (ns.map WData.int) → IntsAre vs ns := by
  intro ns
  induction ns with
  | nil =>
    intro vs w
    rw [List.map_nil] at w
    cases w
    exact .nil
  | cons n ns ih =>
    intro vs w
    rw [List.map_cons] at w
    cases w with
    | cons a b =>
      cases a
      exact .cons _ _ (ih _ b)
theorem script_of {l : OpenLaw} {n : Nat} (hn : l.most = some n) {P : Params} {h : Heap} {args : List WData} {vals : List Value}
    (hpre : l.row.toRowW.claim.pre args = true) (hwl : WellAll P h vals args) :
    ∃ a vs ns, vals = [Value.ref a] ∧ args = [WData.list (ns.map WData.int)] ∧ h.get? a = some { cls := .type "list", data := .seq vs.toArray } ∧ IntsAre vs ns ∧ ns.length ≤ n := by
  have hsh : WShape.hasAll [] args [.list .int] = true := (pre_splitW hpre).1
  have hc : l.pre.holds [] { args := args } = true := (pre_splitW hpre).2
  obtain ⟨d, r, rfl, h1, h2⟩ := hasAllW_cons hsh
  obtain rfl := hasAllW_nil h2
  obtain ⟨xs, rfl, h3⟩ := hasW_list h1
  obtain ⟨ns, rfl⟩ := items_int h3
  have hlen : ns.length ≤ n := by
    unfold OpenLaw.pre at hc
    have h4 : (WTm.not (.lt (.lit (.int (n : Int))) (.len (.arg 0)))).holds [] { args := [.list (ns.map .int)] } = true := by
      have h4 := (holds_andW hc).1
      rw [hn] at h4
      exact h4
    have h5 := condW_of h4 (w_not (w_lt w_lit (w_len_list (w_arg rfl))))
    rw [List.length_map] at h5
    refine Nat.le_of_not_lt fun q => ?_
    have q' : (n : Int) < ((ns.length : Nat) : Int) := by omega
    first
      | (rw [decide_eq_true q'] at h5; exact absurd h5 (by decide))
      | (simp at h5; omega)
  cases hwl with
  | cons w1 w2 =>
    cases w2
    cases w1 with
    | list ho hall => exact ⟨_, _, ns, rfl, rfl, ho, ints_of_wellAll ns _ hall, hlen⟩
theorem post_true (l : OpenLaw) (args : List WData) : l.row.toRowW.claim.post args (.bool true) args = true :=
  postW_of (r := l.row.toRowW) (X := (true == true))
    (show WShape.has [] (.bool true) .bool = true by first | rfl | decide | simp [WShape.has, WShape.arms, WShape.armsAll])
    (show (WTm.eq .res (.lit (.bool true))).value [] { args := args, res := some (.bool true), after := args } = some (.bool (true == true)) from w_eq_bool (w_res rfl) w_lit) rfl
/-! ### the attachment: holds_open's last premise (the goal 'hc' behind k_head) from a wpAny of the law's body -/
/-- the same from a codeAny of the CALL (for a layer whose function contracts speak of calls) -/
theorem attach_call {l : OpenLaw} {n : Nat} {q : Program} {loose : List Str} {XP : (Str → Option Value) → Heap → Prop} {YP : World → Heap → Prop} {d : DefRec}
    (hn : l.most = some n) (hdf : d.params.defaults = [])
    (call : ∀ (w : World) (s₀ s₁ : Shared) (mg mb : Str → Option Value) (fa : Addr) (o : Obj) (pm cd doc : Value) (a : Addr) (vs : List Value) (ns : List Int),
      Ground q loose [] XP w s₀ mg mb s₁.heap → YP w s₁.heap →
      s₁.heap.get? fa = some o → o.data = .func (docDef d.name d.params d.body d.scope pm cd doc) → s₁.heap.CodeRec cd d.name → mg d.name = some (.ref fa) →
      s₁.heap.get? a = some { cls := .type "list", data := .seq vs.toArray } → IntsAre vs ns → ns.length ≤ n → s₁.gens = #[] →
      codeAny (model l.prog w) callerA (.call (.ref fa) ⟨[.ref a], []⟩) (fun r s' => r = .ok (.ret (.bool true)) ∧ OldK s₁.heap s'.heap ∧ s'.os = s₁.os ∧ AllBare s'.gens) s₁) :
    WalkO q loose XP YP l.row.toRowW d [] (fun f vs => PySem.call f vs) := by
  intro w s₀ s₁ mg mb G Y fa o pm cd doc dV kV ho hd hcd hD hmg hg args vals as hpre hlay hrd hwl hlo
  obtain rfl : dV = .none := Dflts.none hD hdf
  obtain rfl : kV = .none := Dflts.noKw hD
  obtain ⟨a, vs, ns, rfl, rfl, hobj, hints, hlen⟩ := script_of hn hpre hwl
  refine enter_call (codeAny_mono (call w s₀ s₁ mg mb fa o pm cd doc a vs ns G Y ho (fd_plain hd) hcd hmg hobj hints hlen hg) fun r s' hq => ?_)
  obtain ⟨rfl, h2, h3, h4⟩ := hq
  exact ⟨.inl ⟨.bool true, .bool true, [], rfl, fun _ => rfl, .bool true, post_true l _, fun _ => ⟨List.Pairwise.nil, fun _ hm => (nomatch hm)⟩⟩, h2, h3, h4⟩
/-! ### rules over ANY heap (no ledger) from facts about the written part K: the library's own take a ledger (News) for what they write -/
section
variable {prog : Program} {w : World} {A : Around} {E : Value → Shared → Prop} {s : Shared} {K : Frag}
/-! the whole heap as the ledger: makes every rule that writes through a ledger a rule over any heap -/
end
end Att
namespace L2
open PySem PySem.Spec PyProof.Rows
theorem vals_ints : ∀ {vs : List Value} {ns : List Int}, IntsAre vs ns → Vals (ns.map V.int) vs
  | _, _, .nil => .nil
  | _, _, .cons n t h => .cons ⟨t, rfl⟩ (vals_ints h)
/-- nothing is tracked but the script, known to the object (or it is an object of the module) -/
def Only (H : Hp) : Prop := ∀ b, H b = none ∨ ∃ o xs, H b = some (.frz o (.lst xs))
/-- THE HEAD: the law's promise, at the heap behind the top. F, the promise of the law's def, may use that base is part of the heap (so K.In base, base.Ns mainGlobals mg stand in Mod) -/
theorem law_call {P : Program} {w : World} {K : PySem.W.Frag} {mg mb : Str → Option Value} {CX : CXT} {k : Nat} {fa a : Addr} {fd : FuncData} {x : Str} {sp : Sp} {s₁ : Shared} {vs : List Value} {ns : List Int}
    (KX : K.In s₁.heap) (hns : s₁.heap.Ns mainGlobals mg) (hb : s₁.heap.Ns builtinsNs mb) (hbb : ∀ x : Str, x ≠ "__name__" → mb x = bootBuiltins x) (hlim : s₁.heap.NoLimit) (hg : s₁.gens = #[])
    (ha : s₁.heap.get? a = some { cls := .type "list", data := .seq vs.toArray }) (hi : IntsAre vs ns) (hl : ns.length ≤ sizeLine) (hr : Room k callerA)
    (F : ∀ base : Heap, K.In base → base.Ns mainGlobals mg → FnOk P w K mg base CX k fa fd [x] sp) (hbind : ∀ (s : Shared) (u : Value), BindsTo s fd ⟨[u], []⟩ [(x, u)])
    (hsp : ∀ H : Hp, Only H → SqL K H a (ns.map V.int) → sp [.ref a] H (fun v _ => v = .bl true) fun _ _ _ => False)
    (hCX : ∀ H e s', CX [] H s₁ (fun _ _ _ => False) e s' → False) :
    codeAny (model P w) callerA (.call (.ref fa) ⟨[.ref a], []⟩) (fun r s' => r = .ok (.ret (.bool true)) ∧ OldK s₁.heap s'.heap ∧ s'.os = s₁.os ∧ AllBare s'.gens) s₁ := by
  have rv := vals_ints hi
  have lenV := hi.length
  -- from an abstract heap in which nothing but the script may be tracked
  have core : ∀ H : Hp, Only H → SqL K H a (ns.map V.int) → HOk P w H s₁.heap → (∀ b, H b ≠ none → b = a) → (H a ≠ none → K.lookup a = none) →
      codeAny (model P w) callerA (.call (.ref fa) ⟨[.ref a], []⟩) (fun r s' => r = .ok (.ret (.bool true)) ∧ OldK s₁.heap s'.heap ∧ s'.os = s₁.os ∧ AllBare s'.gens) s₁ := by
    intro H hO hS hok hA hK
    have base_of : ∀ {b : Addr} {o : Obj}, s₁.heap.get? b = some o → H b = none → (hidT s₁.heap H).get? b = some o := fun e n => hidT_get e n
    have noA : ∀ {b : Addr} {o : Obj} {es : Array DictEntry} {ep : Nat}, s₁.heap.get? b = some o → o.data = .dict es ep → H b = none := fun {b o es ep} e d => by
      cases q : H b with
      | none => rfl
      | some u =>
        have e' : b = a := hA b (by rw [q]; simp)
        subst e'
        rw [ha] at e; cases e
        have d' : Data.seq vs.toArray _ = Data.dict es ep := d
        cases d'
    have nsK : ∀ {b : Addr} {m : Str → Option Value}, s₁.heap.Ns b m → (hidT s₁.heap H).Ns b m := fun {b m} ⟨o, es, ep, e, d, r⟩ => ⟨o, es, ep, base_of e (noA e d), d, r⟩
    have hKb : K.In (hidT s₁.heap H) := fun b o e => base_of (KX b o e) (by
      cases q : H b with
      | none => rfl
      | some u =>
        have e' : b = a := hA b (by rw [q]; simp)
        subst e'
        rw [hK (by rw [q]; simp)] at e; cases e)
    have hM : Mod K mg (hidT s₁.heap H) := ⟨hKb, nsK hns, ⟨mb, nsK hb, hbb⟩, let ⟨mc, h1, h2⟩ := hlim; ⟨mc, nsK h1, h2⟩⟩
    have e0 : Env0 P w K mg (hidT s₁.heap H) callerA [] s₁ H := ⟨rfl, hM, fun b o e => of_hidT e, Nat.le_of_eq (hidT_size _ _), trivial, fun b hb => absurd (show b ∈ ([] : List Addr) from hb) (by simp), hok, .of_eq hg⟩
    refine codeAny_mono ((F _ hKb (nsK hns)).run callerA [] s₁ H ⟨[.ref a], []⟩ [.ref a] [.ref a] _ _ hr e0 (hbind s₁ (.ref a)) (.cons rfl .nil) (hsp H hO hS)) fun r s' h => ?_
    cases r with
    | error e => exact (hCX H e s' h).elim
    | ok fl =>
      cases fl with
      | next => exact False.elim h
      | brk => exact False.elim h
      | cont => exact False.elim h
      | ret u =>
        obtain ⟨v, H', os, bare, un, hok', r', q⟩ := h
        have q' : v = .bl true := q
        subst q'
        obtain rfl : u = Value.bool true := r'
        refine ⟨rfl, OldK.of_keep fun b o e => ?_, os, bare⟩
        cases q : H b with
        | none => exact un.keep b o e q (by intro z; exact absurd (show b ∈ ([] : List Addr) from z) (by simp)) (by simp)
        | some u =>
          rcases hO b with z | ⟨ob, xs, z⟩
          · rw [q] at z; cases z
          · have z2 := un.frzs b ob _ z
            obtain ⟨e1, _⟩ := hok b _ z
            obtain ⟨e2, _⟩ := hok' b _ z2
            rw [e] at e1; cases e1
            exact e2
  cases hk : K.lookup a with
  | some o =>
    -- the script is one of the module's own objects
    have e := KX a o hk
    rw [ha] at e
    cases e
    refine core (fun _ => none) (fun _ => .inl rfl) (.inr ⟨_, vs.toArray, _, hk, rfl, rfl, rfl, by rw [List.size_toArray, lenV]; exact hl, by simpa using rv⟩) (fun b u z => by have z' : (none : Option HO) = some u := z; cases z') (fun b z => absurd rfl z) fun z => absurd rfl z
  | none =>
    refine core (fun b => if b = a then some (.frz { cls := .type "list", data := .seq vs.toArray } (.lst (ns.map V.int))) else none) (fun b => ?_) (.inl (.inr ⟨{ cls := .type "list", data := .seq vs.toArray }, if_pos rfl⟩)) (fun b u z => ?_) (fun b z => ?_) fun _ => hk
    · by_cases hb : b = a
      · exact .inr ⟨_, _, if_pos hb⟩
      · exact .inl (if_neg hb)
    · by_cases hb : b = a
      · have z' := (if_pos hb).symm.trans z
        cases z'
        subst hb
        exact ⟨ha, by rw [List.length_map]; exact hl, vs, _, rv, ha⟩
      · have z' := (if_neg hb).symm.trans z
        cases z'
    · by_cases hb : b = a
      · exact hb
      · exact absurd (if_neg hb) z
end L2
namespace L2
open PySem PySem.Spec PyProof.Rows
/-- the goal that k_head leaves (case hc), from the law's promise. F gives the function object fd (K's own) once, then the promise over every base -/
theorem walk_of {l : PySem.W.OpenLaw} {n k : Nat} {q : Program} {loose : List Str} {XP : (Str → Option Value) → Heap → Prop} {YP : World → Heap → Prop} {d : DefRec} {K : Params → PySem.W.Frag} {CX : World → CXT} {sp : World → Sp} {x : Str}
    (hn : l.most = some n) (hn2 : n ≤ sizeLine) (hdf : d.params.defaults = []) (hr : Room k callerA)
    (hY : ∀ (w : World) (h : Heap), YP w h → (K w.params).In h)
    (F : ∀ (w : World) (mg : Str → Option Value) (fa : Addr) (h : Heap), (K w.params).In h → h.Ns mainGlobals mg → mg d.name = some (.ref fa) →
      ∃ fd : FuncData, (∀ (s : Shared) (u : Value), BindsTo s fd ⟨[u], []⟩ [(x, u)]) ∧
        ∀ base : Heap, (K w.params).In base → base.Ns mainGlobals mg → FnOk l.prog w (K w.params) mg base (CX w) k fa fd [x] (sp w))
    (hsp : ∀ (w : World) (H : Hp) (a : Addr) (ns : List Int), ns.length ≤ n → Only H → SqL (K w.params) H a (ns.map V.int) → sp w [.ref a] H (fun v _ => v = .bl true) fun _ _ _ => False)
    (hCX : ∀ (w : World) (H : Hp) (s : Shared) (e : Value) (s' : Shared), CX w [] H s (fun _ _ _ => False) e s' → False) :
    PySem.W.WalkO q loose XP YP l.row.toRowW d [] (fun f vs => PySem.call f vs) := by
  refine Att.attach_call hn hdf fun w s₀ s₁ mg mb fa o pm cd doc a vs ns G Y ho hd hcd hmg hobj hints hlen hg => ?_
  have KX := hY w _ Y
  obtain ⟨fd, hb, hF⟩ := F w mg fa _ KX G.T.g hmg
  exact law_call KX G.T.g G.T.b G.T.builtins G.T.nolimit hg hobj hints (Nat.le_trans hlen hn2) hr hF hb (fun H hO hS => hsp w H a ns hlen hO hS) fun H e s' => hCX w H s₁ e s'
end L2
/-! SHORT WORDS over the layer: a def of the text, its body, what a loop and a test want. -/
namespace L2
open PySem PySem.Spec PyProof.Rows
/-! ### the text by places -/
def defArgs (s : Stmt) : Arguments := match s with
  | .FunctionDef _ a _ _ _ _ _ _ _ _ => a
  | _ => { posonlyargs := [], args := [], vararg := none, kwonlyargs := [], kw_defaults := [], kwarg := none, defaults := [] }
def defBody (s : Stmt) : List Stmt := match s with
  | .FunctionDef _ _ b _ _ _ _ _ _ _ => b
  | _ => []
def defScope (s : Stmt) : Scope := match s with
  | .FunctionDef _ _ _ _ _ _ sc _ _ _ => sc
  | _ => { kind := .function, names := [], isGenerator := false, isCoroutine := false }
/-! ### no exception leaves a def -/
abbrev CX0 : CXT := fun _ _ _ _ _ _ => False
abbrev E0 : XK := fun _ _ _ => False
theorem pass0 {X : Cx} : Passes CX0 X E0 := fun _ _ _ _ _ _ _ h => h.elim
/-! ### a def (or method) of the text as it stands behind the top -/
structure Fun (K : PySem.W.Frag) (x qual : Str) (st : Stmt) (f : Addr) (fd : FuncData) : Prop where
  ex : ∃ (oc : Value) (od : Option Addr) (kV doc pm : Value) (an : Option Addr) (cdv ct : Value) (osl : Array (Option Value)),
    fd = PySem.W.fnOf x qual (defArgs st) (defBody st) (defScope st) .none kV doc pm an cdv ct ∧ K.lookup f = some ⟨oc, od, .func fd, osl⟩ ∧ PySem.W.codeIn K cdv qual = true
  kp : PySem.W.keepIn K (.ref f) = true
section
variable {P : Program} {w : World} {K : PySem.W.Frag} {mg : Str → Option Value} {base : Heap}
/-- THE RULE for a def: its body as a term of rules, and the reading of that term -/
theorem Fun.ok {x qual : Str} {st : Stmt} {f : Addr} {fd : FuncData} {N ps : List Str} {k : Nat} {sp : Sp} (F : Fun K x qual st f fd) (S : FnScope N ps (defScope st)) (len : ∀ vs H Q E, sp vs H Q E → vs.length = ps.length)
    (hbody : ∀ (cdv : Value) (A : Around) (outer : List Env) (s : Shared) (H : Hp) (vs : List V) (Q : VK) (E : XK), Room k (A.deeper (envOfC qual (defScope st) s.heap.objs.size f cdv)) → sp vs H Q E →
      ∃ t, PSs (cxOf CX0 P w K mg base N qual (defScope st) f cdv A outer s H E).nox (defBody st) t ∧ t { nx := fun _ H' => Q .non H', rt := Q } (start N vs) H) : FnOk P w K mg base CX0 (k + 1) f fd ps sp := by
  obtain ⟨oc, od, kV, doc, pm, an, cdv, ct, osl, rfl, lk, hcd⟩ := F.ex
  refine fn_of lk hcd S len fun A outer s H vs Q E hr hsp => ?_
  obtain ⟨t, h, q⟩ := hbody cdv A outer s H vs Q E hr hsp
  exact ⟨t, h.nox, q⟩
/-- how its arguments bind (no defaults): h is «fun _ _ _ _ _ _ us hl => match us, hl with | [_, _], _ => rfl», one _ a parameter -/
theorem Fun.binds {x qual : Str} {st : Stmt} {f : Addr} {fd : FuncData} {ps : List Str} (F : Fun K x qual st f fd)
    (h : ∀ (kV doc pm : Value) (an : Option Addr) (cdv ct : Value) (us : List Value), us.length = ps.length → bindArgs (PySem.W.fnOf x qual (defArgs st) (defBody st) (defScope st) .none kV doc pm an cdv ct) ⟨us, []⟩ = pure (ps.zip us)) : Binds K fd ps [] := by
  obtain ⟨oc, od, kV, doc, pm, an, cdv, ct, osl, rfl, lk, hcd⟩ := F.ex
  exact .all (h kV doc pm an cdv ct)
theorem fun_mk {x qual : Str} {st : Stmt} {f : Addr} {oc : Value} {od an : Option Addr} {osl : Array (Option Value)} {kV doc pm cdv ct : Value} (l : K.lookup f = some ⟨oc, od, .func (PySem.W.fnOf x qual (defArgs st) (defBody st) (defScope st) .none kV doc pm an cdv ct), osl⟩)
    (c : PySem.W.codeIn K cdv qual = true) (k : PySem.W.keepIn K (.ref f) = true) : Fun K x qual st f (PySem.W.fnOf x qual (defArgs st) (defBody st) (defScope st) .none kV doc pm an cdv ct) := ⟨⟨oc, od, kV, doc, pm, an, cdv, ct, osl, rfl, l, c⟩, k⟩
end
theorem hu_of {A : Around} {k : Nat} (hr : Room k A) : A.units + 1 < cLine := Nat.lt_of_le_of_lt (Nat.add_le_add_left (by decide : 1 ≤ 64) _) hr.units
/-! ### expressions in short: the name that stands in the i-th slot -/
section
variable {X : Cx}
theorem pv (i : Nat) {x : Str} {pos : Pos} (hN : X.N[i]? = some x := by rfl) (hv : Vis X.env.scope x := by first | exact Or.inl rfl | exact Or.inr (Or.inl rfl) | exact Or.inr (Or.inr rfl)) (hd : (x == ("__debug__" : Str)) = false := by decide)
    (hcd : (x == ("__classdict__" : Str)) = false := by decide) : PE X (.Name x pos) (tVar i) := pe_var hN hv hd hcd
end
/-! ### tests -/
theorem iteF {A B : Prop} (h : B) : if false = true then A else B := by
  rw [if_neg Bool.false_ne_true]
  exact h
/-! ### heaps -/
/-- all that was tracked is as it was -/
def Same (H H' : Hp) : Prop := ∀ b o, H b = some o → H' b = some o
theorem Same.refl (H : Hp) : Same H H := fun _ _ h => h
theorem Same.trans {H H1 H2 : Hp} (a : Same H H1) (b : Same H1 H2) : Same H H2 := fun c o h => b c o (a c o h)
theorem Same.seq {K : PySem.W.Frag} {H H' : Hp} {a : Addr} {xs : List V} (e : Same H H') (h : SqL K H a xs) : SqL K H' a xs := by
  rcases h with (h | ⟨o, h⟩) | h
  · exact .inl (.inl (e _ _ h))
  · exact .inl (.inr ⟨o, e _ _ h⟩)
  · exact .inr h
end L2
end
section
set_option Elab.async false
set_option linter.all false
set_option maxRecDepth 100000
set_option maxHeartbeats 4000000
namespace L2
open PySem PySem.Spec PyProof.Rows
/-! ### lists of pairs as tables -/
section
variable {κ : Type} [DecidableEq κ]
def valV (kvs : List (κ × V)) (k : κ) : Option V := (kvs.find? fun kv => decide (kv.1 = k)).map (·.2)
/-- in its place, or at the end -/
def putK (kvs : List (κ × V)) (k : κ) (v : V) : List (κ × V) :=
  if (kvs.any fun kv => decide (kv.1 = k)) = true then kvs.map (fun kv => if kv.1 = k then (kv.1, v) else kv) else kvs ++ [(k, v)]
theorem valV_pos {p : κ × V} {r : List (κ × V)} {k : κ} (e : p.1 = k) : valV (p :: r) k = some p.2 := by simp [valV, List.find?_cons, e]
theorem valV_neg {p : κ × V} {r : List (κ × V)} {k : κ} (e : ¬ p.1 = k) : valV (p :: r) k = valV r k := by simp [valV, List.find?_cons, e]
theorem valV_any (k : κ) : ∀ kvs : List (κ × V), (kvs.any fun kv => decide (kv.1 = k)) = (valV kvs k).isSome
  | [] => rfl
  | p :: r => by
    rw [List.any_cons]
    by_cases e : p.1 = k
    · simp only [valV_pos e, decide_eq_true e, Bool.true_or, Option.isSome_some]
    · rw [valV_neg e, decide_eq_false e, Bool.false_or]; exact valV_any k r
theorem length_putK (kvs : List (κ × V)) (k : κ) (v : V) : (putK kvs k v).length ≤ kvs.length + 1 := by
  unfold putK
  split
  · rw [List.length_map]; omega
  · rw [List.length_append, List.length_cons, List.length_nil]; omega
theorem RelO.isSome_eq {o : Option V} {u : Option Value} (r : RelO o u) : o.isSome = u.isSome := by
  cases o with
  | none => cases u with
    | none => rfl
    | some _ => exact (show False from r).elim
  | some _ => cases u with
    | none => exact (show False from r).elim
    | some _ => rfl
theorem RelO.getD {o : Option V} {u : Option Value} {d : V} {d' : Value} (r : RelO o u) (rd : RelV d d') : RelV (o.getD d) (u.getD d') := by
  cases o with
  | none => cases u with
    | none => exact rd
    | some _ => exact (show False from r).elim
  | some _ => cases u with
    | none => exact (show False from r).elim
    | some _ => exact r
/-- raw tables of the same keys -/
theorem KV.val {kvs : List (κ × V)} {vs : List (κ × Value)} (r : KV kvs vs) (k : κ) : RelO (valV kvs k) (valueAt vs k) := by
  unfold KV at r
  induction r with
  | nil => exact True.intro
  | @cons p q ps qs h t ih =>
    obtain ⟨h1, h2⟩ := h
    by_cases e : p.1 = k
    · have e' : q.1 = k := h1.symm.trans e
      have b : valueAt (q :: qs) k = some q.2 := by simp [valueAt, List.find?_cons, e']
      rw [valV_pos e, b]; exact h2
    · have e' : ¬ q.1 = k := fun z => e (h1.trans z)
      have b : valueAt (q :: qs) k = valueAt qs k := by simp [valueAt, List.find?_cons, e']
      rw [valV_neg e, b]; exact ih
theorem KV.any {kvs : List (κ × V)} {vs : List (κ × Value)} (r : KV kvs vs) (k : κ) : (kvs.any fun kv => decide (kv.1 = k)) = vs.any fun kv => decide (kv.1 = k) := by
  unfold KV at r
  induction r with
  | nil => rfl
  | cons h t ih => rw [List.any_cons, List.any_cons, ih, h.1]
theorem KV.repl {kvs : List (κ × V)} {vs : List (κ × Value)} (r : KV kvs vs) (k : κ) {y : V} {u : Value} (ry : RelV y u) :
    KV (kvs.map fun kv => if kv.1 = k then (kv.1, y) else kv) (vs.map fun kv => if kv.1 = k then (kv.1, u) else kv) := by
  unfold KV at r ⊢
  induction r with
  | nil => exact .nil
  | @cons p q ps qs h t ih =>
    rw [List.map_cons, List.map_cons]
    refine .cons ?_ ih
    obtain ⟨h1, h2⟩ := h
    by_cases e : p.1 = k
    · rw [if_pos e, if_pos (h1.symm.trans e)]; exact ⟨h1, ry⟩
    · rw [if_neg e, if_neg (fun z => e (h1.trans z))]; exact ⟨h1, h2⟩
theorem KV.put {kvs : List (κ × V)} {vs : List (κ × Value)} (r : KV kvs vs) (k : κ) {y : V} {u : Value} (ry : RelV y u) : KV (putK kvs k y) (stored vs k u) := by
  unfold putK stored
  rw [r.any k]
  by_cases e : (vs.any fun kv => decide (kv.1 = k)) = true
  · rw [if_pos e, if_pos e]; exact r.repl k ry
  · rw [if_neg e, if_neg e]; exact Paired.snoc r ⟨rfl, ry⟩
theorem KV.length {kvs : List (κ × V)} {vs : List (κ × Value)} (r : KV kvs vs) : kvs.length = vs.length := Paired.length r
end
/-! ### a tracked dict, its keys ints and texts or tuples of these -/
theorem kV_is {P : Program} {w : World} {k : Key} {u : Value} (r : RelV (kV k) u) : (mixKind P w).is k u = true := by
  cases k with
  | inl i => obtain ⟨t, e⟩ := (show ∃ t, u = Value.int i t from r); subst e; exact mixKind_int P w i t
  | inr x => obtain ⟨t, e⟩ := (show ∃ t, u = Value.str x t from r); subst e; exact mixKind_str P w x t
theorem items_are {P : Program} {w : World} : ∀ {ks : List Key} {us : List Value}, Vals (ks.map kV) us → ItemsAre (mixKind P w) ks us
  | [], _, r => by rw [List.map_nil] at r; cases r; exact .nil
  | k :: ks, _, r => by
    rw [List.map_cons] at r
    cases r with
    | cons h t => exact .cons (kV_is h) (items_are t)
/-- raw entries of a dict with tuple keys -/
abbrev KT (H : Hp) : List (List Key × V) → List (List Key × Addr × Value) → Prop := Paired fun p q => p.1 = q.1 ∧ H q.2.1 = some (.tup (p.1.map kV)) ∧ RelV p.2 q.2.2
theorem KT.val {H : Hp} {kvs : List (List Key × V)} {xs : List (List Key × Addr × Value)} (r : KT H kvs xs) (k : List Key) : RelO (valV kvs k) ((atKey xs k).map (·.2)) := by
  induction r with
  | nil => exact True.intro
  | @cons p q ps qs h t ih =>
    obtain ⟨h1, _, h2⟩ := h
    by_cases e : p.1 = k
    · have e' : q.1 = k := h1.symm.trans e
      have b : atKey (q :: qs) k = some q.2 := by simp [atKey, List.find?_cons, e']
      rw [valV_pos e, b]; exact h2
    · have e' : ¬ q.1 = k := fun z => e (h1.trans z)
      have b : atKey (q :: qs) k = atKey qs k := by simp [atKey, List.find?_cons, e']
      rw [valV_neg e, b]; exact ih
theorem KT.repl {H : Hp} {kvs : List (List Key × V)} {xs : List (List Key × Addr × Value)} (r : KT H kvs xs) (k : List Key) {y : V} {u : Value} (ry : RelV y u) :
    KT H (kvs.map fun kv => if kv.1 = k then (kv.1, y) else kv) (xs.map (putAt k u)) := by
  induction r with
  | nil => exact .nil
  | @cons p q ps qs h t ih =>
    rw [List.map_cons, List.map_cons]
    refine .cons ?_ ih
    obtain ⟨h1, h2, h3⟩ := h
    unfold putAt
    by_cases e : p.1 = k
    · rw [if_pos e, if_pos (h1.symm.trans e)]; exact ⟨h1, h2, ry⟩
    · rw [if_neg e, if_neg (fun z => e (h1.trans z))]; exact ⟨h1, h2, h3⟩
theorem KT.put {H : Hp} {kvs : List (List Key × V)} {xs : List (List Key × Addr × Value)} (r : KT H kvs xs) (k : List Key) {b : Addr} {y : V} {u : Value} (hb : H b = some (.tup (k.map kV))) (ry : RelV y u) :
    KT H (putK kvs k y) (storedH xs k b u) := by
  have e : (kvs.any fun kv => decide (kv.1 = k)) = (atKey xs k).isSome := by
    rw [valV_any, (r.val k).isSome_eq, Option.isSome_map]
  unfold putK storedH
  rw [e]
  by_cases q : (atKey xs k).isSome = true
  · rw [if_pos q, if_pos q]; exact r.repl k ry
  · rw [if_neg q, if_neg q]; exact Paired.snoc r ⟨rfl, hb, ry⟩
theorem KT.keeps {H H' : Hp} {kvs : List (List Key × V)} {xs : List (List Key × Addr × Value)} (r : KT H kvs xs) (ht : ∀ b ys, H b = some (.tup ys) → H' b = some (.tup ys)) : KT H' kvs xs :=
  Paired.mapP r fun _ _ z => ⟨z.1, ht _ _ z.2.1, z.2.2⟩
section
variable {P : Program} {w : World} {H : Hp} {h : Heap} {a : Addr}
theorem rd_of {u : HO} (ok : HOk P w H h) (e : Rd H a u) : ObjOk P w H h a u := e.ok ok
theorem dk_rd {kvs : List (Key × V)} (ok : HOk P w H h) (e : Rd H a (.dK kvs)) : kvs.length ≤ sizeLine ∧ (a == sysModules) = false ∧ ∃ vs, KV kvs vs ∧ h.DictOf (mixKind P w) a vs :=
  show ObjOk P w H h a (.dK kvs) from rd_of ok e
theorem dk_of {kvs : List (Key × V)} (ok : HOk P w H h) (e : H a = some (.dK kvs)) : kvs.length ≤ sizeLine ∧ (a == sysModules) = false ∧ ∃ vs, KV kvs vs ∧ h.DictOf (mixKind P w) a vs := dk_rd ok (.inl e)
/-- a tracked tuple of ints and texts is a key -/
theorem key_of {ks : List Key} (ok : HOk P w H h) (e : H a = some (.tup (ks.map kV))) : (tupleKind (mixKind P w)).is h ks a := by
  obtain ⟨_, its, r, ⟨o, h1, h2, n, h3⟩, _⟩ := (show ObjOk P w H h a (.tup (ks.map kV)) from ok a _ e)
  exact ⟨o, its.toArray, n, h1, h2, h3, by simpa using items_are r⟩
theorem dt_rd {kvs : List (List Key × V)} (ok : HOk P w H h) (e : Rd H a (.dT kvs)) : kvs.length ≤ sizeLine ∧ (a == sysModules) = false ∧
    ∃ xs, KT H kvs xs ∧ h.DictOfH (tupleKind (mixKind P w)) a xs := by
  obtain ⟨z, y, xs, r, o, es, ep, h1, h2, h3, h4, h5⟩ := (show ObjOk P w H h a (.dT kvs) from rd_of ok e)
  refine ⟨z, y, xs, r, o, es, ep, h1, h2, h3, h4, fun x hx => ?_, h5⟩
  have all : ∀ {l : List (List Key × V)} {m : List (List Key × Addr × Value)}, KT H l m → ∀ x ∈ m, (tupleKind (mixKind P w)).is h x.1 x.2.1 := by
    intro l m q
    induction q with
    | nil => intro x hx; exact nomatch hx
    | @cons p q ps qs hq t ih =>
      intro x hx
      rcases List.mem_cons.mp hx with e | hx
      · subst e
        exact key_of ok (by rw [← hq.1]; exact hq.2.1)
      · exact ih x hx
  exact all r x hx
theorem dt_of {kvs : List (List Key × V)} (ok : HOk P w H h) (e : H a = some (.dT kvs)) : kvs.length ≤ sizeLine ∧ (a == sysModules) = false ∧
    ∃ xs, KT H kvs xs ∧ h.DictOfH (tupleKind (mixKind P w)) a xs := dt_rd ok (.inl e)
end
/-- what the dict at a holds at the key y -/
def DGet (H : Hp) (a : Addr) (y : V) (r : Option V) : Prop :=
  (∃ kvs k, Rd H a (.dK kvs) ∧ y = kV k ∧ r = valV kvs k) ∨ ∃ kvs k b, Rd H a (.dT kvs) ∧ y = .ref b ∧ H b = some (.tup (k.map kV)) ∧ r = valV kvs k
/-- the heap behind a[y] = v -/
def DPut (H : Hp) (a : Addr) (y v : V) (H' : Hp) : Prop :=
  (∃ kvs k, H a = some (.dK kvs) ∧ y = kV k ∧ kvs.length < sizeLine ∧ H' = upd H a (.dK (putK kvs k v))) ∨
  ∃ kvs k b, H a = some (.dT kvs) ∧ y = .ref b ∧ H b = some (.tup (k.map kV)) ∧ kvs.length < sizeLine ∧ H' = upd H a (.dT (putK kvs k v))
section
variable {X : Cx} {pins : List (Addr × Obj)} {σ : St} {H : Hp} {s : Shared} {a : Addr} {y v : V} {u r : Value} {o : Option V} {A : Around} {E : Value → Shared → Prop}
theorem Inv.big (I : Inv X pins σ H s) : sysModules < s.heap.objs.size := by
  have h : mainGlobals < s.heap.objs.size := (I.mod.glob.keeps I.bk).lt
  exact Nat.lt_trans (by decide) h
/-- d[y], there -/
theorem d_getItem {Q : Value → Shared → Prop} (hu : A.units + 1 < cLine) (I : Inv X pins σ H s) (g : DGet H a y (some v)) (ry : RelV y u) (h : ∀ w' s', Inv X pins σ H s' → RelV v w' → Q w' s') :
    wpAny (model X.prog X.w) A (getItem (.ref a) u) Q E s := by
  rcases g with ⟨kvs, k, e, ey, l⟩ | ⟨kvs, k, b, e, ey, eb, l⟩
  · subst ey
    obtain ⟨z, hd, vs, rel, dd⟩ := dk_rd I.hok e
    obtain ⟨w', hw, rw'⟩ := RelO.some_of (v := v) (o := valueAt vs k) (by rw [l]; exact rel.val k)
    exact wpAny_getItem_of (kV_is ry) dd.mapOf hw (h w' _ (I.tok _) rw')
  · subst ey
    cases (show u = Value.ref b from ry)
    obtain ⟨z, hd, xs, rel, dd⟩ := dt_rd I.hok e
    obtain ⟨w', hw, rw'⟩ := RelO.some_of (v := v) (o := (atKey xs k).map (·.2)) (by rw [l]; exact rel.val k)
    obtain ⟨p, hp, hp2⟩ := Option.map_eq_some_iff.mp hw
    refine wpAny_getItem_heap (tupleKind_room_in1 hu) (key_of I.hok eb) dd hp ?_
    rw [hp2]
    exact h w' _ (I.tok _) rw'
/-- a dict's object is replaced -/
theorem d_write {h' : Heap} {t' : Nat} {ob : HO} (I : Inv X pins σ H s) (mu : Mut (H a)) (hs : Heap.SameBut a s.heap h') (he : ∃ q, h'.get? a = some q) (new : ObjOk X.prog X.w (upd H a ob) h' a ob) :
    Inv X pins σ (upd H a ob) { s with heap := h', toks := t' } :=
  I.write (x := a) (e := a) mu (.inl rfl) (fun b q hb z => (hs.2 b hb).trans z) he new
theorem dk_new {P : Program} {w : World} {H' : Hp} {h' : Heap} {kvs : List (Key × V)} {vs : List (Key × Value)} (z : kvs.length ≤ sizeLine) (hd : (a == sysModules) = false) (rel : KV kvs vs) (dd : h'.DictOf (mixKind P w) a vs) :
    ObjOk P w H' h' a (.dK kvs) := ⟨z, hd, vs, rel, dd⟩
/-- d[y] = v -/
theorem d_setItem {H' : Hp} {Q : Unit → Shared → Prop} (hu : A.units + 1 < cLine) (I : Inv X pins σ H s) (g : DPut H a y v H') (ry : RelV y u) (rv : RelV v r) (h : ∀ s', Inv X pins σ H' s' → Q () s') :
    wpAny (model X.prog X.w) A (setItem (.ref a) u r) Q E s := by
  rcases g with ⟨kvs, k, e, ey, l, eH⟩ | ⟨kvs, k, b, e, ey, eb, l, eH⟩
  · subst ey eH
    obtain ⟨z, hd, vs, rel, dd⟩ := dk_of I.hok e
    have hz : vs.length ≤ sizeLine := by rw [← rel.length]; exact z
    have hl : (putK kvs k v).length ≤ sizeLine := by have := length_putK kvs k v; omega
    refine wpAny_setItem_pairs (hsz := hz) (kV_is ry) dd fun h' dd' hs => h _ ?_
    have he : ∃ q, h'.get? a = some q := let ⟨q, _, _, hq, _⟩ := dd'; ⟨q, hq⟩
    exact d_write I (by rw [e]; exact True.intro) hs he (dk_new hl hd (rel.put k rv) dd')
  · subst ey eH
    cases (show u = Value.ref b from ry)
    obtain ⟨z, hd, xs, rel, dd⟩ := dt_of I.hok e
    have hz : xs.length ≤ sizeLine := by rw [← Paired.length rel]; exact z
    have hl : (putK kvs k v).length ≤ sizeLine := by have := length_putK kvs k v; omega
    refine wpAny_setItem_heap (hsz := hz) (tupleKind_room_in1 hu) (key_of I.hok eb) dd fun h' dd' hs => h _ ?_
    obtain ⟨q, es, ep, hq, h2, h3, h4, _, h5⟩ := dd'
    refine d_write I (by rw [e]; exact True.intro) hs ⟨q, hq⟩ ⟨hl, hd, _, (rel.put k eb rv).keeps fun c ys ec => ?_, q, es, ep, hq, h2, h3, h4, h5⟩
    rw [upd_ne (ne_of ec e (fun z => nomatch z))]
    exact ec
end
section
variable {X : Cx} {pins : List (Addr × Obj)} {σ : St} {H : Hp} {s : Shared} {a : Addr} {kvs : List (Key × V)} {k : Key} {u : Value} {A : Around} {E : Value → Shared → Prop}
end
/-! ### readings and rules -/
section
variable {X : Cx} {o i e value : Expr} {pos pos' tpos : Pos} {td ty tv : TE}
end
/-! ### displays -/
theorem dk_empty {P : Program} {w : World} {H : Hp} (h : Heap) (hb : sysModules < h.objs.size) : ObjOk P w H (h.push { cls := .type "dict", data := .dict #[] }) h.objs.size (.dK []) :=
  ⟨Nat.zero_le _, beq_eq_false_iff_ne.mpr (Ne.symm (Nat.ne_of_lt hb)), [], .nil, Heap.DictOf.new h⟩
/-- {}, to be a dict of the kind that is wanted -/
def tDNewK : TE := fun _ H Q => ∀ p, H p = none → Q (.ref p) (upd H p (.dK []))
section
variable {X : Cx} {pos : Pos}
theorem pe_dnewK : PE X (.Dict [] [] pos) tDNewK := fun pins s σ H Q I h =>
  wpAny_Dict_empty ⟨.ref s.heap.objs.size, _, I.laid (a := s.heap.objs.size) (o := .dK []) (t' := s.toks) (fun _ _ q => Heap.get?_push_of_some _ q) (Nat.le_refl _) (dk_empty s.heap I.big), rfl, h _ (I.hok.fresh (Nat.le_refl _))⟩
end
/-! ### methods -/
/-- a method call o.m(e) of a built-in, with one argument: what must be seen of the text -/
structure M1 (X : Cx) (o : Expr) (m : Str) (apos : Pos) (e : Expr) (cpos : Pos) : Prop where
  base : attributeBase o m X.env (eval o X.env) = eval o X.env
  few : ((backTo cpos (starEach [e] X.env)).all (fun x => !x.1) && (backToKw cpos (keywordEach [] X.env)).all (fun x => x.1.isSome)
    && decide (([e] : List Expr).length + ([] : List Keyword).length + (if ([] : List Keyword).isEmpty then 0 else 1) < 30)) = true
  line : (apos.endLine == cpos.line) = true
  trees : backTo cpos (starEach [e] X.env) = [(false, eval e X.env)]
structure M2 (X : Cx) (o : Expr) (m : Str) (apos : Pos) (e f : Expr) (cpos : Pos) : Prop where
  base : attributeBase o m X.env (eval o X.env) = eval o X.env
  few : ((backTo cpos (starEach [e, f] X.env)).all (fun x => !x.1) && (backToKw cpos (keywordEach [] X.env)).all (fun x => x.1.isSome)
    && decide (([e, f] : List Expr).length + ([] : List Keyword).length + (if ([] : List Keyword).isEmpty then 0 else 1) < 30)) = true
  line : (apos.endLine == cpos.line) = true
  trees : backTo cpos (starEach [e, f] X.env) = [(false, eval e X.env), (false, eval f X.env)]
/-- a is a dict, whatever its keys -/
def IsD (H : Hp) (a : Addr) : Prop := (∃ kvs, Rd H a (.dK kvs)) ∨ ∃ kvs, Rd H a (.dT kvs)
theorem isD_at {X : Cx} {pins : List (Addr × Obj)} {σ : St} {H : Hp} {s : Shared} {a : Addr} (I : Inv X pins σ H s) (d : IsD H a) :
    s.TypeIs (.ref a) "dict" ∧ (∀ b, Value.ref a = .ref b → ∃ ob, s.heap.get? b = some ob ∧ ob.dict = none) ∧ (a == sysModules) = false := by
  rcases d with ⟨kvs, e⟩ | ⟨kvs, e⟩
  · obtain ⟨_, hd, vs, _, dd⟩ := dk_rd I.hok e
    refine ⟨dd.typeIs, fun b q => ?_, hd⟩
    cases q
    obtain ⟨ob, _, _, h1, h2, _⟩ := dd
    exact ⟨ob, h1, h2.2.1⟩
  · obtain ⟨_, hd, xs, _, dd⟩ := dt_rd I.hok e
    refine ⟨dd.typeIs, fun b q => ?_, hd⟩
    cases q
    obtain ⟨ob, _, _, h1, h2, _⟩ := dd
    exact ⟨ob, h1, h2.2.1⟩
section
variable {X : Cx} {pins : List (Addr × Obj)} {σ : St} {H : Hp} {s : Shared} {a : Addr} {y d : V} {u r : Value} {o : Option V} {A : Around} {E : Value → Shared → Prop}
/-- d.get(y, x) -/
theorem d_get2 {Q : Value → Shared → Prop} (hu : A.units + 1 < cLine) (I : Inv X pins σ H s) (g : DGet H a y o) (ry : RelV y u) (rd : RelV d r) (h : ∀ w' s', Inv X pins σ H s' → RelV (o.getD d) w' → Q w' s') :
    wpAny (model X.prog X.w) A (call (.builtin "dict.get") [.ref a, u, r]) Q E s := by
  rcases g with ⟨kvs, k, e, ey, l⟩ | ⟨kvs, k, b, e, ey, eb, l⟩
  · subst ey
    obtain ⟨z, hd, vs, rel, dd⟩ := dk_rd I.hok e
    refine call_meetsIn PySem.F.slot_dict_get dd.typeIs PySem.F.entry_dict_get (PySem.F.args_dict_get_3 _ _ _) (meets_dict_get_default (mixKind X.prog X.w) a (kV_is ry) hd r) ⟨_, dd.mapOf, h _ _ (I.tok _) ?_⟩
    rw [l]
    exact (rel.val k).getD rd
  · subst ey
    cases (show u = Value.ref b from ry)
    obtain ⟨z, hd, xs, rel, dd⟩ := dt_rd I.hok e
    refine call_meetsIn PySem.F.slot_dict_get dd.typeIs PySem.F.entry_dict_get (PySem.F.args_dict_get_3 _ _ _) (meetsH_dict_get_default (tupleKind (mixKind X.prog X.w)) a b hd r) ⟨tupleKind_room_in1 hu, k, xs, key_of I.hok eb, dd, h _ _ (I.tok _) ?_⟩
    rw [l]
    exact (rel.val k).getD rd
end
section
variable {X : Cx} {o e f : Expr} {apos cpos : Pos} {td ty tx : TE}
end
/-! ### dict(d): a copy -/
section
variable {X : Cx} {pins : List (Addr × Obj)} {σ : St} {H : Hp} {s : Shared} {a : Addr} {kvs : List (Key × V)} {A : Around} {E : Value → Shared → Prop}
end
section
variable {X : Cx} {pins : List (Addr × Obj)} {σ : St} {H : Hp} {s : Shared} {a : Addr} {y : V} {u : Value} {A : Around} {E : Value → Shared → Prop}
end
end L2
namespace L2
open PySem PySem.Spec PyProof.Rows
section
variable {X : Cx}
end
/-! ### a dict's pairs: keys that differ -/
section
variable {κ : Type} [DecidableEq κ]
end
end L2
end
section
set_option Elab.async false
set_option linter.all false
set_option maxRecDepth 100000
set_option maxHeartbeats 4000000
namespace L2
open PySem PySem.Spec PyProof.Rows
/-- the cells that a block takes over -/
theorem closure_ex {scope : Scope} {env : Env} (hf : ∀ x, (x, NameKind.free) ∈ scope.names → ∃ c, env.cells.lookup x = some c) :
    ∃ cl : List (Str × Addr), closureFor scope env = pure cl ∧ (∀ x c, cl.lookup x = some c → env.cells.lookup x = some c) ∧ ∀ x, (x, NameKind.free) ∈ scope.names → ∃ c, cl.lookup x = some c := by
  have gen : ∀ (names : List (Str × NameKind)) (cs : List (Str × Addr)), (∀ x, (x, NameKind.free) ∈ names → ∃ c, env.cells.lookup x = some c) → (∀ x c, cs.lookup x = some c → env.cells.lookup x = some c) →
      ∃ cl : List (Str × Addr), (forIn names cs fun (x : Str × NameKind) (r : List (Str × Addr)) => (match x with | (name, kind) => if (kind == NameKind.free) = true then (do let a ← cellOf env name; pure (ForInStep.yield ((name, a) :: r))) else pure (ForInStep.yield r) : Sem (ForInStep (List (Str × Addr))))) = (pure cl : Sem _) ∧
        (∀ x c, cl.lookup x = some c → env.cells.lookup x = some c) ∧ (∀ x c, cs.lookup x = some c → ∃ c', cl.lookup x = some c') ∧ ∀ x, (x, NameKind.free) ∈ names → ∃ c, cl.lookup x = some c := by
    intro names
    induction names with
    | nil => intro cs _ h; exact ⟨cs, rfl, h, fun x c e => ⟨c, e⟩, fun x hx => absurd hx (by simp)⟩
    | cons p r ih =>
      intro cs hn h
      obtain ⟨n, k⟩ := p
      by_cases hk : k = NameKind.free
      · subst hk
        obtain ⟨c, hc⟩ := hn n List.mem_cons_self
        have h' : ∀ x c', ((n, c) :: cs).lookup x = some c' → env.cells.lookup x = some c' := fun x c' e => by
          rw [List.lookup_cons] at e
          by_cases hx : x == n
          · rw [hx] at e
            have : x = n := by simpa using hx
            subst this
            cases e
            exact hc
          · rw [Bool.eq_false_iff.mpr hx] at e
            exact h x c' e
        obtain ⟨cl, e1, e2, e3, e4⟩ := ih ((n, c) :: cs) (fun x hx => hn x (List.mem_cons_of_mem _ hx)) h'
        refine ⟨cl, ?_, e2, fun x c' e => ?_, fun x hx => ?_⟩
        · rw [List.forIn_cons]
          have : cellOf env n = pure c := by unfold cellOf; rw [hc]
          simp only [beq_self_eq_true, if_true, this]
          exact e1
        · by_cases hx : x = n
          · subst hx
            exact e3 x c (by rw [List.lookup_cons]; simp)
          · exact e3 x c' (by rw [List.lookup_cons, show (x == n) = false from by simpa using hx]; exact e)
        · rcases List.mem_cons.mp hx with e | hx
          · cases e
            exact e3 n c (by rw [List.lookup_cons]; simp)
          · exact e4 x hx
      · obtain ⟨cl, e1, e2, e3, e4⟩ := ih cs (fun x hx => hn x (List.mem_cons_of_mem _ hx)) h
        refine ⟨cl, ?_, e2, e3, fun x hx => ?_⟩
        · rw [List.forIn_cons]
          have : (k == NameKind.free) = false := by simpa using hk
          simp only [this, Bool.false_eq_true, if_false]
          exact e1
        · rcases List.mem_cons.mp hx with e | hx
          · cases e
            exact absurd rfl hk
          · exact e4 x hx
  obtain ⟨cl, e1, e2, _, e4⟩ := gen scope.names [] hf (fun x c e => by simp at e)
  refine ⟨cl, ?_, e2, e4⟩
  unfold closureFor
  exact (congrArg (fun m => m >>= fun r => pure r) e1).trans rfl
/-! ### a block's context -/
structure InP where
  C : Addr
  s : Shared
  H : Hp
  fp : List Addr
  pins : List (Addr × Obj)
  cl : List (Str × Addr)
abbrev cxIn (X : Cx) (scope : Scope) (N : List Str) (Y : InP) : Cx where
  prog := X.prog
  w := X.w
  K := X.K
  mg := X.mg
  base := X.base
  A := X.A
  N := N
  s₀ := Y.s
  H₀ := Y.H
  env := compEnvC scope Y.cl Y.C X.env
  outer := X.stack
  stack := X.stack
  ex := Y.fp
  fn := fun _ => false
  calm := X.calm
  pn := X.pn ++ Y.pins
  xe := fun _ _ => False
/-- the names of a block: own ones (none), taken from the slot j outside (some j) -/
def inOk (osc : Scope) (NX : List Str) (scope : Scope) (N : List Str) (js : List (Option Nat)) : Bool :=
  decide (scope.kind = .function) && scope.names.all (fun y => decide (y.2 ≠ .cell)) && scope.names.all (fun y => decide (y.2 = .local → scope.names.lookup y.1 = some .local)) && decide (js.length = N.length) &&
  (js.zip N).all (fun p => match p.1 with | none => true | some j => decide (NX[j]? = some p.2) && decide (scope.names.lookup p.2 = some .free)) &&
  scope.names.all (fun y => decide (y.2 = .free → osc.names.lookup y.1 = some .cell ∨ osc.names.lookup y.1 = some .free))
structure InScope (osc : Scope) (NX : List Str) (scope : Scope) (N : List Str) (js : List (Option Nat)) : Prop where
  kind : scope.kind = .function
  nocell : ∀ y ∈ scope.names, y.2 ≠ .cell
  loc : ∀ y ∈ scope.names, y.2 = .local → scope.names.lookup y.1 = some .local
  len : js.length = N.length
  cap : ∀ (i j : Nat) (x : Str), js[i]? = some (some j) → N[i]? = some x → NX[j]? = some x ∧ scope.names.lookup x = some .free
  free : ∀ x, (x, NameKind.free) ∈ scope.names → osc.names.lookup x = some .cell ∨ osc.names.lookup x = some .free
theorem inOk.to {osc : Scope} {NX : List Str} {scope : Scope} {N : List Str} {js : List (Option Nat)} (h : inOk osc NX scope N js = true) : InScope osc NX scope N js := by
  unfold inOk at h
  simp only [Bool.and_eq_true] at h
  obtain ⟨⟨⟨⟨⟨h1, h2⟩, h3⟩, h4⟩, h5⟩, h6⟩ := h
  refine ⟨of_decide_eq_true h1, fun y hy => of_decide_eq_true (List.all_eq_true.mp h2 y hy), fun y hy => of_decide_eq_true (List.all_eq_true.mp h3 y hy), of_decide_eq_true h4, fun i j x e1 e2 => ?_, fun x hx => of_decide_eq_true (List.all_eq_true.mp h6 (x, NameKind.free) hx) rfl⟩
  have hz : (js.zip N)[i]? = some (some j, x) := by
    rw [List.getElem?_zip_eq_some]; exact ⟨e1, e2⟩
  have q := List.all_eq_true.mp h5 _ (List.mem_of_getElem? hz)
  simp only [Bool.and_eq_true] at q
  exact ⟨of_decide_eq_true q.1, of_decide_eq_true q.2⟩
def sel (js : List (Option Nat)) (σ : St) : St := js.map fun o => match o with
  | none => none
  | some j => match σ[j]? with
    | some v => v
    | none => none
theorem lookup_relabel_cf {scope : Scope} {env : Env} {x : Str} (hcell : ∀ y ∈ scope.names, y.2 ≠ .cell) (h : (relabel scope env).names.lookup x = some .cell ∨ (relabel scope env).names.lookup x = some .free) : (x, NameKind.free) ∈ scope.names := by
  have gen : ∀ k, (k = NameKind.cell ∨ k = NameKind.free) → (relabel scope env).names.lookup x = some k → (x, NameKind.free) ∈ scope.names := fun k hk e => by
    have hm := PySem.mem_of_lookup e
    obtain ⟨⟨n, k0⟩, hy, q⟩ := List.mem_map.mp hm
    dsimp only at q
    split at q
    · rename_i c
      simp only [Bool.and_eq_true, beq_iff_eq] at c
      cases q
      obtain ⟨⟨c1, _⟩, _⟩ := c
      rw [c1] at hy
      exact hy
    · cases q
      rcases hk with hk | hk
      · exact absurd hk (hcell _ hy)
      · rw [hk] at hy; exact hy
  rcases h with h | h
  · exact gen _ (.inl rfl) h
  · exact gen _ (.inr rfl) h
theorem relabel_lookup_free {env : Env} {x : Str} : ∀ {names : List (Str × NameKind)}, names.lookup x = some .free →
    (names.map fun (n, k) => if (k == NameKind.free && env.scope.kind == .function && env.kindOf n == some .cell) then (n, NameKind.cell) else (n, k)).lookup x = some .cell ∨
    (names.map fun (n, k) => if (k == NameKind.free && env.scope.kind == .function && env.kindOf n == some .cell) then (n, NameKind.cell) else (n, k)).lookup x = some .free
  | [], h => by simp at h
  | (n, k) :: r, h => by
    rw [List.map_cons]
    by_cases hx : x == n
    · rw [List.lookup_cons, hx] at h
      cases h
      by_cases c : (NameKind.free == NameKind.free && env.scope.kind == .function && env.kindOf n == some .cell) = true
      · refine .inl ?_
        show List.lookup x ((if (NameKind.free == NameKind.free && env.scope.kind == .function && env.kindOf n == some .cell) = true then (n, NameKind.cell) else (n, NameKind.free)) :: _) = _
        rw [if_pos c, List.lookup_cons, hx]
      · refine .inr ?_
        show List.lookup x ((if (NameKind.free == NameKind.free && env.scope.kind == .function && env.kindOf n == some .cell) = true then (n, NameKind.cell) else (n, NameKind.free)) :: _) = _
        rw [if_neg c, List.lookup_cons, hx]
    · have hx' := Bool.eq_false_iff.mpr hx
      rw [List.lookup_cons, hx'] at h
      have ih := relabel_lookup_free (env := env) (x := x) (names := r) h
      have e : ∀ p : Str × NameKind, p.1 = n → List.lookup x (p :: (r.map fun (n, k) => if (k == NameKind.free && env.scope.kind == .function && env.kindOf n == some .cell) then (n, NameKind.cell) else (n, k))) =
          List.lookup x (r.map fun (n, k) => if (k == NameKind.free && env.scope.kind == .function && env.kindOf n == some .cell) then (n, NameKind.cell) else (n, k)) := fun p hp => by
        obtain ⟨p1, p2⟩ := p
        cases hp
        rw [List.lookup_cons, hx']
      rw [e _ (by dsimp only; split <;> rfl)]
      exact ih
/-- tests of a block -/
def PIfs (X : Cx) (ifs : List Expr) (t : TT) : Prop :=
  ∀ (pins : List (Addr × Obj)) (s : Shared) (σ : St) (H : Hp) (Q : Bool → Hp → Prop), Inv X pins σ H s → t σ H Q →
    wpAny (model X.prog X.w) X.A (forIn ifs true fun c r => if r = true then do let ok ← isTrue c X.env (eval c X.env); pure (ForInStep.yield ok) else pure (ForInStep.yield r)) (TP X pins σ Q) X.xe s
def tYes : TT := fun _ H Q => Q true H
theorem pifs_nil {X : Cx} : PIfs X [] tYes := fun _ _ _ H _ I h => wpAny_tests_nil ⟨H, I, h⟩
theorem pifs_one {X : Cx} {c : Expr} {t : TT} (h : PT X c t) : PIfs X [c] t := fun pins s σ H Q I q => wpAny_tests_one (h pins s σ H Q I q)
end L2
end
section
set_option Elab.async false
set_option linter.all false
set_option maxRecDepth 100000
set_option maxHeartbeats 4000000
namespace L2
open PySem PySem.Spec PyProof.Rows
/-- one comprehension's turns, with the step ahead of the store -/
theorem codeAny_compLoop_gen {prog : Program} {w : World} {A : Around} {R : Result → Shared → Prop} {s : Shared} {elt target iter : Expr} {ifs : List Expr} {scope : Scope} {pos : Pos} {it acc : Value} {env : Env} (I : Nat → Shared → Prop)
    (turn : ∀ n s, I n s → wpAny (model prog w) A (pyNext it) (fun r s₁ => match r with
      | none => R (.ok .next) s₁
      | some v => wpAny (model prog w) A (letOwnedTupleGo target it v) (fun _ s₁' => wpAny (model prog w) A (assign target env v) (fun _ s₂ =>
          wpAny (model prog w) A (forIn ifs true fun c r => if r = true then do let ok ← isTrue c env (eval c env); pure (ForInStep.yield ok) else pure (ForInStep.yield r)) (fun ok s₃ =>
            if ok = true then wpAny (model prog w) A (eval elt env) (fun x s₄ =>
              wpAny (model prog w) A (call (.builtin "list.append") [acc, x]) (fun _ s₅ => ∃ m, m < n ∧ I m s₅) (fun _ _ => False) s₄) (fun _ _ => False) s₃
            else ∃ m, m < n ∧ I m s₃) (fun _ _ => False) s₂) (fun _ _ => False) s₁') (fun _ _ => False) s₁) (fun _ _ => False) s)
    (n : Nat) (h : I n s) :
    codeAny (model prog w) A (.compLoop (.ListComp elt [⟨target, iter, ifs, 0⟩] scope pos) 0 it acc env) R s := by
  refine codeAny_loop rfl I (fun n s hI => ?_) n h
  show wpAny _ A ((compTurn (.ListComp elt [⟨target, iter, ifs, 0⟩] scope pos) 0 it acc env).onRaise (fun x => do noteFrame x env; theTreesLotGoes x)) _ _ s
  refine wpAny_noted ?_
  rw [compTurn_list]
  have fe : ∀ {e : Value} {s' : Shared} {Z : Prop}, (fun (_ : Value) (_ : Shared) => False) e s' → Z := fun h => h.elim
  refine wpAny_bind (wpAny_standAt (wpAny_bind (wpAny_mono (turn n s hI) (fun r s₁ h₁ => ?_) fun _ _ h' => h'.elim)))
  cases r with
  | none => exact wpAny_pure h₁
  | some v =>
    refine wpAny_bind (wpAny_mono h₁ (fun _ s₁' h₁' => ?_) fun _ _ h' => h'.elim)
    refine wpAny_bind (wpAny_mono h₁' (fun _ s₂ h₂ => wpAny_bind (wpAny_mono h₂ (fun ok s₃ h₃ => ?_) fun _ _ h' => h'.elim)) fun _ _ h' => h'.elim)
    cases ok with
    | false => exact wpAny_pure ⟨rfl, h₃⟩
    | true =>
      exact wpAny_bind (wpAny_bind (wpAny_mono h₃ (fun x s₄ h₄ => wpAny_bind (wpAny_mono h₄ (fun _ s₅ h₅ => wpAny_pure (wpAny_pure ⟨rfl, h₅⟩)) fun _ _ h' => h'.elim)) fun _ _ h' => h'.elim))
/-- what a comprehension's turns ask -/
def tLCb (J : It) (js : List (Option Nat)) (g : InP → TG) (tt : InP → TT) (te : InP → TE) (σ : St) (H1 : Hp) (P : List V → Hp → Prop) : Prop :=
  ∀ Y : InP, ∃ W : Nat → Nat → List V → Hp → Prop, (∃ m, W 0 m [] H1) ∧ ∀ i m ys H2, W i m ys H2 →
    (J.stop i H2 ∧ P ys H2) ∨
    (J.go i H2 ∧ ys.length < sizeLine ∧ ∃ Nx : List V → Hp → Prop, (∀ ys' H', Nx ys' H' → ∃ m', m' < m ∧ W (i + 1) m' ys' H') ∧ ∀ x H3, J.yld i H2 x H3 → g Y x (sel js σ) H3 fun σ4 H4 => tt Y σ4 H4 fun b H5 =>
      if b = true then te Y σ4 H5 fun y H6 => Nx (ys ++ [y]) H6 else Nx ys H5)
def tLC (wi : TI) (js : List (Option Nat)) (g : InP → TG) (tt : InP → TT) (te : InP → TE) : TE := fun σ H Q => wi σ H fun J H1 =>
  tLCb J js g tt te σ H1 fun ys H2 => ∀ p, H2 p = none → Q (.ref p) (upd H2 p (.lst ys))
theorem comp_block {X : Cx} {pins : List (Addr × Obj)} {σ : St} {H : Hp} {s2 : Shared} {E : Value → Shared → Prop} {tg iter elt : Expr} {ifs : List Expr} {scope osc : Scope} {pos : Pos} {N : List Str} {js : List (Option Nat)} {g : InP → TG} {tt : InP → TT} {te : InP → TE}
    {J : It} {fp : List Addr} {it : Addr} {tn : Nat → Heap → Prop} {P : List V → Hp → Prop} {cl : List (Str × Addr)} {RR : Value → Addr → Result → Shared → Prop}
    (I : Inv X pins σ H s2) (hc : X.calm = true) (T : Turn X.prog X.w X.K tg J fp it tn) (st2 : tn 0 s2.heap) (f2 : ∀ b ∈ fp, FpOk X pins H b)
    (hin : ∀ Y : InP, PG (cxIn X scope N Y) tg (g Y) ∧ PIfs (cxIn X scope N Y) ifs (tt Y) ∧ PE (cxIn X scope N Y) elt (te Y))
    (S : InScope osc X.N scope N js) (hosc : X.env.scope = osc)
    (c1 : ∀ x c, cl.lookup x = some c → X.env.cells.lookup x = some c) (c2 : ∀ x, (x, NameKind.free) ∈ scope.names → ∃ c, cl.lookup x = some c)
    (h : tLCb J js g tt te σ H P)
    (hR : ∀ (acc C : Addr) (ys : List V) (H' : Hp) (s' : Shared), Inv X pins σ (upd H' acc (.lst ys)) s' → (∃ m, s'.heap.Ns C m) → FpOk X pins (upd H' acc (.lst ys)) C → H' acc = none → P ys H' → RR (.ref acc) C (.ok .next) s') :
    wpAny (model X.prog X.w) X.A (newList []) (fun acc s₃ => wpAny (model X.prog X.w) X.A (newFunctionEnv scope X.env.globals cl [] X.env.qual none .none (some X.env)) (fun cenv s₄ =>
      codeAny (model X.prog X.w) X.A (.compStart (.ListComp elt [⟨tg, iter, ifs, 0⟩] scope pos) 0 (.ref it) acc { cenv with scope := relabel scope X.env }) (RR acc cenv.locals) s₄) E s₃) E s2 := by
  refine wpAny_newObj_type (wpAny_newFunctionEnv S.nocell (by intro y hy; simp at hy) (fun h₁ hns₁ hsb₁ => ?_) S.kind)
  dsimp only at hns₁ hsb₁ ⊢
  generalize hH2 : s2.heap.push { cls := .type "list", dict := none, data := .seq ([] : List Value).toArray } = H2 at hns₁ hsb₁ ⊢
  have hC : H2.objs.size = s2.heap.objs.size + 1 := by rw [← hH2, Heap.size_push]
  have hDC : s2.heap.objs.size ≠ H2.objs.size := by rw [hC]; exact Nat.ne_of_lt (Nat.lt_succ_self _)
  have hCle : s2.heap.objs.size ≤ H2.objs.size := by rw [hC]; exact Nat.le_succ _
  have below : ∀ b, b < s2.heap.objs.size → b ≠ H2.objs.size ∧ b ≠ s2.heap.objs.size := fun b hb => ⟨by rw [hC]; exact Nat.ne_of_lt (Nat.lt_succ_of_lt hb), Nat.ne_of_lt hb⟩
  have old : ∀ b o, s2.heap.get? b = some o → h₁.get? b = some o := fun b o e => hsb₁.extBut b o (below b (Heap.lt_size e)).1 (Heap.get?_push_of_some _ (hH2 ▸ Heap.get?_push_of_some _ e))
  have hacc : h₁.PlainList s2.heap.objs.size #[] := ⟨_, hsb₁.extBut _ _ hDC (Heap.get?_push_of_some _ (hH2 ▸ Heap.get?_push_size _ rfl))⟩
  have fpl : ∀ b ∈ fp, b < s2.heap.objs.size := fun b hb => by
    obtain ⟨o, e, _⟩ := T.obj _ _ st2 b hb
    exact Heap.lt_size e
  generalize hCg : H2.objs.size = C at *
  generalize hAg : s2.heap.objs.size = acc at *
  -- the block's context
  let Y : InP := ⟨C, s2, H, fp, pins, cl⟩
  have ok : (cxIn X scope N Y).Ok := by
    refine ⟨I.ok.mod, S.kind, I.ok.glob, I.ok.blt, ?_, fun x y c e1 e2 => I.ok.inj x y c (c1 x c e1) (c1 y c e2), fun x hx => c2 x (lookup_relabel_cf S.nocell hx), fun x c e => (by cases e), I.ok.hd, I.ok.frames, .inl rfl, fun b hb => ⟨?_, fun x c e => ?_⟩, I.bs, Nat.le_trans I.ok.bsz I.sz, fun b o e hb => ?_, fun b hb hf => ?_, I.stack, I.stkFree⟩
    · show s2.heap.objs.size ≤ C
      rw [hAg]; exact hCle
    · exact (below b (fpl b hb)).1
    · exact (f2 b hb).2.2.2.2.1 x c (c1 x c e)
    · rcases (f2 b hb).2.2.2.1 with z | z
      · exact I.ok.noex b o e z
      · exact absurd (Nat.lt_of_lt_of_le (Heap.lt_size (I.ok.bs b o e).1) z) (Nat.lt_irrefl _)
    · rcases List.mem_cons.mp (I.stkSub b hf) with z | z
      · exact (f2 b hb).2.1 z
      · exact (f2 b hb).2.2.1 z
  have accC : ∀ x c, X.env.cells.lookup x = some c → c < acc := fun x c e => by
    obtain ⟨v, q⟩ := I.cell x c e
    rw [← hAg]; exact q.lt
  have pinlt : ∀ p ∈ X.pn ++ pins, p.1 < acc := fun p hp => by rw [← hAg]; exact Heap.lt_size (I.pin p hp).1
  have Llt : X.env.locals < acc := by rw [← hAg]; exact I.lt
  have fslt : ∀ b ∈ frs X.stack, b < acc := fun b hb => by
    obtain ⟨_, o, ho, _⟩ := I.stack.mem hb
    rw [← hAg]; exact Heap.lt_size ho
  have pinOk : ∀ p ∈ X.pn ++ pins, p.1 ∉ frs X.stack := fun p hp hf => by
    rcases List.mem_cons.mp (I.stkSub _ hf) with z | z
    · exact (I.pin p hp).2.2.1 z
    · exact (I.pin p hp).2.2.2.1 z
  have hHacc : H acc = none := by rw [← hAg]; exact I.hok.fresh (Nat.le_refl _)
  have hHC : H C = none := I.hok.fresh (by rw [hAg]; exact hCle)
  have I4 : ∀ tk : Nat, Inv (cxIn X scope N Y) [] (sel js σ) H { s2 with heap := h₁, toks := tk } := fun tk => by
    refine ⟨ok, rfl, I.bare, Un.kept old, ⟨_, hns₁, fun i x v e1 e2 e3 => ?_⟩, fun x c e => ?_, hHC, fun x c e => I.freeC x c (c1 x c e), fun p hp => ?_, I.hok.kept old, ?_⟩
    · -- a taken name
      have e2' : (sel js σ)[i]? = some (some v) := e2
      unfold sel at e2'
      rw [List.getElem?_map] at e2'
      cases hj : js[i]? with
      | none => rw [hj] at e2'; cases e2'
      | some o =>
        rw [hj] at e2'
        cases o with
        | none => cases e2'
        | some j =>
          have e4 : (match σ[j]? with | some v => v | none => none) = some v := Option.some.inj e2'
          obtain ⟨nx, fr⟩ := S.cap i j x hj e1
          have e5 : σ[j]? = some (some v) := by
            cases q : σ[j]? with
            | none => rw [q] at e4; cases e4
            | some z => rw [q] at e4; rw [show z = some v from e4]
          obtain ⟨m, hn, hl⟩ := I.loc
          have kx : X.env.scope.names.lookup x = some .cell ∨ X.env.scope.names.lookup x = some .free := by rw [hosc]; exact S.free x (PySem.mem_of_lookup fr)
          obtain ⟨u, r, lk⟩ := hl j x v nx e5 (.inr kx)
          refine ⟨u, r, .inr ⟨relabel_lookup_free fr, ?_⟩⟩
          obtain ⟨c, hcl⟩ := c2 x (PySem.mem_of_lookup fr)
          rcases lk with ⟨k, _⟩ | ⟨k, c', e', z⟩
          · have k' : X.env.scope.names.lookup x = some .local := k
            rcases kx with q | q <;> · rw [q] at k'; cases k'
          · have : c' = c := by
              have := c1 x c hcl
              rw [e'] at this; exact Option.some.inj this
            subst this
            obtain ⟨o, ho, hd⟩ := z
            exact ⟨c', hcl, o, old _ _ ho, hd⟩
    · obtain ⟨v, o, ho, hd⟩ := I.cell x c (c1 x c e)
      exact ⟨v, o, old _ _ ho, hd⟩
    · have hp' : p ∈ X.pn ++ pins := by simpa using hp
      obtain ⟨q1, q2, q3, q4, q5⟩ := I.pin p hp'
      exact ⟨old _ _ q1, q2, fun z => absurd (pinlt p hp') (by rw [z]; exact Nat.not_lt.mpr hCle), pinOk p hp', q5⟩
    · show (sel js σ).length = N.length
      unfold sel; rw [List.length_map]; exact S.len
  obtain ⟨hg, ht, he⟩ := hin Y
  obtain ⟨W, ⟨m0, w0⟩, turn⟩ := h Y
  -- acc as a record of ours
  have accF : ∀ {H' : Hp} {pl : List (Addr × Obj)}, H' acc = none → (∀ p ∈ pl, p.1 ≠ acc) → FpOk (cxIn X scope N Y) pl H' acc := fun {H' pl} hn hp => by
    refine ⟨hn, hDC, fun z => absurd (fslt _ z) (Nat.lt_irrefl _), .inr (by show s2.heap.objs.size ≤ acc; rw [hAg]; exact Nat.le_refl _), fun x c e => Nat.ne_of_lt (accC x c (c1 x c e)), fun p hp' => ?_⟩
    rcases List.mem_append.mp hp' with z | z
    · exact Nat.ne_of_lt (pinlt p z)
    · exact hp p z
  have fpF : ∀ {H' : Hp} {pl : List (Addr × Obj)}, (∀ b ∈ fp, H' b = none) → (∀ p ∈ pl, p.1 ∉ fp) → ∀ b ∈ fp, FpOk (cxIn X scope N Y) pl H' b := fun {H' pl} hn hp b hb => by
    refine ⟨hn b hb, (below b (fpl b hb)).1, fun z => ?_, .inl hb, fun x c e => (f2 b hb).2.2.2.2.1 x c (c1 x c e), fun p hp' => ?_⟩
    · rcases List.mem_cons.mp (I.stkSub b z) with q | q
      · exact (f2 b hb).2.1 q
      · exact (f2 b hb).2.2.1 q
    · rcases List.mem_append.mp hp' with z | z
      · exact (f2 b hb).2.2.2.2.2 p z
      · exact fun e => hp p z (by rw [e]; exact hb)
  have anf : acc ∉ fp := fun z => absurd (fpl acc z) (by intro q; rw [hAg] at *; exact Nat.lt_irrefl _ q)
  have capt : ∀ {i : Nat} {x : Str} {v : V}, N[i]? = some x → (sel js σ)[i]? = some (some v) → ∃ u c o, RelV v u ∧ scope.names.lookup x = some .free ∧ cl.lookup x = some c ∧ s2.heap.get? c = some o ∧ o.data = .cell (some u) := fun {i x v} e1 e2 => by
    unfold sel at e2
    rw [List.getElem?_map] at e2
    cases hj : js[i]? with
    | none => rw [hj] at e2; cases e2
    | some o =>
      rw [hj] at e2
      cases o with
      | none => cases e2
      | some j =>
        have e4 : (match σ[j]? with | some v => v | none => none) = some v := Option.some.inj e2
        obtain ⟨nx, fr⟩ := S.cap i j x hj e1
        have e5 : σ[j]? = some (some v) := by
          cases q : σ[j]? with
          | none => rw [q] at e4; cases e4
          | some z => rw [q] at e4; rw [show z = some v from e4]
        obtain ⟨m, hn, hl⟩ := I.loc
        have kx : X.env.scope.names.lookup x = some .cell ∨ X.env.scope.names.lookup x = some .free := by rw [hosc]; exact S.free x (PySem.mem_of_lookup fr)
        obtain ⟨u, r, lk⟩ := hl j x v nx e5 (.inr kx)
        obtain ⟨c, hcl⟩ := c2 x (PySem.mem_of_lookup fr)
        rcases lk with ⟨k, _⟩ | ⟨k, c', e', z⟩
        · have k' : X.env.scope.names.lookup x = some .local := k
          rcases kx with q | q <;> · rw [q] at k'; cases k'
        · have : c' = c := by
            have := c1 x c hcl
            rw [e'] at this; exact Option.some.inj this
          subst this
          obtain ⟨o, ho, hd⟩ := z
          exact ⟨u, c', o, r, fr, hcl, ho, hd⟩
  -- the own names forgotten
  have back : ∀ {pl : List (Addr × Obj)} {σ' : St} {H' : Hp} {s' : Shared}, Inv (cxIn X scope N Y) pl σ' H' s' → Inv (cxIn X scope N Y) pl (sel js σ) H' s' := fun {pl σ' H' s'} K => by
    refine ⟨K.ok, K.os, K.bare, K.base, ?_, K.cell, K.free, K.freeC, K.pin, K.hok, ?_⟩
    · obtain ⟨m, hn, _⟩ := K.loc
      refine ⟨m, hn, fun i x v e1 e2 e3 => ?_⟩
      obtain ⟨u, c, o, r, fr, hcl, ho, hd⟩ := capt e1 e2
      refine ⟨u, r, .inr ⟨relabel_lookup_free fr, c, hcl, ?_⟩⟩
      obtain ⟨sl, q⟩ := K.base.any ho (I.freeC x c (c1 x c hcl)) fun z => (f2 c z).2.2.2.2.1 x c (c1 x c hcl) rfl
      exact ⟨_, q, hd⟩
    · show (sel js σ).length = N.length
      unfold sel; rw [List.length_map]; exact S.len
  have loop : ∀ tk : Nat, codeAny (model X.prog X.w) X.A (.compLoop (.ListComp elt [⟨tg, iter, ifs, 0⟩] scope pos) 0 (.ref it) (.ref acc) (compEnvC scope cl C X.env)) (RR (.ref acc) C) { s2 with heap := h₁, toks := tk } := by
    intro tk
    refine codeAny_compLoop_gen (fun n s' => ∃ (i : Nat) (ys : List V) (its : List Value) (H' : Hp), Inv (cxIn X scope N Y) [] (sel js σ) H' s' ∧ tn i s'.heap ∧ (∀ b ∈ fp, H' b = none) ∧ H' acc = none ∧ s'.heap.PlainList acc its.toArray ∧ Vals ys its ∧ ys.length ≤ sizeLine ∧ W i n ys H') ?_ m0
      ⟨0, [], [], H, I4 tk, T.keep _ _ _ st2 (fun b hb o e => old b o e), fun b hb => (f2 b hb).1, hHacc, hacc, .nil, Nat.zero_le _, w0⟩
    rintro n s3 ⟨i, ys, its, H3, I3, st3, fr3, na3, ⟨nn, ea⟩, rv3, hz3, w3⟩
    have noFp : ∀ p ∈ [(acc, ({ cls := .type "list", data := .seq its.toArray nn } : Obj))], p.1 ∉ fp := fun p hp => by
      have e : p = (acc, ({ cls := .type "list", data := .seq its.toArray nn } : Obj)) := by simpa using hp
      rw [e]; exact anf
    have Ip : Inv (cxIn X scope N Y) [(acc, ({ cls := .type "list", data := .seq its.toArray nn } : Obj))] (sel js σ) H3 s3 := I3.pins_of fun p hp => by
      have e : p = (acc, ({ cls := .type "list", data := .seq its.toArray nn } : Obj)) := by simpa using hp
      subst e
      exact ⟨ea, na3, hDC, fun z => absurd (fslt _ z) (Nat.lt_irrefl _), fun v z => by cases z⟩
    rcases turn i n ys H3 w3 with ⟨stop, p⟩ | ⟨go, hlt, Nx, hNx, step⟩
    · refine wpAny_mono (T.done (cxIn X scope N Y) rfl rfl rfl hc i _ s3 _ H3 (fun _ _ => False) Ip (fpF fr3 noFp) st3 stop) (fun r s4 hr4 => ?_) fun _ _ z => z
      obtain ⟨hr, J4⟩ := hr4
      subst hr
      have pa := (J4.pin (acc, ({ cls := .type "list", data := .seq its.toArray nn } : Obj)) (List.mem_append_right _ List.mem_cons_self)).1
      have u : Un (frs X.stack) fp H (upd H3 acc (.lst ys)) s2.heap s4.heap :=
        ⟨J4.base.keep, J4.base.slot, fun b o e nb hx => by rw [upd_ne (below b (by rw [← hAg]; exact Heap.lt_size e)).2]; exact J4.base.free b o e nb hx, J4.base.there,
          fun b xs e => by rw [upd_ne (ne_of_none e hHacc)]; exact J4.base.tups b xs e, fun b o w' e => by rw [upd_ne (ne_of_none e hHacc)]; exact J4.base.frzs b o w' e, fun b ps e => by rw [upd_ne (ne_of_none e hHacc)]; exact J4.base.tbls b ps e⟩
      have hok : HOk X.prog X.w (upd H3 acc (.lst ys)) s4.heap := fun b o e => by
        by_cases hb : b = acc
        · subst hb
          rw [upd_same] at e
          cases e
          exact ⟨hz3, its, nn, rv3, pa⟩
        · rw [upd_ne hb] at e
          refine (J4.hok b o e).stay (fun _ _ _ q => q) (fun c q => ?_) fun c xs q => ?_
          · rw [upd_ne (ne_of_none q na3)]; exact q
          · rw [upd_ne (ne_of_none q na3)]; exact q
      have Iend : Inv X pins σ (upd H3 acc (.lst ys)) s4 := I.call' (ch := fp) J4.os u hok J4.bare fun b hb => ⟨(f2 b hb).2.2.2.1, (f2 b hb).2.1, (f2 b hb).2.2.2.2.1, (f2 b hb).2.2.2.2.2⟩
      have ns4 : ∃ m, s4.heap.Ns C m := by obtain ⟨m, hn, _⟩ := J4.loc; exact ⟨m, hn⟩
      exact hR acc C ys H3 s4 Iend ns4 (I.fpOk (by rw [hAg]; exact hCle) (by rw [upd_ne (Ne.symm hDC)]; exact J4.free)) na3 p
    · refine wpAny_mono (T.item (cxIn X scope N Y) rfl rfl rfl hc i _ s3 _ H3 (fun _ _ => False) Ip (fpF fr3 noFp) st3 go) (fun r s4 h4 => ?_) fun _ _ z => z
      obtain ⟨u, hr, h4⟩ := h4
      subst hr
      refine wpAny_mono h4 (fun _ s5 h5 => ?_) fun _ _ z => z
      obtain ⟨x, H5, I5, r5, y5, st5, fr5⟩ := h5
      have I5' := I5.pinned (fpF fr5 noFp) (T.obj _ _ st5)
      refine wpAny_mono (hg _ s5 _ H5 x u _ I5' r5 (step x H5 y5)) (fun _ s6 h6 => ?_) fun _ _ z => z
      obtain ⟨σ6, H6, I6, q6⟩ := h6
      refine wpAny_mono (ht _ s6 σ6 H6 _ I6 q6) (fun b s7 h7 => ?_) fun _ _ z => z
      obtain ⟨H7, I7, q7⟩ := h7
      have pinA : ∀ {H8 : Hp} {σ8 : St} {s8 : Shared}, Inv (cxIn X scope N Y) ([(acc, ({ cls := .type "list", data := .seq its.toArray nn } : Obj))] ++ pinsAt fp s5.heap) σ8 H8 s8 →
          s8.heap.get? acc = some ({ cls := .type "list", data := .seq its.toArray nn } : Obj) ∧ H8 acc = none ∧ (∀ b ∈ fp, H8 b = none) ∧ (∀ b ∈ fp, ∀ o, s5.heap.get? b = some o → s8.heap.get? b = some o) := fun {H8 σ8 s8} K => by
        have q := K.pin (acc, ({ cls := .type "list", data := .seq its.toArray nn } : Obj)) (List.mem_append_right _ (List.mem_append_left _ List.mem_cons_self))
        refine ⟨q.1, q.2.1, fun b hb => ?_, fun b hb o e => (K.pin (b, o) (List.mem_append_right _ (List.mem_append_right _ (mem_pinsAt hb e)))).1⟩
        obtain ⟨o, e, d⟩ := T.obj _ _ st5 b hb
        exact (K.pin (b, o) (List.mem_append_right _ (List.mem_append_right _ (mem_pinsAt hb e)))).2.1
      have nopins : ∀ {H8 : Hp} {σ8 : St} {s8 : Shared} {pl : List (Addr × Obj)}, Inv (cxIn X scope N Y) pl σ8 H8 s8 → Inv (cxIn X scope N Y) [] σ8 H8 s8 := fun K => K.pins_of fun p hp => absurd hp (by simp)
      cases b with
      | false =>
        rw [if_neg (by simp)] at q7
        obtain ⟨m', hm, w7⟩ := hNx _ _ q7
        obtain ⟨p1, p2, p3, p4⟩ := pinA I7
        exact ⟨m', hm, i + 1, ys, its, H7, back (nopins I7), T.keep _ _ _ st5 p4, p3, p2, ⟨nn, p1⟩, rv3, hz3, w7⟩
      | true =>
        rw [if_pos rfl] at q7
        refine wpAny_mono (he _ s7 σ6 H7 _ I7 q7) (fun v s8 h8 => ?_) fun _ _ z => z
        obtain ⟨y, H8, I8, r8, q8⟩ := h8
        obtain ⟨m', hm, w8⟩ := hNx _ _ q8
        obtain ⟨p1, p2, p3, p4⟩ := pinA I8
        refine wpAny_list_append_plain (items := its.toArray) ⟨nn, p1⟩ (fun h' pl' sb => ?_) (by rw [List.size_toArray, ← rv3.length]; exact hz3)
        obtain ⟨f0, f1, f2', f3, f4, f5⟩ := accF (H' := H8) (pl := []) p2 (by simp)
        have I9 : Inv (cxIn X scope N Y) [] σ6 H8 { s8 with heap := h' } := (nopins I8).turned (t' := s8.toks) (fun b o hb e => (sb.2 b hb).trans e) f0 f1 f3 f4 f5
        refine ⟨m', hm, i + 1, ys ++ [y], its ++ [v], H8, back I9, T.keep _ _ _ st5 (fun b hb o e => (sb.2 b (fun z => anf (z ▸ hb))).trans (p4 b hb o e)), p3, p2, ?_, rv3.append (.cons r8 .nil), ?_, w8⟩
        · rw [show (its ++ [v]).toArray = its.toArray.push v from by simp]
          exact pl'
        · rw [List.length_append, List.length_singleton]; exact hlt
  exact codeAny_compStart_list (loop _) (T.self _ _ _ _ _ (T.keep _ _ _ st2 (fun b hb o e => old b o e)) (loop _))
theorem closure_of {X : Cx} {pins : List (Addr × Obj)} {σ : St} {H : Hp} {s : Shared} {scope osc : Scope} {N : List Str} {js : List (Option Nat)} (I : Inv X pins σ H s) (S : InScope osc X.N scope N js) (hosc : X.env.scope = osc) :
    ∃ cl : List (Str × Addr), closureFor scope X.env = pure cl ∧ (∀ x c, cl.lookup x = some c → X.env.cells.lookup x = some c) ∧ ∀ x, (x, NameKind.free) ∈ scope.names → ∃ c, cl.lookup x = some c :=
  closure_ex fun x hx => I.ok.has x (by
    have := S.free x hx
    rw [← hosc] at this
    exact this)
theorem pe_lc {X : Cx} {tg iter elt : Expr} {ifs : List Expr} {scope : Scope} {pos : Pos} {wi : TI} {g : InP → TG} {tt : InP → TT} {te : InP → TE} (osc : Scope) (NX N : List Str) (js : List (Option Nat))
    (hc : X.calm = true) (hi : PI X tg iter wi)
    (hin : ∀ Y : InP, PG (cxIn X scope N Y) tg (g Y) ∧ PIfs (cxIn X scope N Y) ifs (tt Y) ∧ PE (cxIn X scope N Y) elt (te Y))
    (hosc : X.env.scope = osc := by rfl) (hNX : X.N = NX := by rfl) (hS : inOk osc NX scope N js = true := by decide +kernel)
    (hs : ∀ x, foldedSetIterable iter X.env x = pure x := by intro _; rfl) : PE X (.ListComp elt [⟨tg, iter, ifs, 0⟩] scope pos) (tLC wi js g tt te) := by
  intro pins s σ H Q I h
  have S : InScope osc X.N scope N js := by rw [hNX]; exact inOk.to hS
  obtain ⟨cl, e1, e2, e3⟩ := closure_of I S hosc
  rw [eval_ListComp]
  refine wpAny_comprehension_free (use := none) rfl hs e1 S.kind S.loc (thn (hi pins s σ H _ I h) fun v s1 h1 => thn h1 fun itv s2 h2 => ?_)
  obtain ⟨it, fp, tn, J, H2, e, I2, T, st2, f2, q⟩ := h2
  subst e
  refine comp_block (RR := fun acc C => compPost (model X.prog X.w) X.A X.xe none (EP X pins σ Q) acc C) I2 hc T st2 f2 hin S hosc e2 e3 q ?_
  intro acc C ys H' s' I' ns fC na p
  obtain ⟨m, hn⟩ := ns
  obtain ⟨f0, f1, f2', f3, f4, f5⟩ := fC
  exact ⟨m, hn, fun h' sb => ⟨.ref acc, _, I'.turned (t' := s'.toks) (fun b o hb e => (sb.2 b hb).trans e) f0 f1 f3 f4 f5, rfl, p acc na⟩⟩
/-- x = [..]: the value is stored ahead of the block's end -/
theorem ps_setLC {X : Cx} {tg iter elt : Expr} {ifs : List Expr} {scope : Scope} {pos pos' pos2 : Pos} {wi : TI} {g : InP → TG} {tt : InP → TT} {te : InP → TE} {x : Str} {i : Nat} (osc : Scope) (NX N : List Str) (js : List (Option Nat))
    (hN : X.N.Nodup) (hx : X.N[i]? = some x) (hl : Loc X.env.scope x)
    (hc : X.calm = true) (hi : PI X tg iter wi)
    (hin : ∀ Y : InP, PG (cxIn X scope N Y) tg (g Y) ∧ PIfs (cxIn X scope N Y) ifs (tt Y) ∧ PE (cxIn X scope N Y) elt (te Y))
    (hosc : X.env.scope = osc := by rfl) (hNX : X.N = NX := by rfl) (hS : inOk osc NX scope N js = true := by decide +kernel)
    (hw : swapsWith (.ListComp elt [⟨tg, iter, ifs, 0⟩] scope pos2) (some (.Name x pos')) pos.line X.env = pure true := by rfl)
    (hf : X.fn x = true ∨ X.env.scope.names.lookup x = some .local := by first | exact .inl rfl | exact .inr rfl | assumption)
    (hs : ∀ x, foldedSetIterable iter X.env x = pure x := by intro _; rfl) :
    PS X (.Assign [.Name x pos'] (.ListComp elt [⟨tg, iter, ifs, 0⟩] scope pos2) pos) (tAsg (tLC wi js g tt te) (gName i)) := by
  intro pins s σ H D I h
  have S : InScope osc X.N scope N js := by rw [hNX]; exact inOk.to hS
  obtain ⟨cl, e1, e2, e3⟩ := closure_of I S hosc
  rw [exec_Assign_Name_used _ _ _ _ hw]
  refine wpAny_bind (wpAny_standAt (wpAny_bind ?_))
  show wpAny _ X.A (do let _ ← comprehension (.ListComp elt [⟨tg, iter, ifs, 0⟩] scope pos2) scope X.env _ (newList []) false (eval iter X.env) (some (assign (.Name x pos') X.env))) _ _ s
  refine wpAny_bind (wpAny_mono (wpAny_comprehension_free (use := some (assign (.Name x pos') X.env)) (Q := fun _ s' => SP X pins D .next s') rfl hs e1 S.kind S.loc
    (thn (hi pins s σ H _ I h) fun v s1 h1 => thn h1 fun itv s2 h2 => ?_)) (fun _ s' hq => wpAny_pure (wpAny_pure hq)) fun _ _ e => e)
  obtain ⟨it, fp, tn, J, H2, e, I2, T, st2, f2, q⟩ := h2
  subst e
  refine comp_block (RR := fun acc C => compPost (model X.prog X.w) X.A X.xe (some (assign (.Name x pos') X.env)) (fun _ s' => SP X pins D .next s') acc C) I2 hc T st2 f2 hin S hosc e2 e3 q ?_
  intro acc C ys H' s' I' ns fC na p
  obtain ⟨m, hn⟩ := ns
  obtain ⟨f0, f1, f2', f3, f4, f5⟩ := fC
  show wpAny _ X.A (assign (.Name x pos') X.env (.ref acc)) _ _ _
  refine wpAny_assign_Name (store_ok2 I' hN hx hl (v := .ref acc) rfl (fun s'' I'' sbx => ?_) hf)
  obtain ⟨a, sb, ha⟩ := sbx
  have aC : C ≠ a := by
    rcases ha with ha | ha
    · rw [ha]; exact f1
    · exact fun z => f4 x a ha z.symm
  refine ⟨m, hn.sameBut sb aC, fun h' sb' => ⟨_, _, I''.turned (t' := s''.toks) (fun b o hb e => (sb'.2 b hb).trans e) f0 f1 f3 f4 f5, ?_⟩⟩
  exact p acc na
/-! ### the forms one uses -/
section
variable {K : PySem.W.Frag} {a : Addr} {xs : List V} {js : List (Option Nat)} {g : InP → TG} {tt : InP → TT} {te : InP → TE} {σ : St} {H : Hp} {P : List V → Hp → Prop}
end
/-! ### for, its turns apart -/
def tForB (J : It) (g : TG) (tb : TS) (D : Ends) (σ : St) (H1 : Hp) : Prop := ∃ W : Nat → Nat → St → Hp → Prop, (∃ m, W 0 m σ H1) ∧ ∀ i m σ H, W i m σ H →
  (J.stop i H ∧ D.nx σ H) ∨ (J.go i H ∧ ∃ N : St → Hp → Prop, (∀ σ' H', N σ' H' → ∃ m', m' < m ∧ W (i + 1) m' σ' H') ∧ ∀ x H', J.yld i H x H' → g x σ H' fun σ2 H2 => tb { D with nx := N, ct := N, bk := D.nx } σ2 H2)
def tForR (wi : TI) (g : TG) (tb : TS) : TS := fun D σ H => wi σ H fun J H1 => tForB J g tb D σ H1
theorem ps_forB {X : Cx} {tg iter : Expr} {body : List Stmt} {wi : TI} {g : TG} {tb : TS} {pos : Pos} (hp : PassesOwn (model X.prog X.w) X.A X.env X.xe) (hc : X.calm = true) (hi : PI X tg iter wi) (hg : PG X tg g) (hb : PSs X body tb)
    (hs : ∀ x, foldedSetIterable iter X.env x = pure x := by intro _; rfl) : PS X (.For tg iter body [] pos) (tForR wi g tb) := ps_for hp hc hi hg hb hs
section
variable {K : PySem.W.Frag} {a : Addr} {xs : List V} {g : TG} {tb : TS} {D : Ends} {σ : St} {H : Hp}
end
end L2
end
section
set_option Elab.async false
set_option linter.all false
set_option maxRecDepth 100000
set_option maxHeartbeats 4000000
namespace L2
open PySem PySem.Spec PyProof.Rows
/-! ### data: values without addresses -/
inductive D where
  | non | bl (b : Bool) | int (i : Int) | str (x : Str) | tup (xs : List D) | lst (xs : List D)
instance : Inhabited D := ⟨.non⟩
mutual
def Rep (K : PySem.W.Frag) (H : Hp) : D → V → Prop
  | .non, v => v = .non
  | .bl b, v => v = .bl b
  | .int i, v => v = .int i
  | .str x, v => v = .str x
  | .tup ds, v => ∃ a xs, v = .ref a ∧ SqT K H a xs ∧ Reps K H ds xs
  | .lst ds, v => ∃ a xs, v = .ref a ∧ SqL K H a xs ∧ Reps K H ds xs
def Reps (K : PySem.W.Frag) (H : Hp) : List D → List V → Prop
  | [], xs => xs = []
  | d :: ds, xs => ∃ x r, xs = x :: r ∧ Rep K H d x ∧ Reps K H ds r
end
mutual
def eqD : D → D → Bool
  | .non, .non => true
  | .bl a, .bl b => a == b
  | .bl a, .int b => (if a then 1 else 0) == b
  | .int a, .bl b => a == (if b then 1 else 0)
  | .int a, .int b => a == b
  | .str a, .str b => a == b
  | .tup xs, .tup ys => eqDs xs ys
  | .lst xs, .lst ys => eqDs xs ys
  | _, _ => false
def eqDs : List D → List D → Bool
  | [], [] => true
  | x :: xs, y :: ys => eqD x y && eqDs xs ys
  | _, _ => false
end
mutual
def depD : D → Nat
  | .tup xs => depDs xs + 1
  | .lst xs => depDs xs + 1
  | _ => 0
def depDs : List D → Nat
  | [] => 0
  | x :: xs => max (depD x) (depDs xs)
end
theorem Reps.length {K : PySem.W.Frag} {H : Hp} : ∀ {ds : List D} {xs : List V}, Reps K H ds xs → ds.length = xs.length
  | [], _, h => by unfold Reps at h; subst h; rfl
  | d :: ds, _, h => by
    unfold Reps at h
    obtain ⟨x, r, rfl, _, q⟩ := h
    rw [List.length_cons, List.length_cons, Reps.length q]
theorem Reps.get {K : PySem.W.Frag} {H : Hp} : ∀ {ds : List D} {xs : List V} {i : Nat} {d : D} {x : V}, Reps K H ds xs → ds[i]? = some d → xs[i]? = some x → Rep K H d x
  | [], _, _, _, _, _, e, _ => by simp at e
  | d :: ds, _, i, d', x', h, e1, e2 => by
    unfold Reps at h
    obtain ⟨x, r, rfl, p, q⟩ := h
    cases i with
    | zero => simp at e1 e2; subst e1 e2; exact p
    | succ i => exact Reps.get q (by simpa using e1) (by simpa using e2)
theorem depDs_get : ∀ {ds : List D} {i : Nat} {d : D}, ds[i]? = some d → depD d ≤ depDs ds
  | [], _, _, e => by simp at e
  | d :: ds, i, d', e => by
    unfold depDs
    cases i with
    | zero => simp at e; subst e; exact Nat.le_max_left _ _
    | succ i => exact Nat.le_trans (depDs_get (ds := ds) (by simpa using e)) (Nat.le_max_right _ _)
/-- the items' answers -/
def eqAtI (xs ys : List D) (j : Nat) : Bool := match xs[j]?, ys[j]? with
  | some a, some b => eqD a b
  | _, _ => true
theorem eqDs_all : ∀ (xs ys : List D), ((List.range (min xs.length ys.length)).all (eqAtI xs ys) && xs.length == ys.length) = eqDs xs ys
  | [], [] => by simp [eqDs]
  | [], _ :: _ => by simp [eqDs]
  | _ :: _, [] => by simp [eqDs]
  | x :: xs, y :: ys => by
    have ih := eqDs_all xs ys
    unfold eqDs
    rw [← ih, List.length_cons, List.length_cons, Nat.add_min_add_right, List.range_succ_eq_map, List.all_cons, List.all_map]
    have e0 : eqAtI (x :: xs) (y :: ys) 0 = eqD x y := rfl
    have e1 : (eqAtI (x :: xs) (y :: ys) ∘ Nat.succ) = eqAtI xs ys := by funext j; simp [eqAtI, Function.comp]
    rw [e0, e1, Bool.and_assoc]
    congr 1
    congr 1
    rw [Bool.eq_iff_iff]; simp
theorem eqDs_len {xs ys : List D} (h : xs.length ≠ ys.length) : eqDs xs ys = false := by
  rw [← eqDs_all, show (xs.length == ys.length) = false from by simpa using h, Bool.and_false]
mutual
theorem eqD_refl : ∀ d : D, eqD d d = true
  | .non => rfl
  | .bl b => by unfold eqD; simp
  | .int b => by unfold eqD; simp
  | .str b => by unfold eqD; simp
  | .tup xs => by unfold eqD; exact eqDs_refl xs
  | .lst xs => by unfold eqD; exact eqDs_refl xs
theorem eqDs_refl : ∀ ds : List D, eqDs ds ds = true
  | [] => rfl
  | d :: ds => by unfold eqDs; rw [eqD_refl d, eqDs_refl ds]; rfl
end
section
variable {X : Cx} {pins : List (Addr × Obj)} {σ : St} {H : Hp} {s : Shared}
theorem SqLT {a : Addr} {xs ys : List V} (I : Inv X pins σ H s) (h : SqL X.K H a xs) (h' : SqT X.K H a ys) : False := by
  obtain ⟨its, _, p, _⟩ := I.list h
  obtain ⟨its', _, q, _⟩ := I.tuple h'
  exact absurd rfl (SeqAt.ne_of_list_tuple p.isList q)
theorem rep_uniq (I : Inv X pins σ H s) : ∀ n d1 d2 x, depD d1 ≤ n → Rep X.K H d1 x → Rep X.K H d2 x → eqD d1 d2 = true := by
  have lists : ∀ n, (∀ d1 d2 x, depD d1 ≤ n → Rep X.K H d1 x → Rep X.K H d2 x → eqD d1 d2 = true) → ∀ (ds es : List D) (xs : List V), depDs ds ≤ n → Reps X.K H ds xs → Reps X.K H es xs → eqDs ds es = true := by
    intro n ih ds
    induction ds with
    | nil =>
      intro es xs _ h1 h2
      unfold Reps at h1
      subst h1
      cases es with
      | nil => rfl
      | cons e es => unfold Reps at h2; obtain ⟨x, r, e', _⟩ := h2; cases e'
    | cons d ds ihd =>
      intro es xs hd h1 h2
      unfold Reps at h1
      obtain ⟨x, r, rfl, p, q⟩ := h1
      cases es with
      | nil => unfold Reps at h2; cases h2
      | cons e es =>
        unfold Reps at h2
        obtain ⟨x', r', e', p', q'⟩ := h2
        cases e'
        unfold depDs at hd
        unfold eqDs
        rw [ih d e x (Nat.le_trans (Nat.le_max_left _ _) hd) p p', ihd es r (Nat.le_trans (Nat.le_max_right _ _) hd) q q']
        rfl
  intro n
  induction n with
  | zero =>
    intro d1 d2 x hd h1 h2
    have fl : ∀ d, Rep X.K H d x → (∃ a, x = .ref a) ∨ (d = .non ∧ x = .non) ∨ (∃ b, d = .bl b ∧ x = .bl b) ∨ (∃ b, d = .int b ∧ x = .int b) ∨ ∃ b, d = .str b ∧ x = .str b := fun d h => by
      cases d with
      | non => unfold Rep at h; exact .inr (.inl ⟨rfl, h⟩)
      | bl b => unfold Rep at h; exact .inr (.inr (.inl ⟨b, rfl, h⟩))
      | int b => unfold Rep at h; exact .inr (.inr (.inr (.inl ⟨b, rfl, h⟩)))
      | str b => unfold Rep at h; exact .inr (.inr (.inr (.inr ⟨b, rfl, h⟩)))
      | tup ds => unfold Rep at h; obtain ⟨a, _, e, _⟩ := h; exact .inl ⟨a, e⟩
      | lst ds => unfold Rep at h; obtain ⟨a, _, e, _⟩ := h; exact .inl ⟨a, e⟩
    have nr : ¬ ∃ a, x = .ref a := fun ⟨a, e⟩ => by
      subst e
      cases d1 with
      | tup ds => unfold depD at hd; omega
      | lst ds => unfold depD at hd; omega
      | _ => unfold Rep at h1; cases h1
    have f1 := fl d1 h1
    have f2 := fl d2 h2
    rcases f1 with f1 | ⟨rfl, rfl⟩ | ⟨b, rfl, rfl⟩ | ⟨b, rfl, rfl⟩ | ⟨b, rfl, rfl⟩
    · exact absurd f1 nr
    all_goals
      rcases f2 with f2 | ⟨rfl, f2⟩ | ⟨c, rfl, f2⟩ | ⟨c, rfl, f2⟩ | ⟨c, rfl, f2⟩
      · exact absurd f2 nr
      all_goals first | (cases f2; exact eqD_refl _) | cases f2
  | succ n ih =>
    intro d1 d2 x hd h1 h2
    cases d1 with
    | tup ds =>
      unfold Rep at h1
      obtain ⟨a, xs, rfl, hs, hr⟩ := h1
      cases d2 with
      | tup es =>
        unfold Rep at h2
        obtain ⟨a', xs', e, hs', hr'⟩ := h2
        cases e
        have := I.tuple_inj hs hs'
        subst this
        unfold eqD
        exact lists n ih ds es xs (by unfold depD at hd; omega) hr hr'
      | lst es =>
        unfold Rep at h2
        obtain ⟨a', xs', e, hs', hr'⟩ := h2
        cases e
        exact (SqLT I hs' hs).elim
      | _ => unfold Rep at h2; cases h2
    | lst ds =>
      unfold Rep at h1
      obtain ⟨a, xs, rfl, hs, hr⟩ := h1
      cases d2 with
      | lst es =>
        unfold Rep at h2
        obtain ⟨a', xs', e, hs', hr'⟩ := h2
        cases e
        have := I.list_inj hs hs'
        subst this
        unfold eqD
        exact lists n ih ds es xs (by unfold depD at hd; omega) hr hr'
      | tup es =>
        unfold Rep at h2
        obtain ⟨a', xs', e, hs', hr'⟩ := h2
        cases e
        exact (SqLT I hs hs').elim
      | _ => unfold Rep at h2; cases h2
    | _ => exact ih _ d2 x (by unfold depD; exact Nat.zero_le _) h1 h2
theorem eqAt_D (I : Inv X pins σ H s) : ∀ (n : Nat) (d1 d2 : D) (x y : V) (u v : Value) (A : Around), depD d1 ≤ n → A.units + n < cLine → Rep X.K H d1 x → Rep X.K H d2 y → RelV x u → RelV y v → SeqAt.EqAt A s u v (eqD d1 d2) := by
  intro n
  induction n with
  | zero =>
    intro d1 d2 x y u v A hd hu h1 h2 r1 r2
    have hu' : A.units < cLine := by omega
    cases d1 with
    | non =>
      unfold Rep at h1; subst h1; cases r1
      cases d2 with
      | non =>
        unfold Rep at h2; subst h2; cases r2
        exact SeqAt.EqAt.same _
      | bl b2 =>
        unfold Rep at h2; subst h2; cases r2
        exact SeqAt.EqAt.none_bool b2
      | int b2 =>
        unfold Rep at h2; subst h2; obtain ⟨t2, rfl⟩ := r2
        exact SeqAt.EqAt.none_int b2 t2
      | str b2 =>
        unfold Rep at h2; subst h2; obtain ⟨t2, rfl⟩ := r2
        exact SeqAt.EqAt.none_str b2 t2
      | tup b2 =>
        unfold Rep at h2; obtain ⟨a2, xs2, rfl, hs2, hr2⟩ := h2; cases r2; obtain ⟨its2, rv2, p2, hz2⟩ := I.tuple hs2
        exact SeqAt.EqAt.none_tuple p2 hu'
      | lst b2 =>
        unfold Rep at h2; obtain ⟨a2, xs2, rfl, hs2, hr2⟩ := h2; cases r2; obtain ⟨its2, rv2, p2, hz2⟩ := I.list hs2
        exact SeqAt.EqAt.none_list p2.isList hu'
    | bl b1 =>
      unfold Rep at h1; subst h1; cases r1
      cases d2 with
      | non =>
        unfold Rep at h2; subst h2; cases r2
        exact SeqAt.EqAt.bool_none b1
      | bl b2 =>
        unfold Rep at h2; subst h2; cases r2
        exact SeqAt.EqAt.bool_bool b1 b2
      | int b2 =>
        unfold Rep at h2; subst h2; obtain ⟨t2, rfl⟩ := r2
        exact SeqAt.EqAt.bool_int b1 b2 t2
      | str b2 =>
        unfold Rep at h2; subst h2; obtain ⟨t2, rfl⟩ := r2
        exact SeqAt.EqAt.bool_str b1 b2 t2
      | tup b2 =>
        unfold Rep at h2; obtain ⟨a2, xs2, rfl, hs2, hr2⟩ := h2; cases r2; obtain ⟨its2, rv2, p2, hz2⟩ := I.tuple hs2
        exact SeqAt.EqAt.bool_tuple b1 p2 hu'
      | lst b2 =>
        unfold Rep at h2; obtain ⟨a2, xs2, rfl, hs2, hr2⟩ := h2; cases r2; obtain ⟨its2, rv2, p2, hz2⟩ := I.list hs2
        exact SeqAt.EqAt.bool_list b1 p2.isList hu'
    | int b1 =>
      unfold Rep at h1; subst h1; obtain ⟨t1, rfl⟩ := r1
      cases d2 with
      | non =>
        unfold Rep at h2; subst h2; cases r2
        exact SeqAt.EqAt.int_none b1 t1
      | bl b2 =>
        unfold Rep at h2; subst h2; cases r2
        exact SeqAt.EqAt.int_bool b1 t1 b2
      | int b2 =>
        unfold Rep at h2; subst h2; obtain ⟨t2, rfl⟩ := r2
        exact SeqAt.EqAt.int_int b1 t1 b2 t2
      | str b2 =>
        unfold Rep at h2; subst h2; obtain ⟨t2, rfl⟩ := r2
        exact SeqAt.EqAt.int_str b1 t1 b2 t2
      | tup b2 =>
        unfold Rep at h2; obtain ⟨a2, xs2, rfl, hs2, hr2⟩ := h2; cases r2; obtain ⟨its2, rv2, p2, hz2⟩ := I.tuple hs2
        exact SeqAt.EqAt.int_tuple b1 t1 p2 hu'
      | lst b2 =>
        unfold Rep at h2; obtain ⟨a2, xs2, rfl, hs2, hr2⟩ := h2; cases r2; obtain ⟨its2, rv2, p2, hz2⟩ := I.list hs2
        exact SeqAt.EqAt.int_list b1 t1 p2.isList hu'
    | str b1 =>
      unfold Rep at h1; subst h1; obtain ⟨t1, rfl⟩ := r1
      cases d2 with
      | non =>
        unfold Rep at h2; subst h2; cases r2
        exact SeqAt.EqAt.str_none b1 t1
      | bl b2 =>
        unfold Rep at h2; subst h2; cases r2
        exact SeqAt.EqAt.str_bool b1 t1 b2
      | int b2 =>
        unfold Rep at h2; subst h2; obtain ⟨t2, rfl⟩ := r2
        exact SeqAt.EqAt.str_int b1 t1 b2 t2
      | str b2 =>
        unfold Rep at h2; subst h2; obtain ⟨t2, rfl⟩ := r2
        exact SeqAt.EqAt.str_str b1 t1 b2 t2
      | tup b2 =>
        unfold Rep at h2; obtain ⟨a2, xs2, rfl, hs2, hr2⟩ := h2; cases r2; obtain ⟨its2, rv2, p2, hz2⟩ := I.tuple hs2
        exact SeqAt.EqAt.str_tuple b1 t1 p2 hu'
      | lst b2 =>
        unfold Rep at h2; obtain ⟨a2, xs2, rfl, hs2, hr2⟩ := h2; cases r2; obtain ⟨its2, rv2, p2, hz2⟩ := I.list hs2
        exact SeqAt.EqAt.str_list b1 t1 p2.isList hu'
    | tup ds => unfold depD at hd; omega
    | lst ds => unfold depD at hd; omega
  | succ n ih =>
    intro d1 d2 x y u v A hd hu h1 h2 r1 r2
    have hu' : A.units < cLine := by omega
    cases d1 with
    | tup ds =>
      unfold Rep at h1; obtain ⟨a1, xs1, rfl, hs1, hr1⟩ := h1; cases r1; obtain ⟨its1, rv1, p1, hz1⟩ := I.tuple hs1
      cases d2 with
      | non =>
        unfold Rep at h2; subst h2; cases r2
        exact SeqAt.EqAt.tuple_none p1 hu'
      | bl b2 =>
        unfold Rep at h2; subst h2; cases r2
        exact SeqAt.EqAt.tuple_bool b2 p1 hu'
      | int b2 =>
        unfold Rep at h2; subst h2; obtain ⟨t2, rfl⟩ := r2
        exact SeqAt.EqAt.tuple_int b2 t2 p1 hu'
      | str b2 =>
        unfold Rep at h2; subst h2; obtain ⟨t2, rfl⟩ := r2
        exact SeqAt.EqAt.tuple_str b2 t2 p1 hu'
      | tup es =>
        unfold Rep at h2; obtain ⟨a2, xs2, rfl, hs2, hr2⟩ := h2; cases r2; obtain ⟨its2, rv2, p2, hz2⟩ := I.tuple hs2
        by_cases hab : a1 = a2
        · subst hab
          rw [rep_uniq I (n + 1) (.tup ds) (.tup es) (.ref a1) hd (by unfold Rep; exact ⟨a1, xs1, rfl, hs1, hr1⟩) (by unfold Rep; exact ⟨a1, xs2, rfl, hs2, hr2⟩)]
          exact SeqAt.EqAt.same _
        · refine SeqAt.EqAt.of_refs hab ?_
          have l1 : its1.toArray.size = ds.length := by rw [List.size_toArray, ← rv1.length, hr1.length]
          have l2 : its2.toArray.size = es.length := by rw [List.size_toArray, ← rv2.length, hr2.length]
          have k1 : xs1.length = ds.length := hr1.length.symm
          have k2 : xs2.length = es.length := hr2.length.symm
          have he : ∀ j (h1 : j < its1.toArray.size) (h2 : j < its2.toArray.size), SeqAt.EqAt A.in1 s its1.toArray[j] its2.toArray[j] (eqAtI ds es j) := fun j g1 g2 => by
            have q1 : ds[j]? = some ds[j] := List.getElem?_eq_getElem (by omega)
            have q2 : es[j]? = some es[j] := List.getElem?_eq_getElem (by omega)
            have e1 : xs1[j]? = some xs1[j] := List.getElem?_eq_getElem (by omega)
            have e2 : xs2[j]? = some xs2[j] := List.getElem?_eq_getElem (by omega)
            obtain ⟨u1, z1, w1⟩ := rv1.get e1
            obtain ⟨u2, z2, w2⟩ := rv2.get e2
            have y1 : its1.toArray[j] = u1 := by
              have := List.getElem?_eq_some_iff.mp z1
              obtain ⟨_, q⟩ := this
              simpa using q
            have y2 : its2.toArray[j] = u2 := by
              have := List.getElem?_eq_some_iff.mp z2
              obtain ⟨_, q⟩ := this
              simpa using q
            rw [y1, y2]
            have : eqAtI ds es j = eqD ds[j] es[j] := by unfold eqAtI; rw [q1, q2]
            rw [this]
            refine ih ds[j] es[j] xs1[j] xs2[j] u1 u2 A.in1 ?_ (by show A.units + 1 + n < cLine; omega) (hr1.get q1 e1) (hr2.get q2 e2) w1 w2
            have := depDs_get q1
            unfold depD at hd
            omega
          have q := SeqAt.RcAt.tuples (A := A) p1 p2 hu' he
          rw [l1, l2, eqDs_all] at q
          unfold eqD
          exact q
      | lst es =>
        unfold Rep at h2; obtain ⟨a2, xs2, rfl, hs2, hr2⟩ := h2; cases r2; obtain ⟨its2, rv2, p2, hz2⟩ := I.list hs2
        exact SeqAt.EqAt.tuple_list p1 p2.isList hu'
    | lst ds =>
      unfold Rep at h1; obtain ⟨a1, xs1, rfl, hs1, hr1⟩ := h1; cases r1; obtain ⟨its1, rv1, p1, hz1⟩ := I.list hs1
      cases d2 with
      | non =>
        unfold Rep at h2; subst h2; cases r2
        exact SeqAt.EqAt.list_none p1.isList hu'
      | bl b2 =>
        unfold Rep at h2; subst h2; cases r2
        exact SeqAt.EqAt.list_bool b2 p1.isList hu'
      | int b2 =>
        unfold Rep at h2; subst h2; obtain ⟨t2, rfl⟩ := r2
        exact SeqAt.EqAt.list_int b2 t2 p1.isList hu'
      | str b2 =>
        unfold Rep at h2; subst h2; obtain ⟨t2, rfl⟩ := r2
        exact SeqAt.EqAt.list_str b2 t2 p1.isList hu'
      | tup es =>
        unfold Rep at h2; obtain ⟨a2, xs2, rfl, hs2, hr2⟩ := h2; cases r2; obtain ⟨its2, rv2, p2, hz2⟩ := I.tuple hs2
        exact SeqAt.EqAt.list_tuple p1.isList p2 hu'
      | lst es =>
        unfold Rep at h2; obtain ⟨a2, xs2, rfl, hs2, hr2⟩ := h2; cases r2; obtain ⟨its2, rv2, p2, hz2⟩ := I.list hs2
        by_cases hab : a1 = a2
        · subst hab
          rw [rep_uniq I (n + 1) (.lst ds) (.lst es) (.ref a1) hd (by unfold Rep; exact ⟨a1, xs1, rfl, hs1, hr1⟩) (by unfold Rep; exact ⟨a1, xs2, rfl, hs2, hr2⟩)]
          exact SeqAt.EqAt.same _
        · refine SeqAt.EqAt.of_refs hab ?_
          have l1 : its1.toArray.size = ds.length := by rw [List.size_toArray, ← rv1.length, hr1.length]
          have l2 : its2.toArray.size = es.length := by rw [List.size_toArray, ← rv2.length, hr2.length]
          have k1 : xs1.length = ds.length := hr1.length.symm
          have k2 : xs2.length = es.length := hr2.length.symm
          have he : ∀ j (h1 : j < its1.toArray.size) (h2 : j < its2.toArray.size), SeqAt.EqAt A.in1 s its1.toArray[j] its2.toArray[j] (eqAtI ds es j) := fun j g1 g2 => by
            have q1 : ds[j]? = some ds[j] := List.getElem?_eq_getElem (by omega)
            have q2 : es[j]? = some es[j] := List.getElem?_eq_getElem (by omega)
            have e1 : xs1[j]? = some xs1[j] := List.getElem?_eq_getElem (by omega)
            have e2 : xs2[j]? = some xs2[j] := List.getElem?_eq_getElem (by omega)
            obtain ⟨u1, z1, w1⟩ := rv1.get e1
            obtain ⟨u2, z2, w2⟩ := rv2.get e2
            have y1 : its1.toArray[j] = u1 := by
              have := List.getElem?_eq_some_iff.mp z1
              obtain ⟨_, q⟩ := this
              simpa using q
            have y2 : its2.toArray[j] = u2 := by
              have := List.getElem?_eq_some_iff.mp z2
              obtain ⟨_, q⟩ := this
              simpa using q
            rw [y1, y2]
            have : eqAtI ds es j = eqD ds[j] es[j] := by unfold eqAtI; rw [q1, q2]
            rw [this]
            refine ih ds[j] es[j] xs1[j] xs2[j] u1 u2 A.in1 ?_ (by show A.units + 1 + n < cLine; omega) (hr1.get q1 e1) (hr2.get q2 e2) w1 w2
            have := depDs_get q1
            unfold depD at hd
            omega
          unfold eqD
          by_cases hl : ds.length = es.length
          · have q := SeqAt.RcAt.lists (A := A) p1.isList p2.isList (by rw [l1, l2, hl]) hu' he
            rw [l1] at q
            have z := eqDs_all ds es
            rw [hl, Nat.min_self, beq_self_eq_true, Bool.and_true] at z
            rw [hl, z] at q
            exact q
          · rw [eqDs_len hl]
            exact SeqAt.RcAt.lists_lengths (A := A) p1.isList p2.isList (by rw [l1, l2]; simpa using hl) hu'
    | non => exact ih _ d2 x y u v A (by unfold depD; exact Nat.zero_le _) (by omega) h1 h2 r1 r2
    | bl b1 => exact ih _ d2 x y u v A (by unfold depD; exact Nat.zero_le _) (by omega) h1 h2 r1 r2
    | int b1 => exact ih _ d2 x y u v A (by unfold depD; exact Nat.zero_le _) (by omega) h1 h2 r1 r2
    | str b1 => exact ih _ d2 x y u v A (by unfold depD; exact Nat.zero_le _) (by omega) h1 h2 r1 r2
theorem rcat_D (I : Inv X pins σ H s) (n : Nat) (d1 d2 : D) (x y : V) (u v : Value) (A : Around) (hd : depD d1 ≤ n) (hu : A.units + n < cLine) (h1 : Rep X.K H d1 x) (h2 : Rep X.K H d2 y) (r1 : RelV x u) (r2 : RelV y v) : SeqAt.RcAt A s u v (eqD d1 d2) := by
    have hu' : A.units < cLine := by omega
    cases d1 with
    | non =>
      unfold Rep at h1; subst h1; cases r1
      cases d2 with
      | non =>
        unfold Rep at h2; subst h2; cases r2
        exact SeqAt.RcAt.none_none
      | bl b2 =>
        unfold Rep at h2; subst h2; cases r2
        exact SeqAt.RcAt.none_bool b2
      | int b2 =>
        unfold Rep at h2; subst h2; obtain ⟨t2, rfl⟩ := r2
        exact SeqAt.RcAt.none_int b2 t2
      | str b2 =>
        unfold Rep at h2; subst h2; obtain ⟨t2, rfl⟩ := r2
        exact SeqAt.RcAt.none_str b2 t2
      | tup es =>
        unfold Rep at h2; obtain ⟨a2, xs2, rfl, hs2, hr2⟩ := h2; cases r2; obtain ⟨its2, rv2, p2, hz2⟩ := I.tuple hs2
        exact SeqAt.RcAt.none_tuple p2 hu'
      | lst es =>
        unfold Rep at h2; obtain ⟨a2, xs2, rfl, hs2, hr2⟩ := h2; cases r2; obtain ⟨its2, rv2, p2, hz2⟩ := I.list hs2
        exact SeqAt.RcAt.none_list p2.isList hu'
    | bl b1 =>
      unfold Rep at h1; subst h1; cases r1
      cases d2 with
      | non =>
        unfold Rep at h2; subst h2; cases r2
        exact SeqAt.RcAt.bool_none b1
      | bl b2 =>
        unfold Rep at h2; subst h2; cases r2
        exact SeqAt.RcAt.bool_bool b1 b2
      | int b2 =>
        unfold Rep at h2; subst h2; obtain ⟨t2, rfl⟩ := r2
        exact SeqAt.RcAt.bool_int b1 b2 t2
      | str b2 =>
        unfold Rep at h2; subst h2; obtain ⟨t2, rfl⟩ := r2
        exact SeqAt.RcAt.bool_str b1 b2 t2
      | tup es =>
        unfold Rep at h2; obtain ⟨a2, xs2, rfl, hs2, hr2⟩ := h2; cases r2; obtain ⟨its2, rv2, p2, hz2⟩ := I.tuple hs2
        exact SeqAt.RcAt.bool_tuple b1 p2 hu'
      | lst es =>
        unfold Rep at h2; obtain ⟨a2, xs2, rfl, hs2, hr2⟩ := h2; cases r2; obtain ⟨its2, rv2, p2, hz2⟩ := I.list hs2
        exact SeqAt.RcAt.bool_list b1 p2.isList hu'
    | int b1 =>
      unfold Rep at h1; subst h1; obtain ⟨t1, rfl⟩ := r1
      cases d2 with
      | non =>
        unfold Rep at h2; subst h2; cases r2
        exact SeqAt.RcAt.int_none b1 t1
      | bl b2 =>
        unfold Rep at h2; subst h2; cases r2
        exact SeqAt.RcAt.int_bool b1 t1 b2
      | int b2 =>
        unfold Rep at h2; subst h2; obtain ⟨t2, rfl⟩ := r2
        exact SeqAt.RcAt.int_int b1 t1 b2 t2
      | str b2 =>
        unfold Rep at h2; subst h2; obtain ⟨t2, rfl⟩ := r2
        exact SeqAt.RcAt.int_str b1 t1 b2 t2
      | tup es =>
        unfold Rep at h2; obtain ⟨a2, xs2, rfl, hs2, hr2⟩ := h2; cases r2; obtain ⟨its2, rv2, p2, hz2⟩ := I.tuple hs2
        exact SeqAt.RcAt.int_tuple b1 t1 p2 hu'
      | lst es =>
        unfold Rep at h2; obtain ⟨a2, xs2, rfl, hs2, hr2⟩ := h2; cases r2; obtain ⟨its2, rv2, p2, hz2⟩ := I.list hs2
        exact SeqAt.RcAt.int_list b1 t1 p2.isList hu'
    | str b1 =>
      unfold Rep at h1; subst h1; obtain ⟨t1, rfl⟩ := r1
      cases d2 with
      | non =>
        unfold Rep at h2; subst h2; cases r2
        exact SeqAt.RcAt.str_none b1 t1
      | bl b2 =>
        unfold Rep at h2; subst h2; cases r2
        exact SeqAt.RcAt.str_bool b1 t1 b2
      | int b2 =>
        unfold Rep at h2; subst h2; obtain ⟨t2, rfl⟩ := r2
        exact SeqAt.RcAt.str_int b1 t1 b2 t2
      | str b2 =>
        unfold Rep at h2; subst h2; obtain ⟨t2, rfl⟩ := r2
        exact SeqAt.RcAt.str_str b1 t1 b2 t2
      | tup es =>
        unfold Rep at h2; obtain ⟨a2, xs2, rfl, hs2, hr2⟩ := h2; cases r2; obtain ⟨its2, rv2, p2, hz2⟩ := I.tuple hs2
        exact SeqAt.RcAt.str_tuple b1 t1 p2 hu'
      | lst es =>
        unfold Rep at h2; obtain ⟨a2, xs2, rfl, hs2, hr2⟩ := h2; cases r2; obtain ⟨its2, rv2, p2, hz2⟩ := I.list hs2
        exact SeqAt.RcAt.str_list b1 t1 p2.isList hu'
    | tup ds =>
      unfold Rep at h1; obtain ⟨a1, xs1, rfl, hs1, hr1⟩ := h1; cases r1; obtain ⟨its1, rv1, p1, hz1⟩ := I.tuple hs1
      cases d2 with
      | non =>
        unfold Rep at h2; subst h2; cases r2
        exact SeqAt.RcAt.tuple_none p1 hu'
      | bl b2 =>
        unfold Rep at h2; subst h2; cases r2
        exact SeqAt.RcAt.tuple_bool b2 p1 hu'
      | int b2 =>
        unfold Rep at h2; subst h2; obtain ⟨t2, rfl⟩ := r2
        exact SeqAt.RcAt.tuple_int b2 t2 p1 hu'
      | str b2 =>
        unfold Rep at h2; subst h2; obtain ⟨t2, rfl⟩ := r2
        exact SeqAt.RcAt.tuple_str b2 t2 p1 hu'
      | tup es =>
        unfold Rep at h2; obtain ⟨a2, xs2, rfl, hs2, hr2⟩ := h2; cases r2; obtain ⟨its2, rv2, p2, hz2⟩ := I.tuple hs2
        have l1 : its1.toArray.size = ds.length := by rw [List.size_toArray, ← rv1.length, hr1.length]
        have l2 : its2.toArray.size = es.length := by rw [List.size_toArray, ← rv2.length, hr2.length]
        have k1 : xs1.length = ds.length := hr1.length.symm
        have k2 : xs2.length = es.length := hr2.length.symm
        have he : ∀ j (h1 : j < its1.toArray.size) (h2 : j < its2.toArray.size), SeqAt.EqAt A.in1 s its1.toArray[j] its2.toArray[j] (eqAtI ds es j) := fun j g1 g2 => by
          have q1 : ds[j]? = some ds[j] := List.getElem?_eq_getElem (by omega)
          have q2 : es[j]? = some es[j] := List.getElem?_eq_getElem (by omega)
          have e1 : xs1[j]? = some xs1[j] := List.getElem?_eq_getElem (by omega)
          have e2 : xs2[j]? = some xs2[j] := List.getElem?_eq_getElem (by omega)
          obtain ⟨u1, z1, w1⟩ := rv1.get e1
          obtain ⟨u2, z2, w2⟩ := rv2.get e2
          have y1 : its1.toArray[j] = u1 := by
            obtain ⟨_, q⟩ := List.getElem?_eq_some_iff.mp z1
            simpa using q
          have y2 : its2.toArray[j] = u2 := by
            obtain ⟨_, q⟩ := List.getElem?_eq_some_iff.mp z2
            simpa using q
          rw [y1, y2]
          have : eqAtI ds es j = eqD ds[j] es[j] := by unfold eqAtI; rw [q1, q2]
          rw [this]
          have dl := depDs_get q1
          unfold depD at hd
          exact eqAt_D I (n - 1) ds[j] es[j] xs1[j] xs2[j] u1 u2 A.in1 (by omega) (by show A.units + 1 + (n - 1) < cLine; omega) (hr1.get q1 e1) (hr2.get q2 e2) w1 w2
        have q := SeqAt.RcAt.tuples (A := A) p1 p2 hu' he
        rw [l1, l2, eqDs_all] at q
        unfold eqD
        exact q
      | lst es =>
        unfold Rep at h2; obtain ⟨a2, xs2, rfl, hs2, hr2⟩ := h2; cases r2; obtain ⟨its2, rv2, p2, hz2⟩ := I.list hs2
        exact SeqAt.RcAt.tuple_list p1 p2.isList hu'
    | lst ds =>
      unfold Rep at h1; obtain ⟨a1, xs1, rfl, hs1, hr1⟩ := h1; cases r1; obtain ⟨its1, rv1, p1, hz1⟩ := I.list hs1
      cases d2 with
      | non =>
        unfold Rep at h2; subst h2; cases r2
        exact SeqAt.RcAt.list_none p1.isList hu'
      | bl b2 =>
        unfold Rep at h2; subst h2; cases r2
        exact SeqAt.RcAt.list_bool b2 p1.isList hu'
      | int b2 =>
        unfold Rep at h2; subst h2; obtain ⟨t2, rfl⟩ := r2
        exact SeqAt.RcAt.list_int b2 t2 p1.isList hu'
      | str b2 =>
        unfold Rep at h2; subst h2; obtain ⟨t2, rfl⟩ := r2
        exact SeqAt.RcAt.list_str b2 t2 p1.isList hu'
      | tup es =>
        unfold Rep at h2; obtain ⟨a2, xs2, rfl, hs2, hr2⟩ := h2; cases r2; obtain ⟨its2, rv2, p2, hz2⟩ := I.tuple hs2
        exact SeqAt.RcAt.list_tuple p1.isList p2 hu'
      | lst es =>
        unfold Rep at h2; obtain ⟨a2, xs2, rfl, hs2, hr2⟩ := h2; cases r2; obtain ⟨its2, rv2, p2, hz2⟩ := I.list hs2
        have l1 : its1.toArray.size = ds.length := by rw [List.size_toArray, ← rv1.length, hr1.length]
        have l2 : its2.toArray.size = es.length := by rw [List.size_toArray, ← rv2.length, hr2.length]
        have k1 : xs1.length = ds.length := hr1.length.symm
        have k2 : xs2.length = es.length := hr2.length.symm
        have he : ∀ j (h1 : j < its1.toArray.size) (h2 : j < its2.toArray.size), SeqAt.EqAt A.in1 s its1.toArray[j] its2.toArray[j] (eqAtI ds es j) := fun j g1 g2 => by
          have q1 : ds[j]? = some ds[j] := List.getElem?_eq_getElem (by omega)
          have q2 : es[j]? = some es[j] := List.getElem?_eq_getElem (by omega)
          have e1 : xs1[j]? = some xs1[j] := List.getElem?_eq_getElem (by omega)
          have e2 : xs2[j]? = some xs2[j] := List.getElem?_eq_getElem (by omega)
          obtain ⟨u1, z1, w1⟩ := rv1.get e1
          obtain ⟨u2, z2, w2⟩ := rv2.get e2
          have y1 : its1.toArray[j] = u1 := by
            obtain ⟨_, q⟩ := List.getElem?_eq_some_iff.mp z1
            simpa using q
          have y2 : its2.toArray[j] = u2 := by
            obtain ⟨_, q⟩ := List.getElem?_eq_some_iff.mp z2
            simpa using q
          rw [y1, y2]
          have : eqAtI ds es j = eqD ds[j] es[j] := by unfold eqAtI; rw [q1, q2]
          rw [this]
          have dl := depDs_get q1
          unfold depD at hd
          exact eqAt_D I (n - 1) ds[j] es[j] xs1[j] xs2[j] u1 u2 A.in1 (by omega) (by show A.units + 1 + (n - 1) < cLine; omega) (hr1.get q1 e1) (hr2.get q2 e2) w1 w2
        unfold eqD
        by_cases hl : ds.length = es.length
        · have q := SeqAt.RcAt.lists (A := A) p1.isList p2.isList (by rw [l1, l2, hl]) hu' he
          rw [l1] at q
          have z := eqDs_all ds es
          rw [hl, Nat.min_self, beq_self_eq_true, Bool.and_true] at z
          rw [hl, z] at q
          exact q
        · rw [eqDs_len hl]
          exact SeqAt.RcAt.lists_lengths (A := A) p1.isList p2.isList (by rw [l1, l2]; simpa using hl) hu'
theorem rcneat_D (I : Inv X pins σ H s) (n : Nat) (d1 d2 : D) (x y : V) (u v : Value) (A : Around) (hd : depD d1 ≤ n) (hu : A.units + n < cLine) (h1 : Rep X.K H d1 x) (h2 : Rep X.K H d2 y) (r1 : RelV x u) (r2 : RelV y v) : SeqAt.RcNeAt A s u v (!eqD d1 d2) := by
    have hu' : A.units < cLine := by omega
    cases d1 with
    | non =>
      unfold Rep at h1; subst h1; cases r1
      cases d2 with
      | non =>
        unfold Rep at h2; subst h2; cases r2
        exact SeqAt.RcNeAt.none_none
      | bl b2 =>
        unfold Rep at h2; subst h2; cases r2
        exact SeqAt.RcNeAt.none_bool b2
      | int b2 =>
        unfold Rep at h2; subst h2; obtain ⟨t2, rfl⟩ := r2
        exact SeqAt.RcNeAt.none_int b2 t2
      | str b2 =>
        unfold Rep at h2; subst h2; obtain ⟨t2, rfl⟩ := r2
        exact SeqAt.RcNeAt.none_str b2 t2
      | tup es =>
        unfold Rep at h2; obtain ⟨a2, xs2, rfl, hs2, hr2⟩ := h2; cases r2; obtain ⟨its2, rv2, p2, hz2⟩ := I.tuple hs2
        exact SeqAt.RcNeAt.none_tuple p2 hu'
      | lst es =>
        unfold Rep at h2; obtain ⟨a2, xs2, rfl, hs2, hr2⟩ := h2; cases r2; obtain ⟨its2, rv2, p2, hz2⟩ := I.list hs2
        exact SeqAt.RcNeAt.none_list p2.isList hu'
    | bl b1 =>
      unfold Rep at h1; subst h1; cases r1
      cases d2 with
      | non =>
        unfold Rep at h2; subst h2; cases r2
        exact SeqAt.RcNeAt.bool_none b1
      | bl b2 =>
        unfold Rep at h2; subst h2; cases r2
        exact SeqAt.RcNeAt.bool_bool b1 b2
      | int b2 =>
        unfold Rep at h2; subst h2; obtain ⟨t2, rfl⟩ := r2
        exact SeqAt.RcNeAt.bool_int b1 b2 t2
      | str b2 =>
        unfold Rep at h2; subst h2; obtain ⟨t2, rfl⟩ := r2
        exact SeqAt.RcNeAt.bool_str b1 b2 t2
      | tup es =>
        unfold Rep at h2; obtain ⟨a2, xs2, rfl, hs2, hr2⟩ := h2; cases r2; obtain ⟨its2, rv2, p2, hz2⟩ := I.tuple hs2
        exact SeqAt.RcNeAt.bool_tuple b1 p2 hu'
      | lst es =>
        unfold Rep at h2; obtain ⟨a2, xs2, rfl, hs2, hr2⟩ := h2; cases r2; obtain ⟨its2, rv2, p2, hz2⟩ := I.list hs2
        exact SeqAt.RcNeAt.bool_list b1 p2.isList hu'
    | int b1 =>
      unfold Rep at h1; subst h1; obtain ⟨t1, rfl⟩ := r1
      cases d2 with
      | non =>
        unfold Rep at h2; subst h2; cases r2
        exact SeqAt.RcNeAt.int_none b1 t1
      | bl b2 =>
        unfold Rep at h2; subst h2; cases r2
        exact SeqAt.RcNeAt.int_bool b1 t1 b2
      | int b2 =>
        unfold Rep at h2; subst h2; obtain ⟨t2, rfl⟩ := r2
        exact SeqAt.RcNeAt.int_int b1 t1 b2 t2
      | str b2 =>
        unfold Rep at h2; subst h2; obtain ⟨t2, rfl⟩ := r2
        exact SeqAt.RcNeAt.int_str b1 t1 b2 t2
      | tup es =>
        unfold Rep at h2; obtain ⟨a2, xs2, rfl, hs2, hr2⟩ := h2; cases r2; obtain ⟨its2, rv2, p2, hz2⟩ := I.tuple hs2
        exact SeqAt.RcNeAt.int_tuple b1 t1 p2 hu'
      | lst es =>
        unfold Rep at h2; obtain ⟨a2, xs2, rfl, hs2, hr2⟩ := h2; cases r2; obtain ⟨its2, rv2, p2, hz2⟩ := I.list hs2
        exact SeqAt.RcNeAt.int_list b1 t1 p2.isList hu'
    | str b1 =>
      unfold Rep at h1; subst h1; obtain ⟨t1, rfl⟩ := r1
      cases d2 with
      | non =>
        unfold Rep at h2; subst h2; cases r2
        exact SeqAt.RcNeAt.str_none b1 t1
      | bl b2 =>
        unfold Rep at h2; subst h2; cases r2
        exact SeqAt.RcNeAt.str_bool b1 t1 b2
      | int b2 =>
        unfold Rep at h2; subst h2; obtain ⟨t2, rfl⟩ := r2
        exact SeqAt.RcNeAt.str_int b1 t1 b2 t2
      | str b2 =>
        unfold Rep at h2; subst h2; obtain ⟨t2, rfl⟩ := r2
        exact SeqAt.RcNeAt.str_str b1 t1 b2 t2
      | tup es =>
        unfold Rep at h2; obtain ⟨a2, xs2, rfl, hs2, hr2⟩ := h2; cases r2; obtain ⟨its2, rv2, p2, hz2⟩ := I.tuple hs2
        exact SeqAt.RcNeAt.str_tuple b1 t1 p2 hu'
      | lst es =>
        unfold Rep at h2; obtain ⟨a2, xs2, rfl, hs2, hr2⟩ := h2; cases r2; obtain ⟨its2, rv2, p2, hz2⟩ := I.list hs2
        exact SeqAt.RcNeAt.str_list b1 t1 p2.isList hu'
    | tup ds =>
      unfold Rep at h1; obtain ⟨a1, xs1, rfl, hs1, hr1⟩ := h1; cases r1; obtain ⟨its1, rv1, p1, hz1⟩ := I.tuple hs1
      cases d2 with
      | non =>
        unfold Rep at h2; subst h2; cases r2
        exact SeqAt.RcNeAt.tuple_none p1 hu'
      | bl b2 =>
        unfold Rep at h2; subst h2; cases r2
        exact SeqAt.RcNeAt.tuple_bool b2 p1 hu'
      | int b2 =>
        unfold Rep at h2; subst h2; obtain ⟨t2, rfl⟩ := r2
        exact SeqAt.RcNeAt.tuple_int b2 t2 p1 hu'
      | str b2 =>
        unfold Rep at h2; subst h2; obtain ⟨t2, rfl⟩ := r2
        exact SeqAt.RcNeAt.tuple_str b2 t2 p1 hu'
      | tup es =>
        unfold Rep at h2; obtain ⟨a2, xs2, rfl, hs2, hr2⟩ := h2; cases r2; obtain ⟨its2, rv2, p2, hz2⟩ := I.tuple hs2
        have l1 : its1.toArray.size = ds.length := by rw [List.size_toArray, ← rv1.length, hr1.length]
        have l2 : its2.toArray.size = es.length := by rw [List.size_toArray, ← rv2.length, hr2.length]
        have k1 : xs1.length = ds.length := hr1.length.symm
        have k2 : xs2.length = es.length := hr2.length.symm
        have he : ∀ j (h1 : j < its1.toArray.size) (h2 : j < its2.toArray.size), SeqAt.EqAt A.in1 s its1.toArray[j] its2.toArray[j] (eqAtI ds es j) := fun j g1 g2 => by
          have q1 : ds[j]? = some ds[j] := List.getElem?_eq_getElem (by omega)
          have q2 : es[j]? = some es[j] := List.getElem?_eq_getElem (by omega)
          have e1 : xs1[j]? = some xs1[j] := List.getElem?_eq_getElem (by omega)
          have e2 : xs2[j]? = some xs2[j] := List.getElem?_eq_getElem (by omega)
          obtain ⟨u1, z1, w1⟩ := rv1.get e1
          obtain ⟨u2, z2, w2⟩ := rv2.get e2
          have y1 : its1.toArray[j] = u1 := by
            obtain ⟨_, q⟩ := List.getElem?_eq_some_iff.mp z1
            simpa using q
          have y2 : its2.toArray[j] = u2 := by
            obtain ⟨_, q⟩ := List.getElem?_eq_some_iff.mp z2
            simpa using q
          rw [y1, y2]
          have : eqAtI ds es j = eqD ds[j] es[j] := by unfold eqAtI; rw [q1, q2]
          rw [this]
          have dl := depDs_get q1
          unfold depD at hd
          exact eqAt_D I (n - 1) ds[j] es[j] xs1[j] xs2[j] u1 u2 A.in1 (by omega) (by show A.units + 1 + (n - 1) < cLine; omega) (hr1.get q1 e1) (hr2.get q2 e2) w1 w2
        have q := SeqAt.RcNeAt.tuples (A := A) p1 p2 hu' he
        rw [l1, l2, eqDs_all] at q
        unfold eqD
        exact q
      | lst es =>
        unfold Rep at h2; obtain ⟨a2, xs2, rfl, hs2, hr2⟩ := h2; cases r2; obtain ⟨its2, rv2, p2, hz2⟩ := I.list hs2
        exact SeqAt.RcNeAt.tuple_list p1 p2.isList hu'
    | lst ds =>
      unfold Rep at h1; obtain ⟨a1, xs1, rfl, hs1, hr1⟩ := h1; cases r1; obtain ⟨its1, rv1, p1, hz1⟩ := I.list hs1
      cases d2 with
      | non =>
        unfold Rep at h2; subst h2; cases r2
        exact SeqAt.RcNeAt.list_none p1.isList hu'
      | bl b2 =>
        unfold Rep at h2; subst h2; cases r2
        exact SeqAt.RcNeAt.list_bool b2 p1.isList hu'
      | int b2 =>
        unfold Rep at h2; subst h2; obtain ⟨t2, rfl⟩ := r2
        exact SeqAt.RcNeAt.list_int b2 t2 p1.isList hu'
      | str b2 =>
        unfold Rep at h2; subst h2; obtain ⟨t2, rfl⟩ := r2
        exact SeqAt.RcNeAt.list_str b2 t2 p1.isList hu'
      | tup es =>
        unfold Rep at h2; obtain ⟨a2, xs2, rfl, hs2, hr2⟩ := h2; cases r2; obtain ⟨its2, rv2, p2, hz2⟩ := I.tuple hs2
        exact SeqAt.RcNeAt.list_tuple p1.isList p2 hu'
      | lst es =>
        unfold Rep at h2; obtain ⟨a2, xs2, rfl, hs2, hr2⟩ := h2; cases r2; obtain ⟨its2, rv2, p2, hz2⟩ := I.list hs2
        have l1 : its1.toArray.size = ds.length := by rw [List.size_toArray, ← rv1.length, hr1.length]
        have l2 : its2.toArray.size = es.length := by rw [List.size_toArray, ← rv2.length, hr2.length]
        have k1 : xs1.length = ds.length := hr1.length.symm
        have k2 : xs2.length = es.length := hr2.length.symm
        have he : ∀ j (h1 : j < its1.toArray.size) (h2 : j < its2.toArray.size), SeqAt.EqAt A.in1 s its1.toArray[j] its2.toArray[j] (eqAtI ds es j) := fun j g1 g2 => by
          have q1 : ds[j]? = some ds[j] := List.getElem?_eq_getElem (by omega)
          have q2 : es[j]? = some es[j] := List.getElem?_eq_getElem (by omega)
          have e1 : xs1[j]? = some xs1[j] := List.getElem?_eq_getElem (by omega)
          have e2 : xs2[j]? = some xs2[j] := List.getElem?_eq_getElem (by omega)
          obtain ⟨u1, z1, w1⟩ := rv1.get e1
          obtain ⟨u2, z2, w2⟩ := rv2.get e2
          have y1 : its1.toArray[j] = u1 := by
            obtain ⟨_, q⟩ := List.getElem?_eq_some_iff.mp z1
            simpa using q
          have y2 : its2.toArray[j] = u2 := by
            obtain ⟨_, q⟩ := List.getElem?_eq_some_iff.mp z2
            simpa using q
          rw [y1, y2]
          have : eqAtI ds es j = eqD ds[j] es[j] := by unfold eqAtI; rw [q1, q2]
          rw [this]
          have dl := depDs_get q1
          unfold depD at hd
          exact eqAt_D I (n - 1) ds[j] es[j] xs1[j] xs2[j] u1 u2 A.in1 (by omega) (by show A.units + 1 + (n - 1) < cLine; omega) (hr1.get q1 e1) (hr2.get q2 e2) w1 w2
        unfold eqD
        by_cases hl : ds.length = es.length
        · have q := SeqAt.RcNeAt.lists (A := A) p1.isList p2.isList (by rw [l1, l2, hl]) hu' he
          rw [l1] at q
          have z := eqDs_all ds es
          rw [hl, Nat.min_self, beq_self_eq_true, Bool.and_true] at z
          rw [hl, z] at q
          exact q
        · rw [eqDs_len hl]
          exact SeqAt.RcNeAt.lists_lengths (A := A) p1.isList p2.isList (by rw [l1, l2]; simpa using hl) hu'
end
section
variable {X : Cx}
def rEqD (K : PySem.W.Frag) (f : Bool → Bool) : R2 := fun x y H Q => ∃ d1 d2, Rep K H d1 x ∧ Rep K H d2 y ∧ depD d1 ≤ 30 ∧ Q (.bl (f (eqD d1 d2))) H
theorem op_eqD (hu : X.A.units + 64 < cLine) : OpR X (compareOp .Eq) (rEqD X.K id) := by
  intro pins s σ H x y v u Q I rx ry h
  obtain ⟨d1, d2, h1, h2, hd, q⟩ := h
  exact rcat_D I 30 d1 d2 x y v u X.A hd (by omega) h1 h2 rx ry X.prog X.w X.xe _ ⟨.bl _, H, I, rfl, q⟩
theorem op_neD (hu : X.A.units + 64 < cLine) : OpR X (compareOp .NotEq) (rEqD X.K not) := by
  intro pins s σ H x y v u Q I rx ry h
  obtain ⟨d1, d2, h1, h2, hd, q⟩ := h
  exact rcneat_D I 30 d1 d2 x y v u X.A hd (by omega) h1 h2 rx ry X.prog X.w X.xe _ ⟨.bl _, H, I, rfl, q⟩
end
end L2
end
section
set_option Elab.async false
set_option linter.all false
set_option maxRecDepth 100000
set_option maxHeartbeats 4000000
namespace L2
open PySem PySem.Spec PyProof.Rows
section
variable {X : Cx}
/-! ### isinstance(x, T), T a type by its name -/
def isT (n m : String) : Bool := (n == m) || (n == "bool" && m == "int")
theorem kit_T (K : PySem.W.Frag) {n m : String} (hn : n ∈ ["NoneType", "bool", "int", "str", "list", "tuple", "dict"]) (hm : m ∈ ["bool", "int", "str", "list", "tuple", "dict"]) :
    PySem.W.kitOne K (.type n) (.type m) = some (isT n m) := by
  simp only [List.mem_cons, List.mem_nil_iff, or_false] at hn hm
  rcases hn with rfl | rfl | rfl | rfl | rfl | rfl | rfl <;> rcases hm with rfl | rfl | rfl | rfl | rfl | rfl <;> kernel_rfl
inductive TyD (K : PySem.W.Frag) (H : Hp) : V → String → Prop where
  | non : TyD K H .non "NoneType"
  | bl (x : Bool) : TyD K H (.bl x) "bool"
  | int (i : Int) : TyD K H (.int i) "int"
  | str (x : Str) : TyD K H (.str x) "str"
  | lst {a : Addr} {xs : List V} (e : H a = some (.lst xs)) : TyD K H (.ref a) "list"
  | frz {a : Addr} {o : Obj} {xs : List V} (e : H a = some (.frz o (.lst xs))) : TyD K H (.ref a) "list"
  | tup {a : Addr} {xs : List V} (e : H a = some (.tup xs)) : TyD K H (.ref a) "tuple"
  | dK {a : Addr} {kvs : List (Key × V)} (e : H a = some (.dK kvs)) : TyD K H (.ref a) "dict"
  | dT {a : Addr} {kvs : List (List Key × V)} (e : H a = some (.dT kvs)) : TyD K H (.ref a) "dict"
theorem TyD.mem {K : PySem.W.Frag} {H : Hp} {x : V} {n : String} (h : TyD K H x n) : n ∈ ["NoneType", "bool", "int", "str", "list", "tuple", "dict"] := by
  cases h <;> simp
theorem TyD.ty {K : PySem.W.Frag} {H : Hp} {x : V} {n : String} (h : TyD K H x n) : TyOf K H x (.type n) := by
  cases h with
  | non => exact .non
  | bl => exact .bl _
  | int => exact .int _
  | str => exact .str _
  | lst e => exact .lst e
  | frz e => exact .frz e
  | tup e => exact .tup e
  | dK e => exact .dK e
  | dT e => exact .dT e
theorem call_isinst {m : String} (hm : m ∈ ["bool", "int", "str", "list", "tuple", "dict"]) : CallR X (.builtin "isinstance") (fun xs H Q => ∃ x n, xs = [x, .ty m] ∧ TyD X.K H x n ∧ Q (.bl (isT n m)) H) := by
  intro pins s σ H xs us Q I r h
  obtain ⟨x, n, rfl, ty, q⟩ := h
  obtain ⟨u, w', rfl, rx, rt⟩ := vals2 r
  cases rt
  exact isinst_ok I rx ty.ty (kit_T X.K ty.mem hm) fun tk => ⟨.bl _, H, I.tok tk, rfl, q⟩
/-! ### range(n) as a value, list(range(n)) -/
theorem call_range1 : CallR X (.type "range") (fun xs H Q => ∃ j, xs = [.int j] ∧ ∀ p, H p = none → Q (.ref p) (upd H p (.rng 0 j))) := by
  intro pins s σ H xs us Q I r h
  obtain ⟨j, rfl, q⟩ := h
  obtain ⟨u, rfl, rx⟩ := vals1 r
  obtain ⟨t, rfl⟩ := rx
  refine call_range_1 ⟨.ref s.heap.objs.size, upd H s.heap.objs.size (.rng 0 j), I.laid (fun b u e => Heap.get?_push_of_some _ e) (Nat.le_refl _) ?_, rfl, q _ (I.hok.fresh (Nat.le_refl _))⟩
  exact ⟨_, _, _, Heap.get?_push_size _ rfl⟩
theorem items_vals {a : Int} {n : Nat} {acc : Array Value} (h : ItemsOf (fun i v => ∃ t, v = Value.int (a + i * 1) t) acc n) : Vals ((List.range n).map fun i => V.int (a + (i : Nat))) acc.toList := by
  obtain ⟨hs, hi⟩ := h
  have gen : ∀ (l : List Value) (k : Nat), (∀ (i : Nat) v, l[i]? = some v → ∃ t, v = Value.int (a + ((k + i : Nat) : Int) * 1) t) → Vals ((List.range' k l.length).map fun i => V.int (a + (i : Nat))) l := by
    intro l
    induction l with
    | nil => intro k _; exact .nil
    | cons v r ih =>
      intro k hk
      rw [List.length_cons, List.range'_succ, List.map_cons]
      refine .cons ?_ (ih (k + 1) fun i v e => ?_)
      · obtain ⟨t, e⟩ := hk 0 v rfl
        exact ⟨t, by rw [e]; simp⟩
      · obtain ⟨t, e'⟩ := hk (i + 1) v (by simpa using e)
        refine ⟨t, ?_⟩
        rw [e', show k + (i + 1) = k + 1 + i by omega]
  have q := gen acc.toList 0 (fun i v e => by
    obtain ⟨t, e'⟩ := hi i v (by simpa using e)
    exact ⟨t, by rw [e', Nat.zero_add]⟩)
  rw [Array.length_toList, hs] at q
  rw [List.range_eq_range']
  exact q
theorem call_list_rng (hc : X.calm = true) : CallR X (.type "list") (fun xs H Q => ∃ p lo hi, xs = [.ref p] ∧ H p = some (.rng lo hi) ∧ (-(2 ^ 62) ≤ lo ∧ lo < 2 ^ 62 ∧ -(2 ^ 62) ≤ hi ∧ hi < 2 ^ 62) ∧ (hi - lo).toNat ≤ 2 ^ 20 ∧
    ∀ l, H l = none → Q (.ref l) (upd H l (.lst ((List.range (hi - lo).toNat).map fun i => V.int (lo + (i : Nat)))))) := by
  intro pins s σ H xs us Q I r h
  obtain ⟨p, lo, hi, rfl, hp, ⟨h1, h2, h3, h4⟩, hz, q⟩ := h
  obtain ⟨u, rfl, rx⟩ := vals1 r
  cases rx
  obtain ⟨t, u, v, e⟩ := I.hok p _ hp
  refine call_list_range (n := (hi - lo).toNat) (I.ok.hd hc) (c := 1) (show IsRange s.heap p lo hi 1 t u v from e) (small_one h1 h2 h3 h4) (by rw [rangeSize_one]; split <;> omega) (by omega) fun h' tk acc' c' hk hS' hacc => ?_
  have hl : ((List.range (hi - lo).toNat).map fun i => V.int (lo + (i : Nat))).length ≤ sizeLine := by
    rw [List.length_map, List.length_range, sizeLine_eq]; omega
  refine ⟨.ref s.heap.objs.size, _, I.laid hk (Nat.le_refl _) (show ObjOk X.prog X.w _ _ _ (.lst _) from ⟨hl, acc'.toList, c', items_vals hacc, by simpa using hS'⟩), rfl, q _ (I.hok.fresh (Nat.le_refl _))⟩
end
section
open PySem.MeetsSeq PySem.MeetsSeq2 PySem.MeetsSeq3 PySem.SeqAt
/-! ### t.index(x), x there -/
section
variable {X : Cx}
end
end
section
variable {X : Cx}
def CDiv64 (i j : Int) : Prop := 0 < j ∧ j < 18446744073709551616
theorem log2_small {n : Nat} (h : n < 18446744073709551616) : n.log2 < 9000 := by
  by_cases h0 : n = 0
  · subst h0; decide
  · have := (Nat.log2_lt h0 (k := 64)).mpr (by omega)
    omega
/-- a divisor of up to 64 bits -/
theorem op_fdiv64 : OpR X (binaryOp .FloorDiv) (rI CDiv64 fun i j => .int (i / j)) := opI fun i j _ _ _ _ _ hc q => by
  refine floordiv_int (by have := hc.1; omega) ?_ (.inl (PyProof.noPylong_of_log2 (log2_small (by have := hc.1; have := hc.2; omega))))
  rw [Int.fdiv_eq_ediv_of_nonneg _ (by have := hc.1; omega)]
  exact q
end
section
theorem bt_list : bootBuiltins "list" = some (.type "list") := by decide +kernel
theorem bt_tuple : bootBuiltins "tuple" = some (.type "tuple") := by decide +kernel
theorem bt_bool : bootBuiltins "bool" = some (.type "bool") := by decide +kernel
theorem bt_range : bootBuiltins "range" = some (.type "range") := by decide +kernel
theorem bt_len : bootBuiltins "len" = some (.builtin "len") := by decide +kernel
theorem bt_max : bootBuiltins "max" = some (.builtin "max") := by decide +kernel
theorem bt_min : bootBuiltins "min" = some (.builtin "min") := by decide +kernel
theorem bt_isinstance : bootBuiltins "isinstance" = some (.builtin "isinstance") := by decide +kernel
theorem bt_all : bootBuiltins "all" = some (.builtin "all") := by decide +kernel
end
end L2
end
section
set_option Elab.async false
set_option linter.all false
set_option maxRecDepth 100000
set_option maxHeartbeats 4000000
namespace HT
open PySem PySem.Spec PyProof.Rows L2
section
variable {prog : Program} {w : World} {A : Around} {E : Value → Shared → Prop} {s : Shared}
theorem getItem_tuple_whole {t sl : Addr} {items : Array Value} {vl vu : Value} {lo hi : Option Int} {Q : Value → Shared → Prop} (ht : IsTup s.heap t items) (hs : s.heap.IsSliceOf sl vl vu .none) (pl : IsPart vl lo) (pu : IsPart vu hi)
    (hw : sIx items.size 0 lo = 0 ∧ sIx items.size items.size hi = items.size) (h : Q (.ref t) s) : wpAny (model prog w) A (getItem (.ref t) (.ref sl)) Q E s := by
  obtain ⟨os, hos, hcs, hds⟩ := id hs
  have hTs : s.TypeIs (.ref sl) "slice" := ⟨os, hos, hcs⟩
  unfold getItem
  try with_reducible refine wpAny_holding ?_
  first | refine wpAny_bind (wpAny_pure ?_) | skip
  refine wpAny_bind (wpAny_sequenceKey ht.typeIs (by decide) ?_)
  refine wpAny_bind (wpAny_callSpecial?_slot (name := Str.ofString "__getitem__") ht.typeIs PyProof.Rows.slot_tuple_getitem
    (wpAny_call_entry PyProof.Rows.slot_tuple_getitem ht.typeIs entry_tuple_getitem ?_ (args_tuple_getitem _ _)))
  show wpAny _ _ (Builtin.Tuple.tupleItemsOf (.ref t) >>= _) _ _ s
  refine wpAny_bind (tupleItemsOf_ ht ?_)
  refine wpAny_bind (wpAny_typeOf hTs ?_)
  rw [if_pos (by decide)]
  refine wpAny_bind (sliceApplied_gen hs pl pu ?_)
  obtain ⟨w1, w2⟩ := hw
  rw [w1, w2]
  show wpAny _ _ (if (((0 : Nat) : Int) == 0 && (1 : Int) == 1 && (items.size - 0) == items.size) = true then _ else _) _ _ s
  rw [if_pos (by simp)]
  have hex : wpAny (model prog w) A.in1 (Builtin.Tuple.tupleIsExact (.ref t)) (fun b s' => b = true ∧ s' = s) E s := by
    unfold Builtin.Tuple.tupleIsExact
    exact wpAny_bind (wpAny_typeOf ht.typeIs (wpAny_pure ⟨by decide, rfl⟩))
  refine wpAny_bind (wpAny_mono hex (fun b s' hb => ?_) fun _ _ e => e)
  obtain ⟨rfl, rfl⟩ := hb
  rw [if_pos rfl]
  exact wpAny_bind (wpAny_rule (wpAny_pure ⟨_, rfl, wpAny_pure h⟩))
end
end HT
namespace L2
open PySem PySem.Spec PyProof.Rows
section
variable {X : Cx}
/-! ### t[a:b], t + u: whatever object comes -/
theorem upd_sameHp {H : Hp} {p : Addr} (h : H p = none) (o : HO) : Same H (upd H p o) := fun b u q => by rw [upd_ne (ne_of_none q h)]; exact q
/-! ### min(xs) of a list of ints -/
end
/-! ### tuple(range(n)) -/
section
open AutoSeq1 (wpAny_loadPart')
theorem wpAny_collect_range {prog : Program} {w : World} {A : Around} {E : Value → Shared → Prop} {s : Shared} {Q : List Value → Shared → Prop} {r : Addr} {a b c : Int} {t u v : Tok} {n : Nat} (hh : A.handled = none) (hr : IsRange s.heap r a b c t u v)
    (hsmall : Builtin.Range.small a b c = true) (hn : Builtin.Range.rangeSize a b c = n) (hlen : n ≤ 2 ^ 24)
    (hQ : ∀ h' tk (acc : Array Value), (∀ b o', s.heap.get? b = some o' → h'.get? b = some o') → ItemsOf (fun i v => ∃ t, v = .int (a + i * c) t) acc n → Q acc.toList { s with heap := h', toks := tk }) :
    wpAny (model prog w) A (collect (.ref r)) Q E s := by
  unfold collect
  refine wpAny_bind (wpAny_runValue (codeAny_builtin F.entry_proto_collect ?_))
  rw [Around.under_plainId F.plain_proto_collect _]
  show wpAny _ A.in1 (newList [] >>= fun l => again (.builtin "list.__iadd__" ⟨[l, .ref r], []⟩)) _ _ s
  refine wpAny_bind (wpAny_newObj_type ?_)
  refine wpAny_pure ⟨plainId_quiet F.plain_list_iadd _, codeAny_builtin F.entry_list_iadd ?_⟩
  rw [Around.under_plainId F.plain_list_iadd _]
  have hS : (s.heap.push { cls := .type "list", data := .seq ([] : List Value).toArray }).get? s.heap.objs.size = some { cls := .type "list", data := .seq #[] 0 } := Heap.get?_push_size _ rfl
  show wpAny _ A.in1 (Builtin.List.listExtendWith (.ref s.heap.objs.size) (.ref r) (.ref s.heap.objs.size)) _ _ _
  refine wpAny_mono (wpAny_extend_range (A := A) (R := fun res s' => res = .ok (.ret (.ref s.heap.objs.size)) ∧ wpAny (model prog w) A (load s.heap.objs.size >>= fun o => match o.data with | .seq xs _ => pure xs.toList | _ => unsupported "internal:collect") Q E s')
    hh (Heap.get?_push_of_some _ hr) hsmall hn hlen s.heap.objs.size _ 0 hS fun h' tk acc' c' hk hS' hacc => ⟨rfl, ?_⟩) (fun fin s' h => ?_) fun e s' h => absurd h.1 (by simp)
  · refine wpAny_bind (wpAny_load hS' (wpAny_pure ?_))
    exact hQ h' tk acc' (fun b o' hb => hk b o' (Nat.ne_of_lt (Heap.lt_size hb)) (Heap.get?_push_of_some _ hb)) hacc
  · cases fin with
    | done f =>
      obtain ⟨e, q⟩ := h
      cases e
      exact q
    | again c' => exact ⟨h.1, codeAny_mono h.2 fun r s'' hr => by obtain ⟨rfl, q⟩ := hr; exact q⟩
theorem meets_tuple_new_range (l : Addr) (a b c : Int) (t u v : Tok) (n : Nat) (hsmall : Builtin.Range.small a b c = true) (hn : Builtin.Range.rangeSize a b c = n) (hlen : n ≤ 2 ^ 20) :
    Meets (Builtin.«tuple.__new__» ⟨[.type "tuple", .ref l], []⟩)
      (fun A R s => A.handled = none ∧ IsRange s.heap l a b c t u v ∧ ∀ (h' : Heap) (tk : Nat) (acc : Array Value), (∀ b o', s.heap.get? b = some o' → h'.get? b = some o') → ItemsOf (fun i v => ∃ t, v = .int (a + i * c) t) acc n →
        R (.ok (.ret (.ref h'.objs.size))) { s with heap := h'.push { cls := .type "tuple", data := .seq acc }, toks := tk }) :=
  .of_wp fun prog w A R s h => by
    obtain ⟨hp, g, d, tk, os⟩ := s; obtain ⟨hh, ht, h⟩ := h
    have hsub := sub_tuple_self
    have hinit := init_tuple_lookup
    have hmh := madeHere_tuple
    have hT : Shared.TypeIs ⟨hp, g, d, tk, os⟩ (.ref l) "range" := ⟨_, ht, rfl⟩
    wp_walk using wpAny_typeOf hT, wpAny_collect_range (A := A.in1) hh ht hsmall hn (by omega)
    intro h' tk' acc hk hacc
    show wpAny _ _ (Builtin.Tuple.tupleExact acc.toList.toArray >>= fun v => ret v) _ _ _
    unfold Builtin.Tuple.tupleExact
    refine wpAny_bind (wpAny_newObj_type ?_ (by show acc.toList.toArray.size ≤ sizeLine; rw [sizeLine_eq]; simp; have := hacc.1; omega))
    refine wpAny_pure ⟨_, rfl, ?_⟩
    have e : acc.toList.toArray = acc := by simp
    rw [e]
    exact h h' tk' acc hk hacc
variable {X : Cx}
theorem call_tuple_rng (hc : X.calm = true) : CallR X (.type "tuple") (fun xs H Q => ∃ p lo hi, xs = [.ref p] ∧ H p = some (.rng lo hi) ∧ (-(2 ^ 62) ≤ lo ∧ lo < 2 ^ 62 ∧ -(2 ^ 62) ≤ hi ∧ hi < 2 ^ 62) ∧ (hi - lo).toNat ≤ 2 ^ 20 ∧
    ∀ l, H l = none → Q (.ref l) (upd H l (.tup ((List.range (hi - lo).toNat).map fun i => V.int (lo + (i : Nat)))))) := by
  intro pins s σ H xs us Q I r h
  obtain ⟨p, lo, hi, rfl, hp, ⟨h1, h2, h3, h4⟩, hz, q⟩ := h
  obtain ⟨u, rfl, rx⟩ := vals1 r
  cases rx
  obtain ⟨t, u, v, e⟩ := I.hok p _ hp
  refine callType_new F.called_tuple (by decide) (F.typeCall_tuple_1 _) (F.newCall_tuple_1 _) (fun obj => F.args_object_init_2 obj _) F.entry_tuple_new
    (meets_tuple_new_range p lo hi 1 t u v (hi - lo).toNat (small_one h1 h2 h3 h4) (by rw [rangeSize_one]; split <;> omega) hz) ⟨I.ok.hd hc, e, fun h' tk acc hk hacc => ⟨⟨_, Heap.get?_push_size _ rfl, rfl⟩, ?_⟩⟩
  have hl : ((List.range (hi - lo).toNat).map fun i => V.int (lo + (i : Nat))).length ≤ sizeLine := by
    rw [List.length_map, List.length_range, sizeLine_eq]; omega
  have I1 : Inv X pins σ H { s with heap := h', toks := tk } := I.kept hk
  refine ⟨.ref h'.objs.size, _, I1.laid (t' := tk) (fun b o e => Heap.get?_push_of_some _ e) (Nat.le_refl _) (show ObjOk X.prog X.w _ _ _ (.tup _) from ⟨hl, acc.toList, items_vals hacc, by simpa using IsTup.new h' acc, 0, by simpa using Heap.get?_push_size h' rfl⟩), rfl, q _ (I1.hok.fresh (Nat.le_refl _))⟩
end
end L2
end
section
set_option Elab.async false
set_option linter.all false
set_option maxRecDepth 100000
set_option maxHeartbeats 4000000
namespace HT
open PySem PySem.Spec PyProof.Rows L2
section
open PySem.SeqAt
open PySem.AutoSeq1 (wpAny_loadPart')
open PySem.MeetsSeq PySem.MeetsSeq2 PySem.MeetsSeq3
end
end HT
namespace L2
open PySem PySem.Spec PyProof.Rows
section
variable {X : Cx}
/-! ### t > u of ints -/
/-! ### a is b of truths -/
/-! ### xs.extend(t), t a tuple -/
def rExtendT : V → List V → Hp → VK → Prop := fun x vs H Q => ∃ l b xs zs, x = .ref l ∧ vs = [.ref b] ∧ H l = some (.lst xs) ∧ H b = some (.tup zs) ∧ xs.length + zs.length ≤ sizeLine ∧ Q .non (upd H l (.lst (xs ++ zs)))
theorem mt_extendT : MtM X "list.extend" rExtendT := by
  intro pins s σ H x vs v us Q I rx rv h
  obtain ⟨l, b, xs, zs, rfl, rfl, hH, hB, hz, q⟩ := h
  cases rx
  obtain ⟨u, rfl, ru⟩ := rv.one
  cases ru
  obtain ⟨z, its, n, r, hl, e⟩ := I.lstM hH
  obtain ⟨z2, its2, r2, _, n2, e2⟩ := I.hok b _ hB
  have hl2 := r2.length
  have hsz : its.toArray.size + its2.toArray.size ≤ sizeLine := by rw [List.size_toArray, List.size_toArray]; omega
  have hlong : ¬ (!its.toArray.isEmpty && Builtin.List.listTooLong (its.toArray.size + its2.toArray.size)) = true := by
    rw [notLongL hsz, Bool.and_false]
    exact Bool.false_ne_true
  refine call_meets F.slot_list_extend ⟨_, e, rfl⟩ F.entry_list_extend (F.args_list_extend_2 _ _)
    (AutoSeq1.list_extend_list_tuple_0 l its.toArray n b its2.toArray n2 hlong (by rw [List.size_toArray]; omega) (by omega)) ⟨e, e2, ?_⟩
  refine ⟨.non, _, I.lset (its' := its ++ its2) hH e (by simp) (r.append r2) ?_, rfl, q⟩
  rw [List.length_append]
  omega
/-! ### sorted(x) of ints -/
/-! ### all(xs) of truths -/
theorem bools_get {bs : List Bool} {us : List Value} (r : Vals (bs.map V.bl) us) {i : Nat} {v : Value} (h : us[i]? = some v) : v = .bool (bs.getD i true) := by
  have hl := r.length
  rw [List.length_map] at hl
  obtain ⟨hi, _⟩ := List.getElem?_eq_some_iff.mp h
  have e : (bs.map V.bl)[i]? = some (V.bl (bs.getD i true)) := by
    rw [List.getElem?_map, List.getElem?_eq_getElem (by omega)]
    simp [List.getD, List.getElem?_eq_getElem (show i < bs.length by omega)]
  obtain ⟨u, hu, ru⟩ := r.get e
  rw [h] at hu
  cases hu
  exact ru
theorem all_range (bs : List Bool) : ((List.range bs.length).all fun i => bs.getD i true) = bs.all id := by
  induction bs with
  | nil => rfl
  | cons b bs ih =>
    rw [List.length_cons, List.range_succ_eq_map, List.all_cons, List.all_map, List.all_cons]
    congr 1
theorem call_allB (hc : X.calm = true) : CallR X (.builtin "all") (fun xs H Q => ∃ (p : Addr) (bs : List Bool), xs = [.ref p] ∧ SqL X.K H p (bs.map V.bl) ∧ Q (.bl (bs.all id)) H) := by
  intro pins s σ H xs us Q I r h
  obtain ⟨p, bs, rfl, hq, q⟩ := h
  obtain ⟨u, rfl, rx⟩ := vals1 r
  cases rx
  obtain ⟨its, rv, pl, hz⟩ := I.list hq
  have hl := pl.isList
  have hlt : p < s.heap.objs.size := by obtain ⟨_, e, _⟩ := hl; exact Heap.lt_size e
  refine call_all_walk (wpAny_pyIter_list hl ?_)
  refine ⟨s.heap.objs.size, _, _, _, _, _, fun i => bs.getD i true, rfl, Walks.list (A := X.A.in1) (I.ok.hd hc) _ p (Nat.ne_of_lt hlt) its.toArray, ⟨⟨_, Heap.get?_push_size _ rfl, rfl, rfl⟩, hl.push _⟩, ?_, fun h' tk hk => ?_⟩
  · intro i v s' Q' E' hP hQ'
    have e := bools_get rv (i := i) (v := v) (by simpa using hP)
    subst e
    exact wpAny_truthy_bool hQ'
  · have e : (List.range its.toArray.size).all (fun i => bs.getD i true) = bs.all id := by
      rw [List.size_toArray, ← rv.length, List.length_map]; exact all_range bs
    rw [e]
    refine ⟨.bl _, H, I.kept fun b o e => hk b o (fun hm => ?_) (Heap.get?_push_of_some _ e), rfl, q⟩
    rcases List.mem_cons.mp hm with e1 | hm
    · exact absurd (e1 ▸ Heap.lt_size e) (Nat.lt_irrefl _)
    · cases hm
/-! ### a, b, .. = a list of that length -/
/-! ### t[a:b], t + u of tracked tuples: a tracked one comes -/
def rSlTT (K : PySem.W.Frag) : V → Option Int → Option Int → Hp → VK → Prop := fun x lo hi H Q => ∃ a xs, x = .ref a ∧ H a = some (.tup xs) ∧ ∀ r H', Same H H' → H' r = some (.tup (cutV xs lo hi)) → Q (.ref r) H'
theorem sl_tupT : SlR X (rSlTT X.K) := by
  have base : SlR X (rSlT X.K) := sl_tup
  intro pins s σ H x v vl vu lo hi sl Q I rx hs pl pu h
  obtain ⟨a, xs, rfl, hx', q⟩ := h
  have hx : SqT X.K H a xs := SqT.of hx'
  by_cases hw : HT.sIx xs.length 0 lo = 0 ∧ HT.sIx xs.length xs.length hi = xs.length
  · cases rx
    obtain ⟨its, r, ht, hz⟩ := I.tuple hx
    have hl : its.toArray.size = xs.length := by rw [List.size_toArray, r.length]
    refine ⟨"tuple", _, PyProof.Rows.slot_tuple_getitem.lookup, ht.typeIs, HT.getItem_tuple_whole ht hs pl pu (by rw [hl]; exact hw) ⟨.ref a, H, I, rfl, q a H (Same.refl _) ?_⟩⟩
    have e : cutV xs lo hi = xs := by unfold cutV; rw [hw.1, hw.2]; simp
    rw [e]; exact hx'
  · exact base pins s σ H _ v vl vu lo hi sl Q I rx hs pl pu ⟨a, xs, rfl, hx, hw, fun p hp => q p _ (upd_sameHp hp _) upd_same⟩
def rCatTT : R2 := fun x y H Q => ∃ a b xs ys, x = .ref a ∧ y = .ref b ∧ H a = some (.tup xs) ∧ H b = some (.tup ys) ∧ xs.length + ys.length ≤ sizeLine ∧ ∀ r H', Same H H' → H' r = some (.tup (xs ++ ys)) → Q (.ref r) H'
theorem op_catTT : OpR X (binaryOp .Add) rCatTT := by
  intro pins s σ H x y v u Q I rx ry h
  obtain ⟨a, b, xs, ys, rfl, rfl, ha', hb', hz, q⟩ := h
  have ha : SqT X.K H a xs := SqT.of ha'
  have hb : SqT X.K H b ys := SqT.of hb'
  by_cases hx : xs = []
  · subst hx
    cases rx
    cases ry
    obtain ⟨its, r1, p1, _⟩ := I.tuple ha
    obtain ⟨its2, r2, p2, _⟩ := I.tuple hb
    have e1 : its = [] := (Vals.nil_iff r1).mpr rfl
    subst e1
    obtain ⟨⟨cls, dd, data, sl⟩, ho, hc, n, hd⟩ := id p1
    obtain ⟨⟨cls2, dd2, data2, sl2⟩, ho2, hc2, n2, hd2⟩ := id p2
    simp only at hc hd hc2 hd2
    subst hc hd hc2 hd2
    exact concat_meets ⟨_, ho, rfl⟩ ⟨_, ho2, rfl⟩ noFill_tuple_add seq_tuple_add PySem.F.slot_tuple_add PySem.F.entry_tuple_add (PySem.F.args_tuple_add_2 _ _)
      (tuple_addW0 a b ([] : List Value).toArray its2.toArray n n2 dd dd2 sl sl2 (by simp)) ⟨ho, ho2, ⟨.ref b, H, I, rfl, q b H (Same.refl _) (by simpa using hb')⟩⟩
  · refine op_catT pins s σ H _ _ v u Q I rx ry ⟨a, b, xs, ys, rfl, rfl, ha, hb, hx, hz, fun e => ?_, fun _ p hp => q p _ (upd_sameHp hp _) upd_same⟩
    subst e
    exact q a H (Same.refl _) (by simpa using ha')
end
end L2
end
section
set_option Elab.async false
set_option linter.all false
set_option maxRecDepth 100000
set_option maxHeartbeats 4000000
namespace L2
open PySem PySem.Spec PyProof.Rows
/-- a def by its name: it keeps a promise -/
structure Fn (P : Program) (w : World) (K : PySem.W.Frag) (mg : Str → Option Value) (base : Heap) (x : Str) (k : Nat) (ps : List Str) (sp : Sp) : Prop where
  ex : ∃ (f : Addr) (fd : FuncData), mg x = some (.ref f) ∧ PySem.W.keepIn K (.ref f) = true ∧ Binds K fd ps [] ∧ FnOk P w K mg base CX0 k f fd ps sp
/-- a def of the text -/
structure Df (K : PySem.W.Frag) (mg : Str → Option Value) (x : Str) (st : Stmt) : Prop where
  ex : ∃ (f : Addr) (fd : FuncData), mg x = some (.ref f) ∧ Fun K x x st f fd
section
variable {P : Program} {w : World} {K : PySem.W.Frag} {mg : Str → Option Value} {base : Heap} {x : Str} {k : Nat} {ps : List Str} {sp : Sp}
theorem Df.fn {st : Stmt} {N : List Str} (d : Df K mg x st) (S : FnScope N ps (defScope st))
    (hb : ∀ (kV doc pm : Value) (an : Option Addr) (cdv ct : Value) (us : List Value), us.length = ps.length → bindArgs (PySem.W.fnOf x x (defArgs st) (defBody st) (defScope st) .none kV doc pm an cdv ct) ⟨us, []⟩ = pure (ps.zip us))
    (len : ∀ vs H Q E, sp vs H Q E → vs.length = ps.length)
    (hbody : ∀ (f : Addr) (cdv : Value) (A : Around) (outer : List Env) (s : Shared) (H : Hp) (vs : List V) (Q : VK) (E : XK), Room k (A.deeper (envOfC x (defScope st) s.heap.objs.size f cdv)) → sp vs H Q E →
      ∃ t, PSs (cxOf CX0 P w K mg base N x (defScope st) f cdv A outer s H E).nox (defBody st) t ∧ t { nx := fun _ H' => Q .non H', rt := Q } (start N vs) H) : Fn P w K mg base x (k + 1) ps sp := by
  obtain ⟨f, fd, m, F⟩ := d.ex
  exact ⟨f, fd, m, F.kp, F.binds hb, F.ok S len (hbody f)⟩
end
section
variable {X : Cx} {k : Nat} {ps : List Str} {sp : Sp} {x : Str} {p pos : Pos} {e : Expr} {es : List Expr} {t : TA}
theorem pe_callF (F : Fn X.prog X.w X.K X.mg X.base x k ps sp) (hr : Room k X.A) (ha : PA X (e :: es) t) (hg : Gl X x := by rfl) (hdb : (x == ("__debug__" : Str)) = false := by decide)
    (he : starEach (e :: es) X.env = (false, eval e X.env) :: starEach es X.env := by rfl) (hpl : (backTo pos (starEach es X.env)).any (·.1) = false := by rfl) :
    PE X (.Call (.Name x p) (e :: es) [] pos) (tCall sp [] E0 t) := by
  obtain ⟨f, fd, hm, hk, hb, G⟩ := F.ex
  exact pe_call G hr hg hm hk hb .nil pass0 ha hdb he hpl
end
theorem Same.seqT {K : PySem.W.Frag} {H H' : Hp} {a : Addr} {xs : List V} (e : Same H H') (h : SqT K H a xs) : SqT K H' a xs := by
  rcases h with (h | ⟨o, h⟩) | h
  · exact .inl (.inl (e _ _ h))
  · exact .inl (.inr ⟨o, e _ _ h⟩)
  · exact .inr h
mutual
theorem Same.rep {K : PySem.W.Frag} {H H' : Hp} (e : Same H H') : ∀ {d : D} {v : V}, Rep K H d v → Rep K H' d v
  | .non, v, h => by unfold Rep at h ⊢; exact h
  | .bl b, v, h => by unfold Rep at h ⊢; exact h
  | .int b, v, h => by unfold Rep at h ⊢; exact h
  | .str b, v, h => by unfold Rep at h ⊢; exact h
  | .tup ds, v, h => by
    unfold Rep at h ⊢
    obtain ⟨a, xs, r, q, z⟩ := h
    exact ⟨a, xs, r, e.seqT q, Same.reps e z⟩
  | .lst ds, v, h => by
    unfold Rep at h ⊢
    obtain ⟨a, xs, r, q, z⟩ := h
    exact ⟨a, xs, r, e.seq q, Same.reps e z⟩
theorem Same.reps {K : PySem.W.Frag} {H H' : Hp} (e : Same H H') : ∀ {ds : List D} {vs : List V}, Reps K H ds vs → Reps K H' ds vs
  | [], vs, h => by unfold Reps at h ⊢; exact h
  | d :: ds, vs, h => by
    unfold Reps at h ⊢
    obtain ⟨x, r, q, p, z⟩ := h
    exact ⟨x, r, q, Same.rep e p, Same.reps e z⟩
end
section
variable {X : Cx}
end
end L2
end
section
set_option Elab.async false
set_option linter.all false
set_option maxRecDepth 100000
set_option maxHeartbeats 4000000
namespace L2
open PySem PySem.Spec PyProof.Rows
/-! ### values as they are read: no addresses -/
inductive U where
  | non | bl (b : Bool) | int (i : Int) | str (x : Str) | tup (xs : List U) | lst (xs : List U) | dct (ks vs : List U) | scr (xs : List U)
instance : Inhabited U := ⟨.non⟩
/-- what comes of a step -/
inductive R (α : Type) where
  | ok (a : α) | exc (c : String) (u : U) | stk
def R.bind {α β : Type} : R α → (α → R β) → R β
  | .ok a, f => f a
  | .exc c u, _ => .exc c u
  | .stk, _ => .stk
abbrev Ev := List (Option U)
/-- what comes of a statement -/
inductive SR where
  | nx (ρ : Ev) | rt (u : U) (ρ : Ev) | bk (ρ : Ev) | ct (ρ : Ev) | exc (c : String) (u : U) | stk
end L2
end
section
set_option Elab.async false
set_option linter.all false
set_option maxRecDepth 100000
set_option maxHeartbeats 4000000
namespace L2
open PySem PySem.Spec PyProof.Rows
open Sem (wp)
noncomputable instance decU : DecidableEq U := fun a b => Classical.propDecidable (a = b)
/-! ### keys: whole numbers, texts, tuples of these, within one another -/
mutual
def KIs (h : Heap) : U → Value → Prop
  | .int i, v => ∃ t, v = .int i t
  | .tup us, v => ∃ a items, v = .ref a ∧ h.IsTuple a items ∧ KIss h us items.toList
  | _, _ => False
def KIss (h : Heap) : List U → List Value → Prop
  | [], vs => vs = []
  | u :: us, vs => ∃ v r, vs = v :: r ∧ KIs h u v ∧ KIss h us r
end
mutual
def hK : U → Int
  | .int i => hashInt i
  | .tup us => reduceHash (Builtin.Tuple.tupleHashOf (hKs us))
  | _ => 0
def hKs : List U → List Int
  | [] => []
  | u :: us => hK u :: hKs us
end
mutual
def drK : U → Nat
  | .tup us => drKs us + 1
  | _ => 1
def drKs : List U → Nat
  | [] => 0
  | u :: us => drK u + drKs us
end
mutual
def dpK : U → Nat
  | .tup us => dpKs us + 1
  | _ => 0
def dpKs : List U → Nat
  | [] => 0
  | u :: us => max (dpK u) (dpKs us)
end
theorem isTup_uniq {h : Heap} {a : Addr} {x y : Array Value} (h1 : h.IsTuple a x) (h2 : h.IsTuple a y) : x = y := by
  obtain ⟨o, e, _, n, d⟩ := h1
  obtain ⟨o', e', _, n', d'⟩ := h2
  rw [e] at e'; cases e'
  rw [d] at d'; cases d'
  rfl
mutual
theorem KIs.inj {h : Heap} : ∀ {x y : U} {v : Value}, KIs h x v → KIs h y v → x = y
  | .int i, y, v, h1, h2 => by
    unfold KIs at h1
    obtain ⟨t, rfl⟩ := h1
    cases y <;> unfold KIs at h2 <;> first | exact h2.elim | skip
    · obtain ⟨u, e⟩ := h2; cases e; rfl
    · obtain ⟨_, _, e, _⟩ := h2; cases e
  | .str i, y, v, h1, h2 => by unfold KIs at h1; exact h1.elim
  | .tup us, y, v, h1, h2 => by
    unfold KIs at h1
    obtain ⟨a, its, rfl, q, z⟩ := h1
    cases y <;> unfold KIs at h2 <;> first | exact h2.elim | skip
    · obtain ⟨u, e⟩ := h2; cases e
    · obtain ⟨a', its', e, q', z'⟩ := h2
      cases e
      have := isTup_uniq q q'
      subst this
      rw [KIss.inj z z']
  | .non, y, v, h1, h2 => by unfold KIs at h1; exact h1.elim
  | .bl _, y, v, h1, h2 => by unfold KIs at h1; exact h1.elim
  | .lst _, y, v, h1, h2 => by unfold KIs at h1; exact h1.elim
  | .dct _ _, y, v, h1, h2 => by unfold KIs at h1; exact h1.elim
  | .scr _, y, v, h1, h2 => by unfold KIs at h1; exact h1.elim
theorem KIss.inj {h : Heap} : ∀ {x y : List U} {vs : List Value}, KIss h x vs → KIss h y vs → x = y
  | [], y, vs, h1, h2 => by
    unfold KIss at h1
    subst h1
    cases y with
    | nil => rfl
    | cons => unfold KIss at h2; obtain ⟨_, _, e, _⟩ := h2; cases e
  | u :: us, y, vs, h1, h2 => by
    unfold KIss at h1
    obtain ⟨v, r, rfl, p, q⟩ := h1
    cases y with
    | nil => unfold KIss at h2; cases h2
    | cons =>
      unfold KIss at h2
      obtain ⟨v', r', e, p', q'⟩ := h2
      cases e
      rw [KIs.inj p p', KIss.inj q q']
end
mutual
theorem KIs.keep {h h' : Heap} (k : ∀ a its, h.IsTuple a its → h'.IsTuple a its) : ∀ {x : U} {v : Value}, KIs h x v → KIs h' x v
  | .int i, v, h1 => by unfold KIs at h1 ⊢; exact h1
  | .str i, v, h1 => by unfold KIs at h1; exact h1.elim
  | .tup us, v, h1 => by
    unfold KIs at h1 ⊢
    obtain ⟨a, its, e, q, z⟩ := h1
    exact ⟨a, its, e, k a its q, KIss.keep k z⟩
  | .non, v, h1 => by unfold KIs at h1; exact h1.elim
  | .bl _, v, h1 => by unfold KIs at h1; exact h1.elim
  | .lst _, v, h1 => by unfold KIs at h1; exact h1.elim
  | .dct _ _, v, h1 => by unfold KIs at h1; exact h1.elim
  | .scr _, v, h1 => by unfold KIs at h1; exact h1.elim
theorem KIss.keep {h h' : Heap} (k : ∀ a its, h.IsTuple a its → h'.IsTuple a its) : ∀ {x : List U} {vs : List Value}, KIss h x vs → KIss h' x vs
  | [], vs, h1 => by unfold KIss at h1 ⊢; exact h1
  | u :: us, vs, h1 => by
    unfold KIss at h1 ⊢
    obtain ⟨v, r, e, p, q⟩ := h1
    exact ⟨v, r, e, KIs.keep k p, KIss.keep k q⟩
end
theorem KIss.length {h : Heap} : ∀ {us : List U} {vs : List Value}, KIss h us vs → us.length = vs.length
  | [], vs, h1 => by unfold KIss at h1; subst h1; rfl
  | u :: us, vs, h1 => by
    unfold KIss at h1
    obtain ⟨v, r, rfl, p, q⟩ := h1
    rw [List.length_cons, List.length_cons, KIss.length q]
theorem KIss.get {h : Heap} : ∀ {us : List U} {vs : List Value} {i : Nat} {u : U} {v : Value}, KIss h us vs → us[i]? = some u → vs[i]? = some v → KIs h u v
  | [], _, _, _, _, _, e, _ => by simp at e
  | w :: us, _, i, u, v, h, e1, e2 => by
    unfold KIss at h
    obtain ⟨x, r, rfl, p, q⟩ := h
    cases i with
    | zero => simp at e1 e2; subst e1 e2; exact p
    | succ i => exact KIss.get q (by simpa using e1) (by simpa using e2)
theorem dpKs_get : ∀ {us : List U} {i : Nat} {u : U}, us[i]? = some u → dpK u ≤ dpKs us
  | [], _, _, e => by simp at e
  | w :: us, i, u, e => by
    unfold dpKs
    cases i with
    | zero => simp at e; subst e; exact Nat.le_max_left _ _
    | succ i => exact Nat.le_trans (dpKs_get (us := us) (by simpa using e)) (Nat.le_max_right _ _)
theorem hKs_append : ∀ (a b : List U), hKs (a ++ b) = hKs a ++ hKs b
  | [], b => by unfold hKs; rfl
  | x :: a, b => by rw [List.cons_append, hKs, hKs, hKs_append a b]; rfl
theorem drKs_append : ∀ (a b : List U), drKs (a ++ b) = drKs a + drKs b
  | [], b => by rw [List.nil_append]; show _ = 0 + _; omega
  | x :: a, b => by rw [List.cons_append, drKs, drKs, drKs_append a b]; omega
section
variable {prog : Program} {w : World}
theorem hash_K : ∀ (n : Nat) (u : U) (v : Value) (A : Around) (E : Value → Shared → Prop) (s : Shared) (Q : Int → Shared → Prop), dpK u ≤ n → A.units + n < cLine → KIs s.heap u v → Q (hK u) { s with toks := s.toks + drK u } →
    wpAny (model prog w) A (pyHash v) Q E s := by
  intro n
  induction n with
  | zero =>
    intro u v A E s Q hd hu hk h
    cases u <;> unfold KIs at hk <;> first | exact hk.elim | skip
    · obtain ⟨t, rfl⟩ := hk; unfold hK drK at h; exact wpAny_pyHash_int h
    · unfold dpK at hd; omega
  | succ n ih =>
    intro u v A E s Q hd hu hk h
    cases u <;> unfold KIs at hk <;> first | exact hk.elim | skip
    · obtain ⟨t, rfl⟩ := hk; unfold hK drK at h; exact wpAny_pyHash_int h
    · rename_i us
      unfold dpK at hd
      obtain ⟨a, items, rfl, ht, hi⟩ := hk
      have hT : s.TypeIs (.ref a) "tuple" := let ⟨o, e, c, _⟩ := ht; ⟨o, e, c⟩
      obtain ⟨o, ho, _, nn, hdat⟩ := ht
      unfold pyHash
      first | unfold pyHashByItsType | skip
      first | refine wpAny_bind (wpAny_cRoomFor_or (.inr (by omega)) ?_) | skip
      refine wpAny_bind (wpAny_specialOf hT F.slot_tuple_hash.lookup ?_)
      show wpAny _ _ (if (some (Value.builtin "tuple.__hash__") == some Value.none) = true then _ else _) Q E s
      rw [if_neg (by rw [beq_builtin_none]; exact Bool.false_ne_true)]
      refine wpAny_bind (wpAny_specialOf hT F.slot_tuple_hash.lookup ?_)
      show wpAny _ _ (callSpecialIfBoundUnlessNone? (.ref a) "__hash__" _ >>= _) Q E s
      refine wpAny_bind (wpAny_callSpecialIfBoundUnlessNone?_slot hT F.slot_tuple_hash (wpAny_call_entry F.slot_tuple_hash hT F.entry_tuple_hash ?_ (F.args_tuple_hash_1 _)))
      show wpAny _ _ (Builtin.Tuple.tupleItemsOf (.ref a) >>= _) _ _ s
      refine wpAny_bind (wpAny_tupleItemsOf ho hdat ?_)
      refine wpAny_bind ?_
      rw [← Array.forIn_toList]
      refine wpAny_forIn_list _
        (fun rest (b : Array Int) s' => ∃ done left, us = done ++ left ∧ KIss s.heap left rest ∧ b.toList = hKs done ∧ s' = { s with toks := s.toks + drKs done })
        _ ?_ ?_ _ _ ⟨[], us, rfl, hi, by unfold hKs; rfl, by unfold drKs; rfl⟩
      · rintro x rest b s' ⟨done, left, rfl, hl, hb, rfl⟩
        cases left with
        | nil => unfold KIss at hl; cases hl
        | cons k ks' =>
          unfold KIss at hl
          obtain ⟨v', r', e, h1, hl'⟩ := hl
          cases e
          have hdk : dpK k ≤ n := by
            have := dpKs_get (us := done ++ k :: ks') (i := done.length) (u := k) (by simp)
            omega
          refine wpAny_bind (ih k x A.in1 E _ _ hdk (by show A.units + 1 + n < cLine; omega) h1 ?_)
          have e2 : hKs (done ++ [k]) = hKs done ++ [hK k] := by rw [hKs_append]; unfold hKs hKs; rfl
          have e3 : drKs (done ++ [k]) = drKs done + drK k := by rw [drKs_append]; show _ + (drK k + drKs []) = _; unfold drKs; omega
          first
            | exact wpAny_pure ⟨done ++ [k], ks', by simp, hl', by simp [hb, e2], by simp [e3, Nat.add_assoc]⟩
            | exact wpAny_bind (wpAny_pure (wpAny_pure ⟨done ++ [k], ks', by simp, hl', by simp [hb, e2], by simp [e3, Nat.add_assoc]⟩))
      · rintro b s' ⟨done, left, rfl, hl, hb, rfl⟩
        cases left with
        | cons k ks' => unfold KIss at hl; obtain ⟨_, _, e, _⟩ := hl; cases e
        | nil =>
          rw [List.append_nil] at h
          show wpAny _ _ (retInt (Builtin.Tuple.tupleHashOf b.toList)) _ _ _
          rw [hb]
          refine wpAny_ret_mkInt ?_
          show wpAny _ _ (if (decide (-(2 : Int) ^ 63 ≤ Builtin.Tuple.tupleHashOf (hKs done)) && decide (Builtin.Tuple.tupleHashOf (hKs done) < 2 ^ 63)) = true then _ else _) Q E _
          unfold hK drK reduceHash at h
          by_cases hr : (decide (-(2 : Int) ^ 63 ≤ Builtin.Tuple.tupleHashOf (hKs done)) && decide (Builtin.Tuple.tupleHashOf (hKs done) < 2 ^ 63)) = true
          · rw [if_pos hr]
            rw [if_pos hr] at h
            exact wpAny_pure (by simpa [Nat.add_assoc] using h)
          · rw [if_neg hr]
            rw [if_neg hr] at h
            exact wpAny_bind (wpAny_rule (wpAny_pure (by simpa [Nat.add_assoc] using h)))
theorem eq_K {s : Shared} : ∀ (n : Nat) (x y : U) (u v : Value) (A : Around), dpK x ≤ n → A.units + n < cLine → KIs s.heap x u → KIs s.heap y v → SeqAt.EqAt A s u v (decide (x = y)) := by
  intro n
  induction n with
  | zero =>
    intro x y u v A hd hu h1 h2
    have hu' : A.units < cLine := by omega
    cases x <;> (try (unfold KIs at h1; exact h1.elim))
    case int i =>
      unfold KIs at h1; obtain ⟨t, rfl⟩ := h1
      cases y <;> (try (unfold KIs at h2; exact h2.elim))
      case int j =>
        unfold KIs at h2; obtain ⟨t', rfl⟩ := h2
        have := SeqAt.EqAt.int_int (A := A) (s := s) i t j t'
        have e : decide (U.int i = U.int j) = (i == j) := by rw [Bool.eq_iff_iff]; simp
        rw [e]; exact this
      case tup us =>
        unfold KIs at h2; obtain ⟨a, its, rfl, ht, _⟩ := h2
        rw [decide_eq_false (by intro z; cases z)]
        exact SeqAt.EqAt.int_tuple i t ht hu'
    case tup us => unfold dpK at hd; omega
  | succ n ih =>
    intro x y u v A hd hu h1 h2
    have hu' : A.units < cLine := by omega
    cases x <;> (try (unfold KIs at h1; exact h1.elim))
    case int i => exact ih _ y u v A (by unfold dpK; omega) (by omega) h1 h2
    case tup us =>
      unfold dpK at hd
      have h1' := h1
      unfold KIs at h1; obtain ⟨a, its, rfl, p1, z1⟩ := h1
      cases y <;> (try (unfold KIs at h2; exact h2.elim))
      case int j =>
        unfold KIs at h2; obtain ⟨t', rfl⟩ := h2
        rw [decide_eq_false (by intro z; cases z)]
        exact SeqAt.EqAt.tuple_int j t' p1 hu'
      case tup ws =>
        have h2' := h2
        unfold KIs at h2; obtain ⟨b, its2, rfl, p2, z2⟩ := h2
        by_cases hab : a = b
        · subst hab
          rw [KIs.inj h1' h2', decide_eq_true rfl]
          exact SeqAt.EqAt.same _
        · refine SeqAt.EqAt.of_refs hab ?_
          have l1 : its.size = us.length := by rw [z1.length, Array.length_toList]
          have l2 : its2.size = ws.length := by rw [z2.length, Array.length_toList]
          have he : ∀ j (g1 : j < its.size) (g2 : j < its2.size), SeqAt.EqAt A.in1 s its[j] its2[j] (decide (us[j]? = ws[j]?)) := fun j g1 g2 => by
            have q1 : us[j]? = some us[j] := List.getElem?_eq_getElem (by omega)
            have q2 : ws[j]? = some ws[j] := List.getElem?_eq_getElem (by omega)
            have y1 : its.toList[j]? = some its[j] := by rw [Array.getElem?_toList]; exact Array.getElem?_eq_getElem g1
            have y2 : its2.toList[j]? = some its2[j] := by rw [Array.getElem?_toList]; exact Array.getElem?_eq_getElem g2
            have e : decide (us[j]? = ws[j]?) = decide (us[j] = ws[j]) := by rw [q1, q2, Bool.eq_iff_iff]; simp
            rw [e]
            refine ih us[j] ws[j] its[j] its2[j] A.in1 ?_ (by show A.units + 1 + n < cLine; omega) (z1.get q1 y1) (z2.get q2 y2)
            have := dpKs_get q1
            omega
          have q := SeqAt.RcAt.tuples (A := A) p1 p2 hu' he
          rw [l1, l2] at q
          have fin : ((List.range (min us.length ws.length)).all (fun j => decide (us[j]? = ws[j]?)) && us.length == ws.length) = decide (U.tup us = U.tup ws) := by
            rw [Bool.eq_iff_iff, Bool.and_eq_true, List.all_eq_true, decide_eq_true_eq]
            constructor
            · rintro ⟨ha, hl⟩
              have hl : us.length = ws.length := by simpa using hl
              congr 1
              refine List.ext_getElem? fun j => ?_
              by_cases hj : j < us.length
              · exact of_decide_eq_true (ha j (List.mem_range.mpr (by omega)))
              · rw [List.getElem?_eq_none_iff.mpr (by omega), List.getElem?_eq_none_iff.mpr (by omega)]
            · intro e
              cases e
              exact ⟨fun j _ => decide_eq_true rfl, by simp⟩
          rw [← fin]
          exact q
theorem quiet_K : ∀ (n : Nat) (x : U) (v : Value) (A : Around) (E : Value → Shared → Prop) (s : Shared) (Q : Bool → Shared → Prop), dpK x ≤ n → KIs s.heap x v → Q true s → wpAny (model prog w) A (eqIsQuiet n v) Q E s := by
  intro n
  induction n with
  | zero =>
    intro x v A E s Q hd hk h
    cases x <;> unfold KIs at hk <;> first | exact hk.elim | skip
    · obtain ⟨t, rfl⟩ := hk; rw [eqIsQuiet_byValue _ rfl]; exact wpAny_pure h
    · unfold dpK at hd; omega
  | succ n ih =>
    intro x v A E s Q hd hk h
    cases x <;> unfold KIs at hk <;> first | exact hk.elim | skip
    · obtain ⟨t, rfl⟩ := hk; rw [eqIsQuiet_byValue _ rfl]; exact wpAny_pure h
    · rename_i us
      unfold dpK at hd
      obtain ⟨a, items, rfl, ht, hi⟩ := hk
      have hT : s.TypeIs (.ref a) "tuple" := let ⟨o, e, c, _⟩ := ht; ⟨o, e, c⟩
      obtain ⟨o, ho, _, nn, hdat⟩ := ht
      unfold eqIsQuiet
      refine wpAny_bind (wpAny_specialOf hT F.slot_tuple_eq.lookup ?_)
      show wpAny _ _ (isInstance (.ref a) (.type "tuple") >>= _) _ _ s
      refine wpAny_bind (wpAny_isInstance hT isSubtype_tuple_tuple ?_)
      simp only [Bool.not_true, Bool.false_eq_true, if_false]
      refine wpAny_bind (wpAny_seqItems ho hdat ?_)
      refine wpAny_bind ?_
      show wpAny _ _ (forIn items _ _) _ _ s
      rw [← Array.forIn_toList]
      refine wpAny_forIn_list _ (fun rest r s' => r.1 = none ∧ s' = s ∧ ∃ done left, us = done ++ left ∧ KIss s.heap left rest) _ ?_ ?_ _ _ ⟨rfl, rfl, [], us, rfl, hi⟩
      · rintro v rest r s' ⟨hr, rfl, done, left, rfl, hl⟩
        cases left with
        | nil => unfold KIss at hl; cases hl
        | cons k ks' =>
          unfold KIss at hl
          obtain ⟨v', r', e, h1, hl'⟩ := hl
          cases e
          have hdk : dpK k ≤ n := by
            have := dpKs_get (us := done ++ k :: ks') (i := done.length) (u := k) (by simp)
            omega
          refine wpAny_bind (ih k v A E _ _ hdk h1 ?_)
          simp only [Bool.not_true, Bool.false_eq_true, if_false]
          exact wpAny_pure ⟨rfl, rfl, done ++ [k], ks', by simp, hl'⟩
      · rintro ⟨r1, r2⟩ s' ⟨hr, rfl, _⟩
        simp only at hr
        subst hr
        exact wpAny_pure h
def TK (h : Heap) (us : List U) (a : Addr) : Prop := dpKs us ≤ 6 ∧ ∃ items, h.IsTuple a items ∧ KIss h us items.toList
theorem TK.is {h : Heap} {us : List U} {a : Addr} (x : TK h us a) : dpK (.tup us) ≤ 7 ∧ KIs h (.tup us) (.ref a) := by
  obtain ⟨l, its, t, z⟩ := x
  exact ⟨by unfold dpK; omega, by unfold KIs; exact ⟨a, its, rfl, t, z⟩⟩
theorem tup_inj {x y : List U} : (U.tup x = U.tup y) ↔ x = y := ⟨fun h => by cases h; rfl, fun h => by rw [h]⟩
noncomputable def nestKind (prog : Program) (w : World) : HeapKind prog w (List U) where
  is := TK
  hash := fun us => hK (.tup us)
  draws := fun us => drK (.tup us)
  room := fun A => A.units + 20 < cLine
  inj := fun hx hy => tup_inj.mp (KIs.inj hx.is.2 hy.is.2)
  keeps := fun {h h' k a d o es ep} x ho hd hs => by
    have kp : ∀ b its, h.IsTuple b its → h'.IsTuple b its := fun b its ⟨o', e, c, n, z⟩ => by
      have hne : b ≠ d := by
        rintro rfl
        obtain rfl : o' = o := Option.some.inj (e.symm.trans ho)
        rw [hd] at z; exact nomatch z
      exact ⟨o', (hs.2 b hne).trans e, c, n, z⟩
    obtain ⟨l, its, t, z⟩ := x
    exact ⟨l, its, kp _ _ t, z.keep kp⟩
  pyHash := fun {A E s k a Q} hu hk h => hash_K 7 (.tup k) (.ref a) A E s Q hk.is.1 (by omega) hk.is.2 h
  eqBool := fun {A E s x y a b Q} hu hx hy h => eq_K 7 (.tup x) (.tup y) (.ref a) (.ref b) A hx.is.1 (by omega) hx.is.2 hy.is.2 prog w E Q (by
    have e : decide (U.tup x = U.tup y) = decide (x = y) := by rw [Bool.eq_iff_iff, decide_eq_true_eq, decide_eq_true_eq]; exact tup_inj
    rw [e]; exact h)
  quiet := fun {A E s k a Q} hk h => quiet_K 8 (.tup k) (.ref a) A E s Q (Nat.le_trans hk.is.1 (by omega)) hk.is.2 h
end
/-! ### a dict whose keys are tuples -/
def PE3 (p : List U × Addr × V) (q : List U × Addr × Value) : Prop := p.1 = q.1 ∧ p.2.1 = q.2.1 ∧ RelV p.2.2 q.2.2
def entZ (e : List U × Addr × Value) : DictEntry := ⟨hK (.tup e.1), .ref e.2.1, e.2.2⟩
def DNphi (a : Addr) (es : List (List U × Addr × V)) (h : Heap) : Prop := (a == sysModules) = false ∧ ∃ o ds ep, ∃ xs : List (List U × Addr × Value), h.get? a = some o ∧ o.ExactDict ∧ o.data = .dict ds ep ∧ Paired PE3 es xs ∧ ds.toList = xs.map entZ
def DN (a : Addr) (es : List (List U × Addr × V)) : HO := .ext (DNphi a es)
mutual
def KH (H : Hp) : U → V → Prop
  | .int i, v => v = .int i
  | .tup us, v => ∃ b ys, v = .ref b ∧ H b = some (.tup ys) ∧ KHs H us ys
  | _, _ => False
def KHs (H : Hp) : List U → List V → Prop
  | [], vs => vs = []
  | u :: us, vs => ∃ v r, vs = v :: r ∧ KH H u v ∧ KHs H us r
end
mutual
theorem KH.to {H H' : Hp} (e : ∀ b ys, H b = some (.tup ys) → H' b = some (.tup ys)) : ∀ {u : U} {v : V}, KH H u v → KH H' u v
  | .int i, v, h => by unfold KH at h ⊢; exact h
  | .tup us, v, h => by
    unfold KH at h ⊢
    obtain ⟨b, ys, r, q, z⟩ := h
    exact ⟨b, ys, r, e b ys q, KHs.to e z⟩
  | .non, v, h => by unfold KH at h; exact h.elim
  | .bl _, v, h => by unfold KH at h; exact h.elim
  | .str _, v, h => by unfold KH at h; exact h.elim
  | .lst _, v, h => by unfold KH at h; exact h.elim
  | .dct _ _, v, h => by unfold KH at h; exact h.elim
  | .scr _, v, h => by unfold KH at h; exact h.elim
theorem KHs.to {H H' : Hp} (e : ∀ b ys, H b = some (.tup ys) → H' b = some (.tup ys)) : ∀ {us : List U} {vs : List V}, KHs H us vs → KHs H' us vs
  | [], vs, h => by unfold KHs at h ⊢; exact h
  | u :: us, vs, h => by
    unfold KHs at h ⊢
    obtain ⟨v, r, q, p, z⟩ := h
    exact ⟨v, r, q, KH.to e p, KHs.to e z⟩
end
section
variable {P : Program} {w : World} {H : Hp} {h : Heap}
mutual
theorem KH.is (ok : HOk P w H h) : ∀ {u : U} {v : V} {x : Value}, KH H u v → RelV v x → KIs h u x
  | .int i, v, x, k, r => by
    unfold KH at k
    subst k
    obtain ⟨t, rfl⟩ := r
    unfold KIs; exact ⟨t, rfl⟩
  | .tup us, v, x, k, r => by
    unfold KH at k
    obtain ⟨b, ys, rfl, q, z⟩ := k
    cases r
    obtain ⟨_, its, rv, it, _⟩ := ok b _ q
    unfold KIs
    exact ⟨b, its.toArray, rfl, it, by simpa using KHs.is ok z rv⟩
  | .non, v, x, k, r => by unfold KH at k; exact k.elim
  | .bl _, v, x, k, r => by unfold KH at k; exact k.elim
  | .str _, v, x, k, r => by unfold KH at k; exact k.elim
  | .lst _, v, x, k, r => by unfold KH at k; exact k.elim
  | .dct _ _, v, x, k, r => by unfold KH at k; exact k.elim
  | .scr _, v, x, k, r => by unfold KH at k; exact k.elim
theorem KHs.is (ok : HOk P w H h) : ∀ {us : List U} {vs : List V} {xs : List Value}, KHs H us vs → Vals vs xs → KIss h us xs
  | [], vs, xs, k, r => by
    unfold KHs at k
    subst k
    cases r
    unfold KIss; rfl
  | u :: us, vs, xs, k, r => by
    unfold KHs at k
    obtain ⟨v, vr, rfl, p, z⟩ := k
    cases r with
    | cons r1 r2 =>
      unfold KIss
      exact ⟨_, _, rfl, KH.is ok p r1, KHs.is ok z r2⟩
end
/-- a tuple that may be a key -/
def KT' (H : Hp) (us : List U) (b : Addr) : Prop := dpKs us ≤ 6 ∧ ∃ ys, H b = some (.tup ys) ∧ KHs H us ys
theorem KT'.tk (ok : HOk P w H h) {us : List U} {b : Addr} (k : KT' H us b) : TK h us b := by
  obtain ⟨l, ys, q, z⟩ := k
  obtain ⟨_, its, rv, it, _⟩ := ok b _ q
  exact ⟨l, its.toArray, it, by simpa using KHs.is ok z rv⟩
theorem KT'.to {H' : Hp} (e : ∀ b ys, H b = some (.tup ys) → H' b = some (.tup ys)) {us : List U} {b : Addr} (k : KT' H us b) : KT' H' us b := by
  obtain ⟨l, ys, q, z⟩ := k
  exact ⟨l, ys, e b ys q, z.to e⟩
/-- a dict of such keys: its entries -/
structure DNat (H : Hp) (a : Addr) (es : List (List U × Addr × V)) : Prop where
  ob : H a = some (DN a es) ∨ (es = [] ∧ H a = some (.dK []))
  nd : (es.map (·.1)).Nodup
  key : ∀ e ∈ es, KT' H e.1 e.2.1
theorem paired_mem {α β : Type} {R : α → β → Prop} : ∀ {xs : List α} {ys : List β} {y : β}, Paired R xs ys → y ∈ ys → ∃ x ∈ xs, R x y
  | _, _, _, .nil, h => by cases h
  | x :: xs, y' :: ys, y, .cons r t, h => by
    rcases List.mem_cons.mp h with e | h
    · subst e; exact ⟨x, List.mem_cons_self, r⟩
    · obtain ⟨x', m, q⟩ := paired_mem t h
      exact ⟨x', List.mem_cons_of_mem _ m, q⟩
theorem paired_fst : ∀ {es : List (List U × Addr × V)} {xs : List (List U × Addr × Value)}, Paired PE3 es xs → es.map (·.1) = xs.map (·.1)
  | _, _, .nil => rfl
  | _ :: _, _ :: _, .cons r t => by rw [List.map_cons, List.map_cons, paired_fst t, r.1]
theorem DNat.of (ok : HOk P w H h) {a : Addr} {es : List (List U × Addr × V)} (d : DNat H a es) : ∃ xs, Paired PE3 es xs ∧ h.DictOfH (nestKind P w) a xs := by
  rcases d.ob with q | ⟨e, q⟩
  · obtain ⟨⟨_, o, ds, ep, xs, h1, h2, h3, h4, h5⟩, _⟩ := ok a _ q
    refine ⟨xs, h4, o, ds, ep, h1, h2, h3, h5, fun x hx => ?_, by rw [← paired_fst h4]; exact d.nd⟩
    obtain ⟨e, he, r⟩ := paired_mem h4 hx
    have := (d.key e he).tk ok
    rw [r.1, r.2.1] at this
    exact this
  · subst e
    obtain ⟨_, _, vs, rel, dd⟩ := ok a _ q
    cases rel
    obtain ⟨o, ds, ep, h1, h2, h3, h4, h5, h6⟩ := dd
    have e0 : ds.toList = [] := by
      generalize ds.toList = l at h5
      cases h5; rfl
    exact ⟨[], .nil, o, ds, ep, h1, h2, h3, by rw [e0]; rfl, (fun x hx => by cases hx), List.nodup_nil⟩
theorem DNat.lo (ok : HOk P w H h) {a : Addr} {es : List (List U × Addr × V)} (d : DNat H a es) : (a == sysModules) = false := by
  rcases d.ob with q | ⟨e, q⟩
  · obtain ⟨⟨l, _⟩, _⟩ := ok a _ q; exact l
  · obtain ⟨_, l, _⟩ := ok a _ q; exact l
/-- the value at a key -/
noncomputable def valN (es : List (List U × Addr × V)) (k : List U) : Option V := (es.find? fun e => decide (e.1 = k)).map (·.2.2)
noncomputable def putN (es : List (List U × Addr × V)) (k : List U) (b : Addr) (v : V) : List (List U × Addr × V) :=
  if (valN es k).isSome then es.map (fun e => if e.1 = k then (e.1, e.2.1, v) else e) else es ++ [(k, b, v)]
theorem valN_rel (k : List U) : ∀ {es : List (List U × Addr × V)} {xs : List (List U × Addr × Value)}, Paired PE3 es xs → RelO (valN es k) ((atKey xs k).map (·.2))
  | _, _, .nil => trivial
  | e :: es, x :: xs, .cons r t => by
    have ih := valN_rel k t
    unfold valN atKey at ih ⊢
    rw [List.find?_cons, List.find?_cons]
    by_cases c : e.1 = k
    · have c' : x.1 = k := by rw [← r.1]; exact c
      rw [decide_eq_true c, decide_eq_true c']
      exact r.2.2
    · have c' : ¬ x.1 = k := by rw [← r.1]; exact c
      rw [decide_eq_false c, decide_eq_false c']
      exact ih
theorem putN_rel (k : List U) {b : Addr} {v : V} {u : Value} (rv : RelV v u) {es : List (List U × Addr × V)} {xs : List (List U × Addr × Value)} (p : Paired PE3 es xs) : Paired PE3 (putN es k b v) (storedH xs k b u) := by
  have e : (valN es k).isSome = (atKey xs k).isSome := by
    have := (valN_rel k p).isSome_eq
    rw [Option.isSome_map] at this
    exact this
  unfold putN storedH
  rw [e]
  split
  · rename_i hh
    clear hh e
    induction p with
    | nil => exact .nil
    | @cons q x es xs r t ih =>
      refine .cons ?_ ih
      unfold putAt
      dsimp only
      by_cases c : q.1 = k
      · have c' : x.1 = k := by rw [← r.1]; exact c
        rw [if_pos c, if_pos c']
        exact ⟨r.1, r.2.1, rv⟩
      · have c' : ¬ x.1 = k := by rw [← r.1]; exact c
        rw [if_neg c, if_neg c']
        exact r
  · rename_i hh
    clear hh e
    induction p with
    | nil => exact .cons ⟨rfl, rfl, rv⟩ .nil
    | cons r t ih => exact .cons r ih
end
section
variable {X : Cx} {pins : List (Addr × Obj)} {σ : St} {H : Hp} {s : Shared} {a b : Addr} {v d : V} {r : Value} {k : List U} {es : List (List U × Addr × V)} {A : Around} {E : Value → Shared → Prop}
theorem n_room (hu : A.units + 64 < cLine) : (nestKind X.prog X.w).room A.in1 := by show A.units + 1 + 20 < cLine; omega
theorem n_getItem {Q : Value → Shared → Prop} (hu : A.units + 64 < cLine) (I : Inv X pins σ H s) (g : DNat H a es) (kb : KT' H k b) (e : valN es k = some v) (h : ∀ w' s', Inv X pins σ H s' → RelV v w' → Q w' s') :
    wpAny (model X.prog X.w) A (getItem (.ref a) (.ref b)) Q E s := by
  obtain ⟨xs, rel, dd⟩ := g.of I.hok
  obtain ⟨w', hw, rw'⟩ := RelO.some_of (v := v) (o := (atKey xs k).map (·.2)) (by rw [← e]; exact valN_rel k rel)
  obtain ⟨p, hp, hp2⟩ := Option.map_eq_some_iff.mp hw
  refine wpAny_getItem_heap (n_room hu) (kb.tk I.hok) dd hp ?_
  rw [hp2]
  exact h w' _ (I.tok _) rw'
theorem n_get2 {Q : Value → Shared → Prop} (hu : A.units + 64 < cLine) (I : Inv X pins σ H s) (g : DNat H a es) (kb : KT' H k b) (rd : RelV d r) (h : ∀ w' s', Inv X pins σ H s' → RelV ((valN es k).getD d) w' → Q w' s') :
    wpAny (model X.prog X.w) A (call (.builtin "dict.get") [.ref a, .ref b, r]) Q E s := by
  obtain ⟨xs, rel, dd⟩ := g.of I.hok
  exact call_meetsIn PySem.F.slot_dict_get dd.typeIs PySem.F.entry_dict_get (PySem.F.args_dict_get_3 _ _ _) (meetsH_dict_get_default (nestKind X.prog X.w) a b (g.lo I.hok) r) ⟨n_room hu, k, xs, kb.tk I.hok, dd, h _ _ (I.tok _) ((valN_rel k rel).getD rd)⟩
theorem DNat.typeIs (I : Inv X pins σ H s) (g : DNat H a es) : s.TypeIs (.ref a) "dict" := by
  obtain ⟨xs, rel, dd⟩ := g.of I.hok
  exact dd.typeIs
theorem DNat.noDict (I : Inv X pins σ H s) (g : DNat H a es) : ∀ b, Value.ref a = .ref b → ∃ ob, s.heap.get? b = some ob ∧ ob.dict = none := fun b q => by
  cases q
  obtain ⟨xs, rel, ob, _, _, h1, h2, _⟩ := g.of I.hok
  exact ⟨ob, h1, h2.2.1⟩
theorem DNat.mut (g : DNat H a es) : Mut (H a) := by
  rcases g.ob with q | ⟨_, q⟩ <;> (rw [q]; exact True.intro)
theorem n_setItem {Q : Unit → Shared → Prop} (hu : A.units + 64 < cLine) (I : Inv X pins σ H s) (g : DNat H a es) (kb : KT' H k b) (hz : es.length ≤ sizeLine) (rv : RelV v r) (h : ∀ s', Inv X pins σ (upd H a (DN a (putN es k b v))) s' → Q () s') :
    wpAny (model X.prog X.w) A (setItem (.ref a) (.ref b) r) Q E s := by
  obtain ⟨xs, rel, dd⟩ := g.of I.hok
  refine wpAny_setItem_heap (hsz := by rw [← Paired.length rel]; exact hz) (n_room hu) (kb.tk I.hok) dd fun h' dd' hs => h _ ?_
  obtain ⟨q, ds, ep, hq, h2, h3, h4, _, h5⟩ := dd'
  refine d_write I g.mut hs ⟨q, hq⟩ ⟨⟨g.lo I.hok, q, ds, ep, _, hq, h2, h3, putN_rel k rv rel, h4⟩, ⟨q, hq⟩, fun g1 g2 ⟨l, o, ds, ep, xs, z1, z2⟩ kp => ⟨l, o, ds, ep, xs, kp _ z1, z2⟩⟩
end
end L2
end
section
set_option Elab.async false
set_option linter.all false
set_option maxRecDepth 100000
set_option maxHeartbeats 4000000
namespace L2
open PySem PySem.Spec PyProof.Rows
def kU : Key → U
  | .inl i => .int i
  | .inr x => .str x
/-- a dict: its keys, its values -/
def DAt (H : Hp) (a : Addr) (ks : List U) (xs : List V) : Prop :=
  (∃ kvs : List (Key × V), H a = some (.dK kvs) ∧ ks = kvs.map (fun p => kU p.1) ∧ xs = kvs.map (·.2)) ∨
  ∃ es : List (List U × Addr × V), es ≠ [] ∧ DNat H a es ∧ ks = es.map (fun p => .tup p.1) ∧ xs = es.map (·.2.2)
abbrev DTop := DAt
theorem DAt.at {H : Hp} {a : Addr} {ks : List U} {xs : List V} (h : DTop H a ks xs) : DAt H a ks xs := h
theorem DNat.ne {H : Hp} {a : Addr} {es : List (List U × Addr × V)} (h : DNat H a es) (n : es ≠ []) : H a = some (DN a es) := by
  rcases h.ob with q | ⟨e, _⟩
  · exact q
  · exact absurd e n
/-- a list that nobody changes: the script -/
def Scr (K : PySem.W.Frag) (H : Hp) (a : Addr) (xs : List V) : Prop := (∃ o, H a = some (.frz o (.lst xs))) ∨
    ∃ (o : Obj) (its : Array Value) (n : Nat), K.lookup a = some o ∧ o.cls = .type "list" ∧ o.dict = none ∧ o.data = .seq its n ∧ its.size ≤ sizeLine ∧ Vals xs its.toList
theorem Scr.sq {K : PySem.W.Frag} {H : Hp} {a : Addr} {xs : List V} (h : Scr K H a xs) : SqL K H a xs := by
  rcases h with ⟨o, h⟩ | h
  · exact .inl (.inr ⟨o, h⟩)
  · exact .inr h
theorem Scr.to {K : PySem.W.Frag} {H H' : Hp} {a : Addr} {xs : List V} (h : Scr K H a xs) (e : ∀ o y, H a = some (.frz o y) → H' a = some (.frz o y)) : Scr K H' a xs := by
  rcases h with ⟨o, h⟩ | h
  · exact .inl ⟨o, e _ _ h⟩
  · exact .inr h
mutual
/-- v is u in H, by no list and dict of A -/
def Rp (K : PySem.W.Frag) (H : Hp) (A : Addr → Prop) : U → V → Prop
  | .non, v => v = .non
  | .bl b, v => v = .bl b
  | .int i, v => v = .int i
  | .str x, v => v = .str x
  | .tup us, v => ∃ a xs, v = .ref a ∧ H a = some (.tup xs) ∧ us.length ≤ sizeLine ∧ Rps K H A us xs
  | .lst us, v => ∃ a xs, v = .ref a ∧ ¬ A a ∧ H a = some (.lst xs) ∧ us.length ≤ sizeLine ∧ Rps K H A us xs
  | .dct ks us, v => ∃ a xs, v = .ref a ∧ ¬ A a ∧ DAt H a ks xs ∧ us.length ≤ sizeLine ∧ Rps K H A us xs
  | .scr us, v => ∃ a xs, v = .ref a ∧ Scr K H a xs ∧ us.length ≤ sizeLine ∧ Rps K H A us xs
def Rps (K : PySem.W.Frag) (H : Hp) (A : Addr → Prop) : List U → List V → Prop
  | [], xs => xs = []
  | u :: us, xs => ∃ x r, xs = x :: r ∧ Rp K H A u x ∧ Rps K H A us r
end
/-- the object at a is u, its parts by nothing of A -/
def Top (K : PySem.W.Frag) (H : Hp) (A : Addr → Prop) : U → Addr → Prop
  | .lst us, a => ∃ xs, H a = some (.lst xs) ∧ us.length ≤ sizeLine ∧ Rps K H A us xs
  | .dct ks us, a => ∃ xs, DTop H a ks xs ∧ us.length ≤ sizeLine ∧ Rps K H A us xs
  | _, _ => False
/-- v is u, whatever it stands at; its parts by nothing of A -/
def Pk (K : PySem.W.Frag) (H : Hp) (A : Addr → Prop) : U → V → Prop
  | .non, v => v = .non
  | .bl b, v => v = .bl b
  | .int i, v => v = .int i
  | .str x, v => v = .str x
  | .tup us, v => ∃ a xs, v = .ref a ∧ H a = some (.tup xs) ∧ us.length ≤ sizeLine ∧ Rps K H A us xs
  | .lst us, v => ∃ a xs, v = .ref a ∧ H a = some (.lst xs) ∧ us.length ≤ sizeLine ∧ Rps K H A us xs
  | .dct ks us, v => ∃ a xs, v = .ref a ∧ DAt H a ks xs ∧ us.length ≤ sizeLine ∧ Rps K H A us xs
  | .scr us, v => ∃ a xs, v = .ref a ∧ Scr K H a xs ∧ us.length ≤ sizeLine ∧ Rps K H A us xs
def Mu : Option HO → Prop
  | some (.lst _) => True
  | some (.dK _) => True
  | some (.dT _) => True
  | some (.ext _) => True
  | _ => False
theorem Mu.ex {o : Option HO} (h : Mu o) : ∃ x, o = .some x := by
  cases o with
  | none => exact h.elim
  | some x => exact ⟨x, rfl⟩
/-- H' has what H has, but at A -/
def Ext (A : Addr → Prop) (H H' : Hp) : Prop := ∀ b o, ¬ A b → H b = some o → H' b = some o
theorem Ext.refl {A : Addr → Prop} {H : Hp} : Ext A H H := fun _ _ _ h => h
theorem Ext.trans {A : Addr → Prop} {H H1 H2 : Hp} (a : Ext A H H1) (b : Ext A H1 H2) : Ext A H H2 := fun c o n h => b c o n (a c o n h)
theorem Ext.same {A : Addr → Prop} {H H' : Hp} (h : Same H H') : Ext A H H' := fun b o _ e => h b o e
section
variable {K : PySem.W.Frag} {H H' : Hp} {A A' : Addr → Prop}
theorem DAt.ex {a : Addr} {ks : List U} {xs : List V} (h : DAt H a ks xs) : ∃ o, H a = some o := by
  rcases h with ⟨k, h, _⟩ | ⟨k, n, h, _⟩
  · exact ⟨_, h⟩
  · exact ⟨_, h.ne n⟩
theorem DAt.to {a : Addr} {ks : List U} {xs : List V} (h : DAt H a ks xs) (e : ∀ o, H a = some o → H' a = some o) (t : ∀ b ys, H b = some (.tup ys) → H' b = some (.tup ys)) : DAt H' a ks xs := by
  rcases h with ⟨k, h, z⟩ | ⟨k, n, h, z⟩
  · exact .inl ⟨k, e _ h, z⟩
  · exact .inr ⟨k, n, ⟨h.ob.imp (e _) (fun q => ⟨q.1, e _ q.2⟩), h.nd, fun y hy => (h.key y hy).to t⟩, z⟩
mutual
theorem Rp.re (m : ∀ b, A b → Mu (H b)) (e : Ext A H H') (n : ∀ b, A' b → A b ∨ H b = none) : ∀ {u : U} {v : V}, Rp K H A u v → Rp K H' A' u v
  | .non, v, h => by unfold Rp at h ⊢; exact h
  | .bl b, v, h => by unfold Rp at h ⊢; exact h
  | .int b, v, h => by unfold Rp at h ⊢; exact h
  | .str b, v, h => by unfold Rp at h ⊢; exact h
  | .tup us, v, h => by
    unfold Rp at h ⊢
    obtain ⟨a, xs, r, q, l, z⟩ := h
    exact ⟨a, xs, r, e a _ (fun z => by have := m a z; rw [q] at this; exact this) q, l, Rps.re m e n z⟩
  | .lst us, v, h => by
    unfold Rp at h ⊢
    obtain ⟨a, xs, r, na, q, l, z⟩ := h
    refine ⟨a, xs, r, fun y => ?_, e a _ na q, l, Rps.re m e n z⟩
    rcases n a y with y | y
    · exact na y
    · rw [q] at y; cases y
  | .scr us, v, h => by
    unfold Rp at h ⊢
    obtain ⟨a, xs, r, q, l, z⟩ := h
    exact ⟨a, xs, r, q.to fun o y w => e a _ (fun z => by have := m a z; rw [w] at this; exact this) w, l, Rps.re m e n z⟩
  | .dct ks us, v, h => by
    unfold Rp at h ⊢
    obtain ⟨a, xs, r, na, q, l, z⟩ := h
    refine ⟨a, xs, r, fun y => ?_, q.to (fun o w => e a o na w) (fun b ys w => e b _ (fun y => by have := m b y; rw [w] at this; exact this) w), l, Rps.re m e n z⟩
    obtain ⟨o, w⟩ := q.ex
    rcases n a y with y | y
    · exact na y
    · rw [w] at y; cases y
theorem Rps.re (m : ∀ b, A b → Mu (H b)) (e : Ext A H H') (n : ∀ b, A' b → A b ∨ H b = none) : ∀ {us : List U} {vs : List V}, Rps K H A us vs → Rps K H' A' us vs
  | [], vs, h => by unfold Rps at h ⊢; exact h
  | u :: us, vs, h => by
    unfold Rps at h ⊢
    obtain ⟨x, r, q, p, z⟩ := h
    exact ⟨x, r, q, Rp.re m e n p, Rps.re m e n z⟩
end
mutual
/-- fewer to avoid -/
theorem Rp.mono (n : ∀ b, A' b → A b) : ∀ {u : U} {v : V}, Rp K H A u v → Rp K H A' u v
  | .non, v, h => by unfold Rp at h ⊢; exact h
  | .bl b, v, h => by unfold Rp at h ⊢; exact h
  | .int b, v, h => by unfold Rp at h ⊢; exact h
  | .str b, v, h => by unfold Rp at h ⊢; exact h
  | .tup us, v, h => by
    unfold Rp at h ⊢
    obtain ⟨a, xs, r, q, l, z⟩ := h
    exact ⟨a, xs, r, q, l, Rps.mono n z⟩
  | .lst us, v, h => by
    unfold Rp at h ⊢
    obtain ⟨a, xs, r, na, q, l, z⟩ := h
    exact ⟨a, xs, r, fun y => na (n a y), q, l, Rps.mono n z⟩
  | .scr us, v, h => by
    unfold Rp at h ⊢
    obtain ⟨a, xs, r, q, l, z⟩ := h
    exact ⟨a, xs, r, q, l, Rps.mono n z⟩
  | .dct ks us, v, h => by
    unfold Rp at h ⊢
    obtain ⟨a, xs, r, na, q, l, z⟩ := h
    exact ⟨a, xs, r, fun y => na (n a y), q, l, Rps.mono n z⟩
theorem Rps.mono (n : ∀ b, A' b → A b) : ∀ {us : List U} {vs : List V}, Rps K H A us vs → Rps K H A' us vs
  | [], vs, h => by unfold Rps at h ⊢; exact h
  | u :: us, vs, h => by
    unfold Rps at h ⊢
    obtain ⟨x, r, q, p, z⟩ := h
    exact ⟨x, r, q, Rp.mono n p, Rps.mono n z⟩
end
mutual
/-- the heap keeps all -/
theorem Rp.same (e : Same H H') : ∀ {u : U} {v : V}, Rp K H A u v → Rp K H' A u v
  | .non, v, h => by unfold Rp at h ⊢; exact h
  | .bl b, v, h => by unfold Rp at h ⊢; exact h
  | .int b, v, h => by unfold Rp at h ⊢; exact h
  | .str b, v, h => by unfold Rp at h ⊢; exact h
  | .tup us, v, h => by
    unfold Rp at h ⊢
    obtain ⟨a, xs, r, q, l, z⟩ := h
    exact ⟨a, xs, r, e a _ q, l, Rps.same e z⟩
  | .lst us, v, h => by
    unfold Rp at h ⊢
    obtain ⟨a, xs, r, na, q, l, z⟩ := h
    exact ⟨a, xs, r, na, e a _ q, l, Rps.same e z⟩
  | .scr us, v, h => by
    unfold Rp at h ⊢
    obtain ⟨a, xs, r, q, l, z⟩ := h
    exact ⟨a, xs, r, q.to fun o y w => e a _ w, l, Rps.same e z⟩
  | .dct ks us, v, h => by
    unfold Rp at h ⊢
    obtain ⟨a, xs, r, na, q, l, z⟩ := h
    exact ⟨a, xs, r, na, q.to (fun o w => e a o w) (fun b ys w => e b _ w), l, Rps.same e z⟩
theorem Rps.same (e : Same H H') : ∀ {us : List U} {vs : List V}, Rps K H A us vs → Rps K H' A us vs
  | [], vs, h => by unfold Rps at h ⊢; exact h
  | u :: us, vs, h => by
    unfold Rps at h ⊢
    obtain ⟨x, r, q, p, z⟩ := h
    exact ⟨x, r, q, Rp.same e p, Rps.same e z⟩
end
theorem Rps.length : ∀ {us : List U} {vs : List V}, Rps K H A us vs → us.length = vs.length
  | [], _, h => by unfold Rps at h; subst h; rfl
  | u :: us, _, h => by
    unfold Rps at h
    obtain ⟨x, r, rfl, _, q⟩ := h
    rw [List.length_cons, List.length_cons, Rps.length q]
theorem Rps.get : ∀ {us : List U} {vs : List V} {i : Nat} {u : U}, Rps K H A us vs → us[i]? = some u → ∃ v, vs[i]? = some v ∧ Rp K H A u v
  | [], _, _, _, _, e => by simp at e
  | w :: us, _, i, u, h, e => by
    unfold Rps at h
    obtain ⟨x, r, rfl, p, q⟩ := h
    cases i with
    | zero => simp at e; subst e; exact ⟨x, by simp, p⟩
    | succ i =>
      obtain ⟨v, a, b⟩ := Rps.get q (i := i) (by simpa using e)
      exact ⟨v, by simpa using a, b⟩
theorem Rps.nil : Rps K H A [] [] := by unfold Rps; rfl
theorem Rps.cons {u : U} {us : List U} {v : V} {vs : List V} (h : Rp K H A u v) (t : Rps K H A us vs) : Rps K H A (u :: us) (v :: vs) := by unfold Rps; exact ⟨v, vs, rfl, h, t⟩
theorem Rps.append : ∀ {us ws : List U} {vs xs : List V}, Rps K H A us vs → Rps K H A ws xs → Rps K H A (us ++ ws) (vs ++ xs)
  | [], ws, vs, xs, h, t => by unfold Rps at h; subst h; exact t
  | u :: us, ws, vs, xs, h, t => by
    unfold Rps at h
    obtain ⟨x, r, rfl, p, q⟩ := h
    exact Rps.cons p (Rps.append q t)
theorem Rps.take : ∀ {us : List U} {vs : List V} (n : Nat), Rps K H A us vs → Rps K H A (us.take n) (vs.take n)
  | [], vs, n, h => by unfold Rps at h; subst h; simp; exact Rps.nil
  | u :: us, vs, 0, h => by simp; exact Rps.nil
  | u :: us, vs, n + 1, h => by
    unfold Rps at h
    obtain ⟨x, r, rfl, p, q⟩ := h
    exact Rps.cons p (Rps.take n q)
theorem Rps.drop : ∀ {us : List U} {vs : List V} (n : Nat), Rps K H A us vs → Rps K H A (us.drop n) (vs.drop n)
  | [], vs, n, h => by unfold Rps at h; subst h; simp; exact Rps.nil
  | u :: us, vs, 0, h => h
  | u :: us, vs, n + 1, h => by
    unfold Rps at h
    obtain ⟨x, r, rfl, p, q⟩ := h
    exact Rps.drop n q
theorem Rps.set : ∀ {us : List U} {vs : List V} (n : Nat) {u : U} {v : V}, Rp K H A u v → Rps K H A us vs → Rps K H A (us.set n u) (vs.set n v)
  | [], vs, n, _, _, _, h => by unfold Rps at h; subst h; simp; exact Rps.nil
  | u :: us, vs, 0, _, _, p', h => by
    unfold Rps at h
    obtain ⟨x, r, rfl, p, q⟩ := h
    exact Rps.cons p' q
  | u :: us, vs, n + 1, _, _, p', h => by
    unfold Rps at h
    obtain ⟨x, r, rfl, p, q⟩ := h
    exact Rps.cons p (Rps.set n p' q)
theorem Rp.pk {u : U} {v : V} (h : Rp K H A u v) : Pk K H A u v := by
  cases u <;> (unfold Rp at h; unfold Pk)
  case lst us => obtain ⟨a, xs, r, na, q⟩ := h; exact ⟨a, xs, r, q⟩
  case dct ks us => obtain ⟨a, xs, r, na, q⟩ := h; exact ⟨a, xs, r, q⟩
  all_goals exact h
theorem Pk.same (e : Same H H') {u : U} {v : V} (h : Pk K H A u v) : Pk K H' A u v := by
  cases u <;> (unfold Pk at h ⊢)
  case tup us => obtain ⟨a, xs, r, q, l, z⟩ := h; exact ⟨a, xs, r, e a _ q, l, z.same e⟩
  case lst us => obtain ⟨a, xs, r, q, l, z⟩ := h; exact ⟨a, xs, r, e a _ q, l, z.same e⟩
  case scr us => obtain ⟨a, xs, r, q, l, z⟩ := h; exact ⟨a, xs, r, q.to fun o y w => e a _ w, l, z.same e⟩
  case dct ks us => obtain ⟨a, xs, r, q, l, z⟩ := h; exact ⟨a, xs, r, q.to (fun o w => e a o w) (fun b ys w => e b _ w), l, z.same e⟩
  all_goals exact h
theorem Top.pk {u : U} {a : Addr} (h : Top K H A u a) : Pk K H A u (.ref a) := by
  cases u <;> (unfold Top at h; unfold Pk)
  case lst us => obtain ⟨xs, q, l, z⟩ := h; exact ⟨a, xs, rfl, q, l, z⟩
  case dct ks us => obtain ⟨xs, q, l, z⟩ := h; exact ⟨a, xs, rfl, q.at, l, z⟩
  all_goals exact h.elim
theorem Top.rp {u : U} {a : Addr} (h : Top K H A u a) (n : ∀ b, A' b → A b) (na : ¬ A' a) : Rp K H A' u (.ref a) := by
  cases u <;> (unfold Top at h; unfold Rp)
  case lst us => obtain ⟨xs, q, l, z⟩ := h; exact ⟨a, xs, rfl, na, q, l, z.mono n⟩
  case dct ks us => obtain ⟨xs, q, l, z⟩ := h; exact ⟨a, xs, rfl, na, q.at, l, z.mono n⟩
  all_goals exact h.elim
theorem Top.re (m : ∀ b, A b → Mu (H b)) (e : Ext A H H') (n : ∀ b, A' b → A b ∨ H b = none) {u : U} {a : Addr} (ea : ∀ o, H a = some o → H' a = some o) (h : Top K H A u a) : Top K H' A' u a := by
  cases u <;> (unfold Top at h ⊢)
  case lst us => obtain ⟨xs, q, l, z⟩ := h; exact ⟨xs, ea _ q, l, z.re m e n⟩
  case dct ks us => obtain ⟨xs, q, l, z⟩ := h; exact ⟨xs, q.to ea (fun b ys w => e b _ (fun y => by have := m b y; rw [w] at this; exact this) w), l, z.re m e n⟩
  all_goals exact h.elim
theorem Top.mu {u : U} {a : Addr} (h : Top K H A u a) : Mu (H a) := by
  cases u <;> (unfold Top at h)
  case lst us => obtain ⟨xs, q, _⟩ := h; rw [q]; trivial
  case dct ks us =>
    obtain ⟨xs, q, _⟩ := h
    rcases q with ⟨k, q, _⟩ | ⟨k, n, q, _⟩
    · rw [q]; trivial
    · rw [q.ne n]; trivial
  all_goals exact h.elim
end
/-! ### a def's slots -/
/-- what a def began with: what is not to be met, what is to stay, the list that it may change -/
structure Pkg where
  A0 : Addr → Prop
  B : Hp
  a0 : Addr
/-- which slots hold lists and dicts of one's own; whether slot 0 is the caller's -/
structure Gm where
  own : List Bool
  io : Bool
def Gm.is (G : Gm) (i : Nat) : Bool := G.own.getD i false
structure Rel (K : PySem.W.Frag) (G : Gm) (Z : Pkg) (A : Addr → Prop) (ρ : Ev) (σ : St) (H : Hp) : Prop where
  slot : ∀ i u, ρ[i]? = some (some u) → ∃ v, σ[i]? = some (some v) ∧ if G.is i = true then (∃ a, v = .ref a ∧ A a ∧ Z.B a = none ∧ (¬ Z.A0 a ∨ (G.io = true ∧ i = 0)) ∧ Top K H A u a) else Rp K H A u v
  dis : ∀ i j u w a, G.is i = true → G.is j = true → i ≠ j → ρ[i]? = some (some u) → ρ[j]? = some (some w) → σ[i]? = some (some (.ref a)) → σ[j]? = some (some (.ref a)) → False
  mu : ∀ a, A a → Mu (H a)
  sup : ∀ a, Z.A0 a → A a
  out : ∀ a, A a → Z.A0 a ∨ Z.B a = none
  bas : ∀ a o, Z.B a = some o → H a = some o
  io0 : G.io = true → σ[0]? = some (some (.ref Z.a0)) ∧ G.is 0 = true
  len : ρ.length = σ.length
section
variable {K : PySem.W.Frag} {H H' : Hp} {A A' : Addr → Prop} {G : Gm} {Z : Pkg} {ρ ρ' : Ev} {σ : St}
/-- the heap grows -/
theorem Rel.same (r : Rel K G Z A ρ σ H) (e : Same H H') : Rel K G Z A ρ σ H' where
  slot := fun i u h => by
    obtain ⟨v, h1, h2⟩ := r.slot i u h
    refine ⟨v, h1, ?_⟩
    by_cases c : G.is i = true
    · rw [if_pos c] at h2 ⊢
      obtain ⟨a, e1, e2, e3, e4, e5⟩ := h2
      exact ⟨a, e1, e2, e3, e4, e5.re r.mu (Ext.same e) (fun b z => .inl z) fun o w => e a o w⟩
    · rw [if_neg c] at h2 ⊢
      exact h2.same e
  dis := r.dis
  mu := fun a h => by
    have m := r.mu a h
    obtain ⟨o, q⟩ := m.ex
    rw [e a o q, ← q]; exact m
  sup := r.sup
  out := r.out
  bas := fun a o h => e a o (r.bas a o h)
  io0 := r.io0
  len := r.len
/-- a new address is met nowhere -/
theorem Rel.add (r : Rel K G Z A ρ σ H) (e : Same H H') {a : Addr} (n : H a = none) (m : Mu (H' a)) : Rel K G Z (fun b => A b ∨ b = a) ρ σ H' where
  slot := fun i u h => by
    have q : ∀ b, (A b ∨ b = a) → A b ∨ H b = none := fun b z => by
      rcases z with z | z
      · exact .inl z
      · subst z; exact .inr n
    obtain ⟨v, h1, h2⟩ := r.slot i u h
    refine ⟨v, h1, ?_⟩
    by_cases c : G.is i = true
    · rw [if_pos c] at h2 ⊢
      obtain ⟨b, e1, e2, e3, e4, e5⟩ := h2
      exact ⟨b, e1, .inl e2, e3, e4, e5.re r.mu (Ext.same e) q fun o w => e b o w⟩
    · rw [if_neg c] at h2 ⊢
      exact h2.re r.mu (Ext.same e) q
  dis := r.dis
  mu := fun b h => by
    rcases h with h | h
    · exact (r.same e).mu b h
    · subst h; exact m
  sup := fun b h => .inl (r.sup b h)
  out := fun b h => by
    rcases h with h | h
    · exact r.out b h
    · subst h
      refine .inr ?_
      cases q : Z.B b with
      | none => rfl
      | some o => rw [r.bas b o q] at n; cases n
  bas := fun a o h => e a o (r.bas a o h)
  io0 := r.io0
  len := r.len
theorem Rel.notA (r : Rel K G Z A ρ σ H) {a : Addr} (n : H a = none) : ¬ A a := fun z => by
  have := r.mu a z
  rw [n] at this; exact this
theorem Rel.notB (r : Rel K G Z A ρ σ H) {a : Addr} (n : H a = none) : Z.B a = none := by
  cases q : Z.B a with
  | none => rfl
  | some o => rw [r.bas a o q] at n; cases n
/-- a slot of its own kind -/
theorem Rel.val (r : Rel K G Z A ρ σ H) {i : Nat} {u : U} (c : G.is i = false) (h : ρ[i]? = some (some u)) : ∃ v, σ[i]? = some (some v) ∧ Rp K H A u v := by
  obtain ⟨v, h1, h2⟩ := r.slot i u h
  rw [if_neg (by rw [c]; exact Bool.false_ne_true)] at h2
  exact ⟨v, h1, h2⟩
theorem Rel.own (r : Rel K G Z A ρ σ H) {i : Nat} {u : U} (c : G.is i = true) (h : ρ[i]? = some (some u)) : ∃ a, σ[i]? = some (some (.ref a)) ∧ A a ∧ Z.B a = none ∧ (¬ Z.A0 a ∨ (G.io = true ∧ i = 0)) ∧ Top K H A u a := by
  obtain ⟨v, h1, h2⟩ := r.slot i u h
  rw [if_pos c] at h2
  obtain ⟨a, rfl, z⟩ := h2
  exact ⟨a, h1, z⟩
end
end L2
end
section
set_option Elab.async false
set_option linter.all false
set_option maxRecDepth 100000
set_option maxHeartbeats 4000000
namespace L2
open PySem PySem.Spec PyProof.Rows
/-- a value: shared, one's own and new, or looked at alone -/
inductive Md where
  | S | O | P
  deriving DecidableEq
def VMe (K : PySem.W.Frag) (G : Gm) (Z : Pkg) (m : Md) (A : Addr → Prop) (ρ : Ev) (σ : St) (H : Hp) (u : U) (v : V) : Prop := match m with
  | .S => Rp K H A u v
  | .P => Pk K H A u v
  | .O => ∃ a, v = .ref a ∧ ¬ A a ∧ Z.B a = none ∧ Rel K G Z (fun b => A b ∨ b = a) ρ σ H ∧ Top K H (fun b => A b ∨ b = a) u a
/-- the same, of a step from H to H' alone -/
def VMf (K : PySem.W.Frag) (m : Md) (A : Addr → Prop) (H H' : Hp) (u : U) (v : V) : Prop := match m with
  | .S => Rp K H' A u v
  | .P => Pk K H' A u v
  | .O => ∃ a, v = .ref a ∧ H a = none ∧ Top K H' (fun b => A b ∨ b = a) u a
def FitE (K : PySem.W.Frag) (G : Gm) (Z : Pkg) (A : Addr → Prop) (b : Bool) (m : Md) (ρ : Ev) (σ : St) (H : Hp) : R (U × Ev) → VK → Prop
  | .ok (u, ρ'), Q => ∀ v H', Rel K G Z A ρ' σ H' → Ext A H H' → (b = false → ρ' = ρ ∧ Same H H') → VMe K G Z m A ρ' σ H' u v → Q v H'
  | _, _ => False
def tD (K : PySem.W.Frag) (G : Gm) (b : Bool) (m : Md) (g : Ev → R (U × Ev)) : TE := fun σ H Q => ∃ Z A ρ, Rel K G Z A ρ σ H ∧ FitE K G Z A b m ρ σ H (g ρ) Q
structure DE (X : Cx) (G : Gm) (e : Expr) (b : Bool) (m : Md) (g : Ev → R (U × Ev)) : Prop where
  un : PE X e (tD X.K G b m g)
def FitT (K : PySem.W.Frag) (G : Gm) (Z : Pkg) (A : Addr → Prop) (b : Bool) (ρ : Ev) (σ : St) (H : Hp) : R (Bool × Ev) → (Bool → Hp → Prop) → Prop
  | .ok (c, ρ'), Q => ∀ H', Rel K G Z A ρ' σ H' → Ext A H H' → (b = false → ρ' = ρ ∧ Same H H') → Q c H'
  | _, _ => False
def tDT (K : PySem.W.Frag) (G : Gm) (b : Bool) (g : Ev → R (Bool × Ev)) : TT := fun σ H Q => ∃ Z A ρ, Rel K G Z A ρ σ H ∧ FitT K G Z A b ρ σ H (g ρ) Q
structure DT (X : Cx) (G : Gm) (e : Expr) (b : Bool) (g : Ev → R (Bool × Ev)) : Prop where
  un : PT X e (tDT X.K G b g)
def Pks (K : PySem.W.Frag) (H : Hp) (A : Addr → Prop) : List U → List V → Prop
  | [], vs => vs = []
  | u :: us, vs => ∃ x r, vs = x :: r ∧ Pk K H A u x ∧ Pks K H A us r
def VMs (K : PySem.W.Frag) (p : Bool) (A : Addr → Prop) (H : Hp) (us : List U) (vs : List V) : Prop := if p = true then Pks K H A us vs else Rps K H A us vs
def FitA (K : PySem.W.Frag) (G : Gm) (Z : Pkg) (A : Addr → Prop) (b p : Bool) (ρ : Ev) (σ : St) (H : Hp) : R (List U × Ev) → (List V → Hp → Prop) → Prop
  | .ok (us, ρ'), Q => ∀ vs H', Rel K G Z A ρ' σ H' → Ext A H H' → (b = false → ρ' = ρ ∧ Same H H') → VMs K p A H' us vs → Q vs H'
  | _, _ => False
def tDA (K : PySem.W.Frag) (G : Gm) (b p : Bool) (g : Ev → R (List U × Ev)) : TA := fun σ H Q => ∃ Z A ρ, Rel K G Z A ρ σ H ∧ FitA K G Z A b p ρ σ H (g ρ) Q
structure DA (X : Cx) (G : Gm) (es : List Expr) (b p : Bool) (g : Ev → R (List U × Ev)) : Prop where
  un : PA X es (tDA X.K G b p g)
section
variable {X : Cx} {e : Expr} {t t' : TE}
theorem PE.to (h : PE X e t) (i : ∀ σ H Q, t' σ H Q → t σ H Q) : PE X e t' := fun pins s σ H Q I q => h pins s σ H Q I (i _ _ _ q)
theorem PT.to {t t' : TT} (h : PT X e t) (i : ∀ σ H Q, t' σ H Q → t σ H Q) : PT X e t' := fun pins s σ H Q I q => h pins s σ H Q I (i _ _ _ q)
theorem PW.to {t t' : TT} (h : PW X e t) (i : ∀ σ H Q, t' σ H Q → t σ H Q) : PW X e t' := fun whole pins s σ H Q I q => h whole pins s σ H Q I (i _ _ _ q)
theorem PA.to {es : List Expr} {t t' : TA} (h : PA X es t) (i : ∀ σ H Q, t' σ H Q → t σ H Q) : PA X es t' := fun pos pins s σ H Q I q => h pos pins s σ H Q I (i _ _ _ q)
theorem PS.to {st : Stmt} {t t' : TS} (h : PS X st t) (i : ∀ D σ H, t' D σ H → t D σ H) : PS X st t' := fun pins s σ H D I q => h pins s σ H D I (i _ _ _ q)
theorem PSs.to {st : List Stmt} {t t' : TS} (h : PSs X st t) (i : ∀ D σ H, t' D σ H → t D σ H) : PSs X st t' := fun pins s σ H D I q => h pins s σ H D I (i _ _ _ q)
theorem PG.to {t t' : TG} (h : PG X e t) (i : ∀ v σ H Q, t' v σ H Q → t v σ H Q) : PG X e t' := fun pins s σ H v u Q I r q => h pins s σ H v u Q I r (i _ _ _ _ q)
end
section
variable {K : PySem.W.Frag} {G : Gm} {Z : Pkg} {A A' : Addr → Prop} {ρ ρ' : Ev} {σ : St} {H H' H2 : Hp} {u : U} {v : V} {m : Md} {b : Bool}
theorem VMe.rp (h : VMe K G Z m A ρ σ H u v) (n : m ≠ .P) : Rp K H A u v := by
  cases m with
  | S => exact h
  | O =>
    obtain ⟨a, rfl, na, _, _, t⟩ := h
    exact t.rp (fun b z => .inl z) na
  | P => exact absurd rfl n
theorem VMe.pk (h : VMe K G Z m A ρ σ H u v) : Pk K H A u v := by
  by_cases c : m = .P
  · subst c; exact h
  · exact (h.rp c).pk
theorem VMf.e (r : Rel K G Z A ρ σ H) (s : Same H H') (h : VMf K m A H H' u v) : VMe K G Z m A ρ σ H' u v := by
  cases m with
  | S => exact h
  | P => exact h
  | O =>
    obtain ⟨a, rfl, n, t⟩ := h
    exact ⟨a, rfl, r.notA n, r.notB n, r.add s n t.mu, t⟩
/-- a value stays while another part is told -/
theorem VMe.later (r : Rel K G Z A ρ σ H) (h : VMe K G Z m A ρ σ H u v) (x : Ext A H H') (s : b = false → ρ' = ρ ∧ Same H H') (c : m = .P → b = false) : Pk K H' A u v := by
  by_cases d : m = .P
  · exact h.pk.same (s (c d)).2
  · exact ((h.rp d).re r.mu x fun b z => .inl z).pk
theorem VMe.laterS (r : Rel K G Z A ρ σ H) (h : VMe K G Z m A ρ σ H u v) (x : Ext A H H') (d : m ≠ .P) : Rp K H' A u v := (h.rp d).re r.mu x fun b z => .inl z
theorem two {b1 b2 : Bool} {ρ ρ1 ρ2 : Ev} {H H1 H2 : Hp} (h1 : b1 = false → ρ1 = ρ ∧ Same H H1) (h2 : b2 = false → ρ2 = ρ1 ∧ Same H1 H2) : (b1 || b2) = false → ρ2 = ρ ∧ Same H H2 := fun h => by
  rw [Bool.or_eq_false_iff] at h
  obtain ⟨a, b⟩ := h1 h.1
  obtain ⟨c, d⟩ := h2 h.2
  exact ⟨c.trans a, b.trans d⟩
theorem two1 {b1 : Bool} {ρ ρ1 : Ev} {H H1 H2 : Hp} (h1 : b1 = false → ρ1 = ρ ∧ Same H H1) (h2 : Same H1 H2) : b1 = false → ρ1 = ρ ∧ Same H H2 := fun h => ⟨(h1 h).1, (h1 h).2.trans h2⟩
end
/-! ### names and constants -/
def gVar (i : Nat) : Ev → R (U × Ev) := fun ρ => match ρ[i]? with
  | some (some u) => .ok (u, ρ)
  | _ => .stk
def gC (u : U) : Ev → R (U × Ev) := fun ρ => .ok (u, ρ)
section
variable {X : Cx} {G : Gm} {e a b c : Expr} {es : List Expr} {pos : Pos} {x : Str}
theorem de_pv {i : Nat} {b : Bool} {m : Md} (h : PE X e (tVar i)) (c : G.is i = false) : DE X G e false .S (gVar i) := by
  refine ⟨h.to fun σ H Q ⟨Z, A, ρ, r, f⟩ => ?_⟩
  unfold gVar at f
  split at f
  · rename_i u hu
    obtain ⟨v, h1, h2⟩ := r.val c hu
    exact ⟨v, h1, f v H r Ext.refl (fun _ => ⟨rfl, Same.refl _⟩) h2⟩
  · exact f.elim
theorem de_v (i : Nat) (hN : X.N[i]? = some x := by rfl) (hv : Vis X.env.scope x := by first | exact Or.inl rfl | exact Or.inr (Or.inl rfl) | exact Or.inr (Or.inr rfl)) (hd : (x == ("__debug__" : Str)) = false := by decide)
    (hcd : (x == ("__classdict__" : Str)) = false := by decide) (c : G.is i = false := by rfl) : DE X G (.Name x pos) false .S (gVar i) := de_pv (b := false) (m := .S) (pe_var hN hv hd hcd) c
theorem de_own (i : Nat) (hN : X.N[i]? = some x := by rfl) (hv : Vis X.env.scope x := by first | exact Or.inl rfl | exact Or.inr (Or.inl rfl) | exact Or.inr (Or.inr rfl)) (hd : (x == ("__debug__" : Str)) = false := by decide)
    (hcd : (x == ("__classdict__" : Str)) = false := by decide) (c : G.is i = true := by rfl) : DE X G (.Name x pos) false .P (gVar i) := by
  refine ⟨(pe_var hN hv hd hcd).to fun σ H Q ⟨Z, A, ρ, r, f⟩ => ?_⟩
  unfold gVar at f
  split at f
  · rename_i u hu
    obtain ⟨a, h1, _, _, _, h2⟩ := r.own c hu
    exact ⟨.ref a, h1, f _ H r Ext.refl (fun _ => ⟨rfl, Same.refl _⟩) h2.pk⟩
  · exact f.elim
theorem de_c {u : U} {v : V} (h : PE X e (tC v)) (r : ∀ K H A, Rp K H A u v) : DE X G e false .S (gC u) := by
  refine ⟨h.to fun σ H Q ⟨Z, A, ρ, q, f⟩ => ?_⟩
  exact f v H q Ext.refl (fun _ => ⟨rfl, Same.refl _⟩) (r _ _ _)
theorem de_int {i j pos} : DE X G (.Constant (.int i) j pos) false .S (gC (.int i)) := de_c pe_int fun _ _ _ => by unfold Rp; rfl
theorem de_bl {i j pos} : DE X G (.Constant (.bool i) j pos) false .S (gC (.bl i)) := de_c pe_bl fun _ _ _ => by unfold Rp; rfl
theorem de_str {i j pos} : DE X G (.Constant (.str i) j pos) false .S (gC (.str i)) := de_c pe_str fun _ _ _ => by unfold Rp; rfl
theorem de_globI {i : Int} {tk : Tok} (hg : Gl X x) (hm : X.mg x = some (.int i tk)) (hd : (x == ("__debug__" : Str)) = false := by decide) : DE X G (.Name x pos) false .S (gC (.int i)) := de_c (v := .int i) (pe_glob hg hm ⟨_, rfl⟩ hd) fun _ _ _ => by unfold Rp; rfl
/-! ### two parts -/
def gOp (p : U → U → R U) (g1 g2 : Ev → R (U × Ev)) : Ev → R (U × Ev) := fun ρ => (g1 ρ).bind fun x => (g2 x.2).bind fun y => (p x.1 y.1).bind fun z => .ok (z, y.2)
def Fit2 (K : PySem.W.Frag) (r : R2) (m : Md) (p : U → U → R U) : Prop := ∀ A H x y u w z Q, Pk K H A u x → Pk K H A w y → (∀ a, A a → Mu (H a)) → p u w = .ok z → (∀ v H', Same H H' → VMf K m A H H' z v → Q v H') → r x y H Q
variable {b1 b2 b3 : Bool} {m1 m2 m3 mr : Md} {g1 g2 g3 : Ev → R (U × Ev)}
theorem op_core {r : R2} {p : U → U → R U} (hp : Fit2 X.K r mr p) (hm : m1 = .P → b2 = false) {σ : St} {H : Hp} {Q : VK} (h : tD X.K G (b1 || b2) mr (gOp p g1 g2) σ H Q) :
    tOp r (tD X.K G b1 m1 g1) (tD X.K G b2 m2 g2) σ H Q := by
  obtain ⟨Z, A, ρ, q, f⟩ := h
  unfold gOp at f
  refine ⟨Z, A, ρ, q, ?_⟩
  cases e1 : g1 ρ with
  | stk => rw [e1] at f; exact f.elim
  | exc => rw [e1] at f; exact f.elim
  | ok x =>
    obtain ⟨u, ρ1⟩ := x
    rw [e1] at f
    intro v1 H1 q1 x1 s1 vm1
    refine ⟨Z, A, ρ1, q1, ?_⟩
    cases e2 : g2 ρ1 with
    | stk => simp only [R.bind, e2] at f; exact f.elim
    | exc => simp only [R.bind, e2] at f; exact f.elim
    | ok y =>
      obtain ⟨w, ρ2⟩ := y
      simp only [R.bind, e2] at f
      intro v2 H2 q2 x2 s2 vm2
      cases e3 : p u w with
      | stk => rw [e3] at f; exact f.elim
      | exc => rw [e3] at f; exact f.elim
      | ok z =>
        rw [e3] at f
        refine hp A H2 v1 v2 u w z Q (vm1.later q1 x2 s2 hm) vm2.pk q2.mu e3 fun v H' sm vm => ?_
        exact f v H' (q2.same sm) ((x1.trans x2).trans (Ext.same sm)) (two1 (two s1 s2) sm) (vm.e q2 sm)
theorem de_op {op : Operator} {r : R2} {p : U → U → R U} (ho : OpR X (binaryOp op) r) (hp : Fit2 X.K r mr p) (ha : DE X G a b1 m1 g1) (hb : DE X G b b2 m2 g2) (hm : m1 = .P → b2 = false := by first | exact fun _ => rfl | exact fun h => nomatch h) :
    DE X G (.BinOp a op b pos) (b1 || b2) mr (gOp p g1 g2) := ⟨(pe_op ho ha.un hb.un).to fun _ _ _ => op_core hp hm⟩
theorem de_cmp {op : CmpOp} {r : R2} {p : U → U → R U} (ho : OpR X (compareOp op) r) (hp : Fit2 X.K r mr p) (ha : DE X G a b1 m1 g1) (hb : DE X G b b2 m2 g2) (hk : behindInMarks op b = false) (hm : m1 = .P → b2 = false := by first | exact fun _ => rfl | exact fun h => nomatch h) :
    DE X G (.Compare a [op] [b] pos) (b1 || b2) mr (gOp p g1 g2) := ⟨(pe_cmpR ho ha.un hb.un hk).to fun _ _ _ => op_core hp hm⟩
theorem de_ix {r : R2} {p : U → U → R U} (ho : IxR X r) (hp : Fit2 X.K r mr p) (ha : DE X G a b1 m1 g1) (hb : DE X G b b2 m2 g2) (hs : PlainIx b) (hm : m1 = .P → b2 = false := by first | exact fun _ => rfl | exact fun h => nomatch h) :
    DE X G (.Subscript a b pos) (b1 || b2) mr (gOp p g1 g2) := ⟨(pe_ix ho ha.un hb.un hs).to fun _ _ _ => op_core hp hm⟩
/-- what is wanted of a truth -/
def gB (g : Ev → R (U × Ev)) : Ev → R (Bool × Ev) := fun ρ => (g ρ).bind fun x => match x.1 with
  | .bl c => .ok (c, x.2)
  | _ => .stk
theorem test_core {g : Ev → R (U × Ev)} {m : Md} {σ : St} {H : Hp} {Q : Bool → Hp → Prop} (h : tDT X.K G b1 (gB g) σ H Q) : tD X.K G b1 m g σ H fun x H' => ∃ k, x = .bl k ∧ Q k H' := by
  obtain ⟨Z, A, ρ, q, f⟩ := h
  refine ⟨Z, A, ρ, q, ?_⟩
  unfold gB at f
  cases e1 : g ρ with
  | stk => rw [e1] at f; exact f.elim
  | exc => rw [e1] at f; exact f.elim
  | ok x =>
    obtain ⟨u, ρ1⟩ := x
    rw [e1] at f
    intro v H1 q1 x1 s1 vm
    cases u with
    | bl c =>
      have e : v = .bl c := by have := vm.pk; unfold Pk at this; exact this
      exact ⟨c, e, f H1 q1 x1 s1⟩
    | _ => exact f.elim
theorem dt_val (h : DE X G e b1 m1 g1) (he : ∀ whole, isTrue e X.env whole = (do let v ← whole; standAt e.pos; holding [v] (truthy v)) := by intro _; rfl) : DT X G e b1 (gB g1) := ⟨(pt_val h.un he).to fun _ _ _ h => test_core h⟩
theorem dt_cmp {op : CmpOp} {r : R2} {p : U → U → R U} (ho : OpR X (compareOp op) r) (hp : Fit2 X.K r mr p) (ha : DE X G a b1 m1 g1) (hb : DE X G b b2 m2 g2) (hk : behindInMarks op b = false) (hm : m1 = .P → b2 = false := by first | exact fun _ => rfl | exact fun h => nomatch h) :
    DT X G (.Compare a [op] [b] pos) (b1 || b2) (gB (gOp p g1 g2)) := ⟨(pt_cmpR ho ha.un hb.un hk).to fun _ _ _ h => op_core hp hm (test_core (m := mr) h)⟩
end
end L2
end
section
set_option Elab.async false
set_option linter.all false
set_option maxRecDepth 100000
set_option maxHeartbeats 4000000
namespace L2
open PySem PySem.Spec PyProof.Rows
section
variable {K : PySem.W.Frag} {G : Gm} {Z : Pkg} {A A' : Addr → Prop} {ρ ρ' : Ev} {σ : St} {H H' : Hp} {b p : Bool} {m : Md} {α : Type}
theorem FitE.bind {x : R α} {k : α → R (U × Ev)} {Q : VK} (f : FitE K G Z A b m ρ σ H (x.bind k) Q) : ∃ a, x = .ok a ∧ FitE K G Z A b m ρ σ H (k a) Q := by
  cases x with
  | ok a => exact ⟨a, rfl, f⟩
  | exc => exact f.elim
  | stk => exact f.elim
theorem FitT.bind {x : R α} {k : α → R (Bool × Ev)} {Q : Bool → Hp → Prop} (f : FitT K G Z A b ρ σ H (x.bind k) Q) : ∃ a, x = .ok a ∧ FitT K G Z A b ρ σ H (k a) Q := by
  cases x with
  | ok a => exact ⟨a, rfl, f⟩
  | exc => exact f.elim
  | stk => exact f.elim
theorem FitA.bind {x : R α} {k : α → R (List U × Ev)} {Q : List V → Hp → Prop} (f : FitA K G Z A b p ρ σ H (x.bind k) Q) : ∃ a, x = .ok a ∧ FitA K G Z A b p ρ σ H (k a) Q := by
  cases x with
  | ok a => exact ⟨a, rfl, f⟩
  | exc => exact f.elim
  | stk => exact f.elim
theorem Pk.bl {c : Bool} {v : V} (h : Pk K H A (.bl c) v) : v = .bl c := by unfold Pk at h; exact h
theorem Pk.int {i : Int} {v : V} (h : Pk K H A (.int i) v) : v = .int i := by unfold Pk at h; exact h
theorem Pk.str {i : Str} {v : V} (h : Pk K H A (.str i) v) : v = .str i := by unfold Pk at h; exact h
theorem rp_bl {c : Bool} : Rp K H A (.bl c) (.bl c) := by unfold Rp; rfl
theorem rp_int {c : Int} : Rp K H A (.int c) (.int c) := by unfold Rp; rfl
theorem VMe.ofS {u : U} {v : V} (h : Rp K H A u v) : VMe K G Z .S A ρ σ H u v := h
theorem rp_non : Rp K H A .non .non := by unfold Rp; rfl
theorem rp_str {c : Str} : Rp K H A (.str c) (.str c) := by unfold Rp; rfl
theorem Rps.pks : ∀ {us : List U} {vs : List V}, Rps K H A us vs → Pks K H A us vs
  | [], _, h => by unfold Rps at h; unfold Pks; exact h
  | u :: us, _, h => by
    unfold Rps at h; unfold Pks
    obtain ⟨x, r, e, z, q⟩ := h
    exact ⟨x, r, e, z.pk, Rps.pks q⟩
end
section
variable {X : Cx} {G : Gm} {e a b c : Expr} {es rest : List Expr} {pos : Pos} {x : Str} {b1 b2 b3 : Bool} {m1 m2 m3 mr : Md} {g1 g2 g3 : Ev → R (U × Ev)} {h1 h2 : Ev → R (Bool × Ev)}
/-! ### truths -/
def hAnd (g1 g2 : Ev → R (Bool × Ev)) : Ev → R (Bool × Ev) := fun ρ => (g1 ρ).bind fun x => if x.1 = true then g2 x.2 else .ok (false, x.2)
def hOr (g1 g2 : Ev → R (Bool × Ev)) : Ev → R (Bool × Ev) := fun ρ => (g1 ρ).bind fun x => if x.1 = true then .ok (true, x.2) else g2 x.2
def hNot (g1 : Ev → R (Bool × Ev)) : Ev → R (Bool × Ev) := fun ρ => (g1 ρ).bind fun x => .ok (!x.1, x.2)
structure DW (X : Cx) (G : Gm) (e : Expr) (b : Bool) (g : Ev → R (Bool × Ev)) : Prop where
  un : PW X e (tDT X.K G b g)
theorem DW.dt (h : DW X G e b1 h1) : DT X G e b1 h1 := ⟨PW.pt h.un⟩
theorem or_core {σ : St} {H : Hp} {Q : Bool → Hp → Prop} (h : tDT X.K G (b1 || b2) (hOr h1 h2) σ H Q) : tOr (tDT X.K G b1 h1) (tDT X.K G b2 h2) σ H Q := by
  obtain ⟨Z, A, ρ, q, f⟩ := h
  obtain ⟨⟨k, ρ1⟩, e1, f⟩ := f.bind
  refine ⟨Z, A, ρ, q, ?_⟩
  rw [e1]
  intro H1 q1 x1 s1
  cases k with
  | false =>
    rw [if_neg Bool.false_ne_true] at f ⊢
    refine ⟨Z, A, ρ1, q1, ?_⟩
    dsimp only at f
    cases e2 : h2 ρ1 with
    | ok y => rw [e2] at f; exact fun H2 q2 x2 s2 => f H2 q2 (x1.trans x2) (two s1 s2)
    | exc => rw [e2] at f; exact f.elim
    | stk => rw [e2] at f; exact f.elim
  | true =>
    rw [if_pos rfl] at f ⊢
    exact f H1 q1 x1 fun z => s1 (Bool.or_eq_false_iff.mp z).1
theorem dw_or1 (ha : DT X G a b1 h1) : DW X G (.BoolOp .Or [a] pos) b1 h1 := ⟨pw_or1 ha.un⟩
theorem dw_or (ha : DT X G a b1 h1) (hb : DW X G (.BoolOp .Or (b :: rest) pos) b2 h2) : DW X G (.BoolOp .Or (a :: b :: rest) pos) (b1 || b2) (hOr h1 h2) := ⟨(pw_or ha.un hb.un).to fun _ _ _ => or_core⟩
theorem dt_not (ha : DT X G a b1 h1) : DT X G (.UnaryOp .Not a pos) b1 (hNot h1) := ⟨(pt_not ha.un).to fun σ H Q h => by
  obtain ⟨Z, A, ρ, q, f⟩ := h
  obtain ⟨⟨k, ρ1⟩, e1, f⟩ := f.bind
  refine ⟨Z, A, ρ, q, ?_⟩
  rw [e1]
  exact fun H1 q1 x1 s1 => f H1 q1 x1 s1⟩
def gAnd (g1 g2 : Ev → R (U × Ev)) : Ev → R (U × Ev) := fun ρ => (gB g1 ρ).bind fun x => if x.1 = true then g2 x.2 else .ok (.bl false, x.2)
def gOr (g1 g2 : Ev → R (U × Ev)) : Ev → R (U × Ev) := fun ρ => (gB g1 ρ).bind fun x => if x.1 = true then .ok (.bl true, x.2) else g2 x.2
def gNot (g1 : Ev → R (U × Ev)) : Ev → R (U × Ev) := fun ρ => (gB g1 ρ).bind fun x => .ok (.bl (!x.1), x.2)
theorem gB_ok {g : Ev → R (U × Ev)} {ρ ρ1 : Ev} {k : Bool} (h : gB g ρ = .ok (k, ρ1)) : g ρ = .ok (.bl k, ρ1) := by
  unfold gB at h
  cases e : g ρ with
  | ok y =>
    obtain ⟨u, ρ2⟩ := y
    rw [e] at h
    cases u <;> simp [R.bind] at h
    obtain ⟨rfl, rfl⟩ := h; rfl
  | exc => rw [e] at h; simp [R.bind] at h
  | stk => rw [e] at h; simp [R.bind] at h
theorem de_and (hn : m2 ≠ .P := by decide) (ha : DE X G a b1 m1 g1) (hb : DE X G (.BoolOp .And (b :: rest) pos) b2 m2 g2) : DE X G (.BoolOp .And (a :: b :: rest) pos) (b1 || b2) .S (gAnd g1 g2) := ⟨(pe_and ha.un hb.un).to fun σ H Q h => by
  obtain ⟨Z, A, ρ, q, f⟩ := h
  obtain ⟨⟨k, ρ1⟩, e1, f⟩ := f.bind
  refine ⟨Z, A, ρ, q, ?_⟩
  rw [gB_ok e1]
  intro v H1 q1 x1 s1 vm
  refine ⟨k, vm.pk.bl, ?_⟩
  cases k with
  | true =>
    rw [if_pos rfl] at f ⊢
    refine ⟨Z, A, ρ1, q1, ?_⟩
    dsimp only at f
    cases e2 : g2 ρ1 with
    | ok y => rw [e2] at f; exact fun v2 H2 q2 x2 s2 vm2 => f v2 H2 q2 (x1.trans x2) (two s1 s2) (vm2.rp hn)
    | exc => rw [e2] at f; exact f.elim
    | stk => rw [e2] at f; exact f.elim
  | false =>
    rw [if_neg Bool.false_ne_true] at f ⊢
    exact f _ H1 q1 x1 (fun z => s1 (Bool.or_eq_false_iff.mp z).1) (VMe.ofS rp_bl)⟩
theorem de_one {op} (ha : DE X G a b1 m1 g1) : DE X G (.BoolOp op [a] pos) b1 m1 g1 := ⟨pe_one ha.un⟩
def gIf (h : Ev → R (Bool × Ev)) (g1 g2 : Ev → R (U × Ev)) : Ev → R (U × Ev) := fun ρ => (h ρ).bind fun x => if x.1 = true then g1 x.2 else g2 x.2
theorem de_ifExp (hn1 : m1 ≠ .P := by decide) (hn2 : m2 ≠ .P := by decide) (hc : DT X G c b1 h1) (ha : DE X G a b2 m1 g1) (hb : DE X G b b3 m2 g2) : DE X G (.IfExp c a b pos) (b1 || (b2 || b3)) .S (gIf h1 g1 g2) := ⟨(pe_ifExp hc.un ha.un hb.un).to fun σ H Q h => by
  obtain ⟨Z, A, ρ, q, f⟩ := h
  obtain ⟨⟨k, ρ1⟩, e1, f⟩ := f.bind
  refine ⟨Z, A, ρ, q, ?_⟩
  rw [e1]
  intro H1 q1 x1 s1
  cases k with
  | true =>
    rw [if_pos rfl] at f ⊢
    refine ⟨Z, A, ρ1, q1, ?_⟩
    dsimp only at f
    cases e2 : g1 ρ1 with
    | ok y => rw [e2] at f; exact fun v2 H2 q2 x2 s2 vm2 => f v2 H2 q2 (x1.trans x2) (two s1 fun z => s2 (Bool.or_eq_false_iff.mp z).1) (vm2.rp hn1)
    | exc => rw [e2] at f; exact f.elim
    | stk => rw [e2] at f; exact f.elim
  | false =>
    rw [if_neg Bool.false_ne_true] at f ⊢
    refine ⟨Z, A, ρ1, q1, ?_⟩
    dsimp only at f
    cases e2 : g2 ρ1 with
    | ok y => rw [e2] at f; exact fun v2 H2 q2 x2 s2 vm2 => f v2 H2 q2 (x1.trans x2) (two s1 fun z => s2 (Bool.or_eq_false_iff.mp z).2) (vm2.rp hn2)
    | exc => rw [e2] at f; exact f.elim
    | stk => rw [e2] at f; exact f.elim⟩
/-! ### a chain of two comparisons -/
def gChain (p p' : U → U → R U) (g1 g2 g3 : Ev → R (U × Ev)) : Ev → R (U × Ev) := fun ρ => (g1 ρ).bind fun x => (g2 x.2).bind fun y => (p x.1 y.1).bind fun z => match z with
  | .bl k => if k = true then (g3 y.2).bind fun w => (p' y.1 w.1).bind fun z' => .ok (z', w.2) else .ok (.bl false, y.2)
  | _ => .stk
/-! ### one part -/
def gUn (p : U → R U) (g : Ev → R (U × Ev)) : Ev → R (U × Ev) := fun ρ => (g ρ).bind fun x => (p x.1).bind fun z => .ok (z, x.2)
/-! ### arguments -/
def aNil : Ev → R (List U × Ev) := fun ρ => .ok ([], ρ)
def aCons (g : Ev → R (U × Ev)) (ga : Ev → R (List U × Ev)) : Ev → R (List U × Ev) := fun ρ => (g ρ).bind fun x => (ga x.2).bind fun y => .ok (x.1 :: y.1, y.2)
variable {ga : Ev → R (List U × Ev)} {p : Bool}
theorem da_nil : DA X G [] false p aNil := ⟨pa_nil.to fun σ H Q ⟨Z, A, ρ, q, f⟩ => f [] H q Ext.refl (fun _ => ⟨rfl, Same.refl _⟩) (by unfold VMs; split; exact rfl; exact Rps.nil)⟩
theorem da_cons (ha : DE X G e b1 m1 g1) (hr : DA X G es b2 p ga) (hm : m1 = .P → (p = true ∧ b2 = false) := by first | exact fun _ => ⟨rfl, rfl⟩ | exact fun h => nomatch h)
    (hs : starEach (e :: es) X.env = (false, eval e X.env) :: starEach es X.env := by rfl) : DA X G (e :: es) (b1 || b2) p (aCons g1 ga) := ⟨(pa_cons ha.un hr.un hs).to fun σ H Q h => by
  obtain ⟨Z, A, ρ, q, f⟩ := h
  obtain ⟨⟨u, ρ1⟩, e1, f⟩ := f.bind
  obtain ⟨⟨us, ρ2⟩, e2, f⟩ := f.bind
  refine ⟨Z, A, ρ, q, ?_⟩
  rw [e1]
  intro v1 H1 q1 x1 s1 vm1
  refine ⟨Z, A, ρ1, q1, ?_⟩
  dsimp only at e2
  rw [e2]
  intro vs H2 q2 x2 s2 vm2
  refine f (v1 :: vs) H2 q2 (x1.trans x2) (two s1 s2) ?_
  unfold VMs at vm2 ⊢
  cases p with
  | true =>
    rw [if_pos rfl] at vm2 ⊢
    exact ⟨v1, vs, rfl, vm1.later q1 x2 s2 (fun z => (hm z).2), vm2⟩
  | false =>
    rw [if_neg Bool.false_ne_true] at vm2 ⊢
    exact Rps.cons (vm1.laterS q1 x2 fun z => Bool.false_ne_true (hm z).1) vm2⟩
theorem VMs.pks {K : PySem.W.Frag} {A : Addr → Prop} {H : Hp} {us : List U} {vs : List V} (h : VMs K p A H us vs) : Pks K H A us vs := by
  unfold VMs at h
  cases p with
  | true => rw [if_pos rfl] at h; exact h
  | false => rw [if_neg Bool.false_ne_true] at h; exact h.pks
theorem VMs.rps {K : PySem.W.Frag} {A : Addr → Prop} {H : Hp} {us : List U} {vs : List V} (h : VMs K false A H us vs) : Rps K H A us vs := by
  unfold VMs at h
  rw [if_neg Bool.false_ne_true] at h; exact h
/-! ### displays -/
def gTupD (ga : Ev → R (List U × Ev)) : Ev → R (U × Ev) := fun ρ => (ga ρ).bind fun x => if x.1.length ≤ sizeLine then .ok (.tup x.1, x.2) else .stk
def gLstD (ga : Ev → R (List U × Ev)) : Ev → R (U × Ev) := fun ρ => (ga ρ).bind fun x => if x.1.length ≤ sizeLine then .ok (.lst x.1, x.2) else .stk
theorem upd_S {H : Hp} {p : Addr} (h : H p = none) (o : HO) : Same H (upd H p o) := fun b u q => by rw [upd_ne (ne_of_none q h)]; exact q
theorem rp_newtup {K : PySem.W.Frag} {H : Hp} {A : Addr → Prop} {us : List U} {vs : List V} {a : Addr} (h : Rps K H A us vs) (n : H a = none) (l : us.length ≤ sizeLine) : Rp K (upd H a (.tup vs)) A (.tup us) (.ref a) := by
  unfold Rp
  exact ⟨a, vs, rfl, upd_same, l, h.same (upd_S n _)⟩
theorem top_newlst {K : PySem.W.Frag} {H : Hp} {A : Addr → Prop} {us : List U} {vs : List V} {a : Addr} (m : ∀ b, A b → Mu (H b)) (h : Rps K H A us vs) (n : H a = none) (l : us.length ≤ sizeLine) : Top K (upd H a (.lst vs)) (fun b => A b ∨ b = a) (.lst us) a :=
  ⟨vs, upd_same, l, h.re m (Ext.same (upd_S n _)) fun b z => by
    rcases z with z | z
    · exact .inl z
    · subst z; exact .inr n⟩
theorem de_tup {x1} (h : DA X G es b1 false ga) : DE X G (.Tuple es x1 pos) b1 .S (gTupD ga) := ⟨(pe_tup h.un).to fun σ H Q h => by
  obtain ⟨Z, A, ρ, q, f⟩ := h
  obtain ⟨⟨us, ρ1⟩, e1, f⟩ := f.bind
  refine ⟨Z, A, ρ, q, ?_⟩
  rw [e1]
  intro vs H1 q1 x1 s1 vm1
  dsimp only at f
  split at f
  · rename_i l
    refine ⟨by rw [← vm1.rps.length]; exact l, fun a n => ?_⟩
    exact f _ _ (q1.same (upd_S n _)) (x1.trans (Ext.same (upd_S n _))) (two1 s1 (upd_S n _)) (VMe.ofS (rp_newtup vm1.rps n l))
  · exact f.elim⟩
theorem de_lst (h : DA X G es b1 false ga) : DE X G (.List es pos) b1 .O (gLstD ga) := ⟨(pe_lst h.un).to fun σ H Q h => by
  obtain ⟨Z, A, ρ, q, f⟩ := h
  obtain ⟨⟨us, ρ1⟩, e1, f⟩ := f.bind
  refine ⟨Z, A, ρ, q, ?_⟩
  rw [e1]
  intro vs H1 q1 x1 s1 vm1
  dsimp only at f
  split at f
  · rename_i l
    refine ⟨by rw [← vm1.rps.length]; exact l, fun a n => ?_⟩
    exact f _ _ (q1.same (upd_S n _)) (x1.trans (Ext.same (upd_S n _))) (two1 s1 (upd_S n _)) (VMf.e q1 (upd_S n _) ⟨a, rfl, n, top_newlst q1.mu vm1.rps n l⟩)
  · exact f.elim⟩
/-! ### calls of Python's own -/
def gCB (p : List U → R U) (ga : Ev → R (List U × Ev)) : Ev → R (U × Ev) := fun ρ => (ga ρ).bind fun x => (p x.1).bind fun z => .ok (z, x.2)
def FitC (K : PySem.W.Frag) (r : List V → Hp → VK → Prop) (m : Md) (p : List U → R U) : Prop := ∀ A H vs us z Q, Pks K H A us vs → (∀ a, A a → Mu (H a)) → p us = .ok z → (∀ v H', Same H H' → VMf K m A H H' z v → Q v H') → r vs H Q
theorem cb_core {r : List V → Hp → VK → Prop} {f : List U → R U} (hp : FitC X.K r mr f) {σ : St} {H : Hp} {Q : VK} (h : tD X.K G b1 mr (gCB f ga) σ H Q) : tCB r (tDA X.K G b1 p ga) σ H Q := by
  obtain ⟨Z, A, ρ, q, f⟩ := h
  obtain ⟨⟨us, ρ1⟩, e1, f⟩ := f.bind
  obtain ⟨z, e2, f⟩ := f.bind
  refine ⟨Z, A, ρ, q, ?_⟩
  rw [e1]
  intro vs H1 q1 x1 s1 vm1
  exact hp A H1 vs us z Q vm1.pks q1.mu e2 fun v H' sm vm => f v H' (q1.same sm) (x1.trans (Ext.same sm)) (two1 s1 sm) (vm.e q1 sm)
theorem de_callB {id : String} {p1 : Pos} {r : List V → Hp → VK → Prop} {f : List U → R U} (hc : CallR X (.builtin id) r) (hp : FitC X.K r mr f) (hg : Gl X x) (hm : X.mg x = none) (hv : bootBuiltins x = some (.builtin id)) (ha : DA X G (e :: es) b1 true ga) (hn : x ≠ "__name__" := by decide) (hdb : (x == ("__debug__" : Str)) = false := by decide)
    (he : starEach (e :: es) X.env = (false, eval e X.env) :: starEach es X.env := by rfl) (hpl : (backTo pos (starEach es X.env)).any (·.1) = false := by rfl) : DE X G (.Call (.Name x p1) (e :: es) [] pos) b1 mr (gCB f ga) := ⟨(pe_callB hc hg hm hv ha.un hn hdb he hpl).to fun _ _ _ => cb_core hp⟩
theorem de_callTy {T : String} {p1 : Pos} {r : List V → Hp → VK → Prop} {f : List U → R U} (hc : CallR X (.type T) r) (hp : FitC X.K r mr f) (hg : Gl X x) (hm : X.mg x = none) (hv : bootBuiltins x = some (.type T)) (ha : DA X G (e :: es) b1 true ga) (hn : x ≠ "__name__" := by decide) (hdb : (x == ("__debug__" : Str)) = false := by decide)
    (he : starEach (e :: es) X.env = (false, eval e X.env) :: starEach es X.env := by rfl) (hpl : (backTo pos (starEach es X.env)).any (·.1) = false := by rfl) : DE X G (.Call (.Name x p1) (e :: es) [] pos) b1 mr (gCB f ga) := ⟨(pe_callTy hc hg hm hv ha.un hn hdb he hpl).to fun _ _ _ => cb_core hp⟩
end
end L2
end
section
set_option Elab.async false
set_option linter.all false
set_option maxRecDepth 100000
set_option maxHeartbeats 4000000
namespace L2
open PySem PySem.Spec PyProof.Rows
section
variable {K : PySem.W.Frag} {G : Gm} {Z : Pkg} {A A' : Addr → Prop} {ρ ρ' : Ev} {σ : St} {H H' : Hp} {b p : Bool} {m : Md} {α : Type}
theorem Top.mono (n : ∀ b, A' b → A b) {u : U} {a : Addr} (h : Top K H A u a) : Top K H A' u a := by
  cases u <;> (unfold Top at h ⊢)
  case lst us => obtain ⟨xs, q, l, z⟩ := h; exact ⟨xs, q, l, z.mono n⟩
  case dct ks us => obtain ⟨xs, q, l, z⟩ := h; exact ⟨xs, q, l, z.mono n⟩
  all_goals exact h.elim
theorem set_get {α : Type} {l : List (Option α)} {i j : Nat} {x : Option α} {y : α} (h : (l.set i x)[j]? = some (some y)) : (i = j ∧ x = some y) ∨ (i ≠ j ∧ l[j]? = some (some y)) := by
  by_cases e : i = j
  · subst e
    rw [List.getElem?_set_self'] at h
    refine .inl ⟨rfl, ?_⟩
    cases q : l[i]? with
    | none => rw [q] at h; cases h
    | some w => rw [q] at h; exact Option.some.inj h
  · rw [List.getElem?_set_ne e] at h
    exact .inr ⟨e, h⟩
theorem set_put {α : Type} {l l' : List (Option α)} {i : Nat} {x : α} {β : Type} {k : List (Option β)} {y : Option β} {z : β} (hl : k.length = l.length) (h : (k.set i y)[i]? = some (some z)) : (l.set i (some x))[i]? = some (some x) := by
  have : i < l.length := by
    have := (List.getElem?_eq_some_iff.mp h).1
    rw [List.length_set] at this; omega
  rw [List.getElem?_set_self this]
/-- a slot of the shared kind is given a value -/
theorem Rel.set (r : Rel K G Z A ρ σ H) {i : Nat} {u : U} {v : V} (c : G.is i = false) (h : Rp K H A u v) : Rel K G Z A (ρ.set i (some u)) (σ.set i (some v)) H where
  slot := fun j w hj => by
    rcases set_get hj with ⟨rfl, e⟩ | ⟨ne, e⟩
    · cases e
      refine ⟨v, set_put (l' := σ) r.len hj, ?_⟩
      rw [if_neg (by rw [c]; exact Bool.false_ne_true)]; exact h
    · rw [List.getElem?_set_ne ne]
      exact r.slot j w e
  dis := fun j k w w' a cj ck ne hj hk sj sk => by
    rcases set_get hj with ⟨rfl, _⟩ | ⟨n1, e1⟩
    · rw [c] at cj; cases cj
    · rcases set_get hk with ⟨rfl, _⟩ | ⟨n2, e2⟩
      · rw [c] at ck; cases ck
      · rw [List.getElem?_set_ne n1] at sj
        rw [List.getElem?_set_ne n2] at sk
        exact r.dis j k w w' a cj ck ne e1 e2 sj sk
  mu := r.mu
  sup := r.sup
  out := r.out
  bas := r.bas
  io0 := fun h0 => by
    obtain ⟨a, b⟩ := r.io0 h0
    refine ⟨?_, b⟩
    have : i ≠ 0 := fun z => by subst z; rw [b] at c; cases c
    rw [List.getElem?_set_ne this]; exact a
  len := by rw [List.length_set, List.length_set]; exact r.len
/-- a slot of one's own is given a new thing -/
theorem Rel.setO (r : Rel K G Z A ρ σ H) {i : Nat} {u : U} {a : Addr} (c : G.is i = true) (hi : G.io = true → i ≠ 0) (na : ¬ A a) (nb : Z.B a = none) (r' : Rel K G Z (fun b => A b ∨ b = a) ρ σ H) (h : Top K H (fun b => A b ∨ b = a) u a) :
    Rel K G Z (fun b => A b ∨ b = a) (ρ.set i (some u)) (σ.set i (some (.ref a))) H where
  slot := fun j w hj => by
    rcases set_get hj with ⟨rfl, e⟩ | ⟨ne, e⟩
    · cases e
      refine ⟨.ref a, set_put (l' := σ) r.len hj, ?_⟩
      rw [if_pos c]; exact ⟨a, rfl, .inr rfl, nb, .inl fun z => na (r.sup a z), h⟩
    · rw [List.getElem?_set_ne ne]
      exact r'.slot j w e
  dis := fun j k w w' b cj ck ne hj hk sj sk => by
    have key : ∀ k w', G.is k = true → i ≠ k → ρ[k]? = some (some w') → σ[k]? ≠ some (some (.ref a)) := fun k w' ck _ e q => by
      obtain ⟨b, h1, h2, _⟩ := r.own ck e
      rw [h1] at q; cases q; exact na h2
    rcases set_get hj with ⟨rfl, e1⟩ | ⟨n1, e1⟩
    · rcases set_get hk with ⟨rfl, _⟩ | ⟨n2, e2⟩
      · exact ne rfl
      · rw [set_put (l' := σ) r.len hj] at sj
        cases sj
        rw [List.getElem?_set_ne n2] at sk
        exact key k w' ck n2 e2 sk
    · rcases set_get hk with ⟨rfl, e2⟩ | ⟨n2, e2⟩
      · rw [set_put (l' := σ) r.len hk] at sk
        cases sk
        rw [List.getElem?_set_ne n1] at sj
        exact key j w cj n1 e1 sj
      · rw [List.getElem?_set_ne n1] at sj
        rw [List.getElem?_set_ne n2] at sk
        exact r.dis j k w w' b cj ck ne e1 e2 sj sk
  mu := r'.mu
  sup := r'.sup
  out := r'.out
  bas := r'.bas
  io0 := fun h0 => by
    obtain ⟨a, b⟩ := r.io0 h0
    exact ⟨by rw [List.getElem?_set_ne (hi h0)]; exact a, b⟩
  len := by rw [List.length_set, List.length_set]; exact r.len
/-- the thing of a slot of one's own is changed -/
theorem Rel.put (r : Rel K G Z A ρ σ H) {i : Nat} {u w : U} {a : Addr} (c : G.is i = true) (h : ρ[i]? = some (some u)) (ha : σ[i]? = some (some (.ref a))) (e : ∀ b o, b ≠ a → H b = some o → H' b = some o) (t : Top K H' A w a) :
    Rel K G Z A (ρ.set i (some w)) σ H' := by
  obtain ⟨a', h1, h2, h3, h4, h5⟩ := r.own c h
  rw [ha] at h1; cases h1
  have x : Ext A H H' := fun b o nb z => e b o (fun q => nb (q ▸ h2)) z
  exact {
    slot := fun j y hj => by
      rcases set_get hj with ⟨rfl, q⟩ | ⟨ne, q⟩
      · cases q
        refine ⟨.ref a, ha, ?_⟩
        rw [if_pos c]
        exact ⟨a, rfl, h2, h3, h4, t⟩
      · obtain ⟨v, s1, s2⟩ := r.slot j y q
        refine ⟨v, s1, ?_⟩
        by_cases cj : G.is j = true
        · rw [if_pos cj] at s2 ⊢
          obtain ⟨b, e1, e2, e3, e4, e5⟩ := s2
          refine ⟨b, e1, e2, e3, e4, e5.re r.mu x (fun b z => .inl z) fun o z => e b o (fun q' => ?_) z⟩
          subst q' e1
          exact r.dis i j u y b c cj ne h q ha s1
        · rw [if_neg cj] at s2 ⊢
          exact s2.re r.mu x fun b z => .inl z
    dis := fun j k y y' b cj ck ne hj hk sj sk => by
      have f : ∀ j y, (ρ.set i (some w))[j]? = some (some y) → ∃ y', ρ[j]? = some (some y') := fun j y hj => by
        rcases set_get hj with ⟨rfl, q⟩ | ⟨ne, q⟩
        · exact ⟨u, h⟩
        · exact ⟨y, q⟩
      obtain ⟨y1, hj⟩ := f j y hj
      obtain ⟨y2, hk⟩ := f k y' hk
      exact r.dis j k y1 y2 b cj ck ne hj hk sj sk
    mu := fun b z => by
      by_cases q : b = a
      · subst q; exact t.mu
      · have m := r.mu b z
        obtain ⟨o, z⟩ := m.ex
        rw [e b o q z, ← z]; exact m
    sup := r.sup
    out := r.out
    bas := fun b o z => e b o (fun q => by subst q; rw [h3] at z; cases z) (r.bas b o z)
    io0 := r.io0
    len := by rw [List.length_set]; exact r.len }
end
/-! ### a def's promise -/
def FitF (K : PySem.W.Frag) (m : Md) (A : Addr → Prop) (H : Hp) : R U → VK → Prop
  | .ok u, Q => ∀ v H', Same H H' → VMf K m A H H' u v → Q v H'
  | _, _ => False
def fnN {α : Type} (n : Nat) (g : List U → R α) (us : List U) : R α := if us.length = n then g us else .stk
def spD (K : PySem.W.Frag) (n : Nat) (f : List U → R U) (m : Md) : Sp := fun vs H Q _ => ∃ us A, Rps K H A us vs ∧ (∀ a, A a → Mu (H a)) ∧ FitF K m A H (fnN n f us) Q
def spI (K : PySem.W.Frag) (n : Nat) (f : List U → R (U × U)) : Sp := fun vs H Q _ => ∃ u0 us a0 vs' A, vs = .ref a0 :: vs' ∧ A a0 ∧ Top K H A u0 a0 ∧ Rps K H A us vs' ∧ (∀ a, A a → Mu (H a)) ∧ match fnN n f (u0 :: us) with
  | .ok (u, w) => ∀ v H', (∀ b o, b ≠ a0 → H b = some o → H' b = some o) → Top K H' A w a0 → Rp K H' A u v → Q v H'
  | _ => False
section
variable {X : Cx} {G : Gm} {e a b c : Expr} {es rest : List Expr} {pos p1 : Pos} {x : Str} {b1 b2 b3 : Bool} {m1 m2 m3 mr : Md} {g1 g2 g3 : Ev → R (U × Ev)} {h1 h2 : Ev → R (Bool × Ev)} {ga : Ev → R (List U × Ev)} {k : Nat} {ps : List Str}
def gCF (n : Nat) (f : List U → R U) (ga : Ev → R (List U × Ev)) : Ev → R (U × Ev) := fun ρ => (ga ρ).bind fun x => (fnN n f x.1).bind fun z => .ok (z, x.2)
theorem de_callF {n : Nat} {f : List U → R U} (F : Fn X.prog X.w X.K X.mg X.base x k ps (spD X.K n f mr)) (hr : Room k X.A) (ha : DA X G (e :: es) b1 false ga) (hg : Gl X x := by rfl) (hdb : (x == ("__debug__" : Str)) = false := by decide)
    (he : starEach (e :: es) X.env = (false, eval e X.env) :: starEach es X.env := by rfl) (hpl : (backTo pos (starEach es X.env)).any (·.1) = false := by rfl) : DE X G (.Call (.Name x p1) (e :: es) [] pos) b1 mr (gCF n f ga) := ⟨(pe_callF F hr ha.un hg hdb he hpl).to fun σ H Q h => by
  obtain ⟨Z, A, ρ, q, f⟩ := h
  obtain ⟨⟨us, ρ1⟩, e1, f⟩ := f.bind
  obtain ⟨z, e2, f⟩ := f.bind
  refine ⟨Z, A, ρ, q, ?_⟩
  rw [e1]
  intro vs H1 q1 x1 s1 vm1
  show spD _ _ _ _ _ _ _ _
  rw [List.append_nil]
  refine ⟨us, A, vm1.rps, q1.mu, ?_⟩
  dsimp only at e2
  rw [e2]
  exact fun v H' sm vm => f v H' (q1.same sm) (x1.trans (Ext.same sm)) (two1 s1 sm) (vm.e q1 sm)⟩
/-- f(state, ..): the slot's list is changed -/
def live (ρ : Ev) (i : Nat) : Bool := match ρ[i]? with
  | some (some _) => true
  | _ => false
theorem live_ex {ρ : Ev} {i : Nat} (h : live ρ i = true) : ∃ u, ρ[i]? = some (some u) := by
  unfold live at h
  split at h
  · rename_i u hu; exact ⟨u, hu⟩
  · cases h
def gCI (n i : Nat) (f : List U → R (U × U)) (ga : Ev → R (List U × Ev)) : Ev → R (U × Ev) := fun ρ => if live ρ i = true then (ga ρ).bind fun x => match x.2[i]? with
  | some (some u0) => (fnN n f (u0 :: x.1)).bind fun z => .ok (z.1, x.2.set i (some z.2))
  | _ => .stk
  else .stk
theorem de_callI {n i : Nat} {y : Str} {p2 : Pos} {f : List U → R (U × U)} (F : Fn X.prog X.w X.K X.mg X.base x k ps (spI X.K n f)) (hr : Room k X.A) (ha : DA X G es b1 false ga) (hN : X.N[i]? = some y := by rfl) (hv : Vis X.env.scope y := by first | exact Or.inl rfl | exact Or.inr (Or.inl rfl) | exact Or.inr (Or.inr rfl)) (c : G.is i = true := by rfl)
    (hd : (y == ("__debug__" : Str)) = false := by decide) (hcd : (y == ("__classdict__" : Str)) = false := by decide)
    (hs : starEach (.Name y p2 :: es) X.env = (false, eval (.Name y p2) X.env) :: starEach es X.env := by rfl) (hg : Gl X x := by rfl) (hdb : (x == ("__debug__" : Str)) = false := by decide)
    (hpl : (backTo pos (starEach es X.env)).any (·.1) = false := by rfl) : DE X G (.Call (.Name x p1) (.Name y p2 :: es) [] pos) true .S (gCI n i f ga) := ⟨(pe_callF F hr (pa_cons (pe_var hN hv hd hcd) ha.un hs) hg hdb hs hpl).to fun σ H Q h => by
  obtain ⟨Z, A, ρ, q, f⟩ := h
  unfold gCI at f
  split at f
  · rename_i hl
    obtain ⟨u00, hu0⟩ := live_ex hl
    obtain ⟨a0, h0, _⟩ := q.own c hu0
    obtain ⟨⟨us, ρ1⟩, e1, f⟩ := f.bind
    dsimp only at f
    split at f
    · rename_i u0 hu
      obtain ⟨⟨z, w⟩, e2, f⟩ := f.bind
      refine ⟨.ref a0, h0, Z, A, ρ, q, ?_⟩
      rw [e1]
      intro vs H1 q1 x1 s1 vm1
      obtain ⟨a0', k1, k2, _, _, k3⟩ := q1.own c hu
      rw [h0] at k1; cases k1
      show spI _ _ _ _ _ _ _
      rw [List.append_nil]
      refine ⟨u0, us, a0, vs, A, rfl, k2, k3, vm1.rps, q1.mu, ?_⟩
      rw [e2]
      intro v H' em tp rp
      exact f v H' (q1.put c hu h0 em tp) (x1.trans fun b o nb z => em b o (fun y => nb (y ▸ k2)) z) (fun z => nomatch z) rp
    · exact f.elim
  · exact f.elim⟩
/-! ### a method that changes the list of a slot -/
def FitM (K : PySem.W.Frag) (T : String) (r : V → List V → Hp → VK → Prop) (p : U → List U → R (U × U)) : Prop := ∀ A H a u vs us z w Q, Top K H A u a → A a → Rps K H A us vs → (∀ a, A a → Mu (H a)) → p u us = .ok (z, w) →
  (∀ v H', (∀ b o, b ≠ a → H b = some o → H' b = some o) → Top K H' A w a → Rp K H' A z v → Q v H') → r (.ref a) vs H Q
def isTy : U → String → Bool
  | .lst _, T => T == "list"
  | _, _ => false
theorem ty_top {K : PySem.W.Frag} {H : Hp} {A : Addr → Prop} {u : U} {a : Addr} {T : String} (h : Top K H A u a) (t : isTy u T = true) : tyV K T (.ref a) H := by
  cases u <;> (unfold isTy at t; unfold Top at h)
  case lst us =>
    obtain ⟨xs, q, _⟩ := h
    exact .inl ⟨by simpa using t, xs, .inl (.inl q)⟩
  all_goals cases t
def gM (T : String) (i : Nat) (p : U → List U → R (U × U)) (ga : Ev → R (List U × Ev)) : Ev → R (U × Ev) := fun ρ => match ρ[i]? with
  | some (some u1) => if isTy u1 T = true then (ga ρ).bind fun x => match x.2[i]? with
    | some (some u0) => (p u0 x.1).bind fun z => .ok (z.1, x.2.set i (some z.2))
    | _ => .stk
    else .stk
  | _ => .stk
theorem mut_core {T : String} {i : Nat} {r : V → List V → Hp → VK → Prop} {p : U → List U → R (U × U)} (hp : FitM X.K T r p) (c : G.is i = true) {σ : St} {H : Hp} {Q : VK} (h : tD X.K G true .S (gM T i p ga) σ H Q) :
    tBM X.K T r (tVar i) (tDA X.K G b1 false ga) σ H Q := by
  obtain ⟨Z, A, ρ, q, f⟩ := h
  unfold gM at f
  split at f
  · rename_i u1 hu1
    split at f
    · rename_i ht
      obtain ⟨a0, h0, _, _, _, t0⟩ := q.own c hu1
      obtain ⟨⟨us, ρ1⟩, e1, f⟩ := f.bind
      dsimp only at f
      split at f
      · rename_i u0 hu
        obtain ⟨⟨z, w⟩, e2, f⟩ := f.bind
        refine ⟨.ref a0, h0, ty_top t0 ht, Z, A, ρ, q, ?_⟩
        rw [e1]
        intro vs H1 q1 x1 s1 vm1
        obtain ⟨a0', k1, k2, _, _, k3⟩ := q1.own c hu
        rw [h0] at k1; cases k1
        exact hp A H1 a0 u0 vs us z w Q k3 k2 vm1.rps q1.mu e2 fun v H' em tp rp => f v H' (q1.put c hu h0 em tp) (x1.trans fun b o nb z => em b o (fun y => nb (y ▸ k2)) z) (fun z => nomatch z) rp
      · exact f.elim
    · exact f.elim
  · exact f.elim
theorem de_mut {T id : String} {i : Nat} {y name : Str} {p2 apos : Pos} {r : V → List V → Hp → VK → Prop} {p : U → List U → R (U × U)} (pa : PlainAttrs T) (slot : Slot T name id) (hty : typeOf (.builtin id) = pure (.type "method_descriptor")) (hm : MtR X id r) (hp : FitM X.K T r p)
    (ha : DA X G (e :: es) b1 false ga) (hN : X.N[i]? = some y := by rfl) (hv : Vis X.env.scope y := by first | exact Or.inl rfl | exact Or.inr (Or.inl rfl) | exact Or.inr (Or.inr rfl)) (c : G.is i = true := by rfl)
    (hd : (y == ("__debug__" : Str)) = false := by decide) (hcd : (y == ("__classdict__" : Str)) = false := by decide)
    (hbase : attributeBase (.Name y p2) name X.env (eval (.Name y p2) X.env) = eval (.Name y p2) X.env := by rfl)
    (hfew : ((backTo pos (starEach (e :: es) X.env)).all (fun x => !x.1) && (backToKw pos (keywordEach [] X.env)).all (fun x => x.1.isSome)
      && decide ((e :: es).length + ([] : List Keyword).length + (if ([] : List Keyword).isEmpty then 0 else 1) < 30)) = true := by rfl)
    (hline : (apos.endLine == pos.line) = true := by rfl) (hs : starEach (e :: es) X.env = (false, eval e X.env) :: starEach es X.env := by rfl) (hplain : (backTo pos (starEach es X.env)).any (·.1) = false := by rfl) :
    DE X G (.Call (.Attribute (.Name y p2) name apos) (e :: es) [] pos) true .S (gM T i p ga) := ⟨(pe_bm pa slot hty hm (pe_var hN hv hd hcd) ha.un hbase hfew hline hs hplain).to fun _ _ _ => mut_core hp c⟩
/-! ### slices -/
def FitSl (K : PySem.W.Frag) (r : V → Option Int → Option Int → Hp → VK → Prop) (m : Md) (p : U → Option Int → Option Int → R U) : Prop := ∀ A H x u lo hi z Q, Pk K H A u x → (∀ a, A a → Mu (H a)) → p u lo hi = .ok z → (∀ v H', Same H H' → VMf K m A H H' z v → Q v H') → r x lo hi H Q
/-- a part of a slice -/
def FitO (K : PySem.W.Frag) (G : Gm) (Z : Pkg) (A : Addr → Prop) (b : Bool) (ρ : Ev) (σ : St) (H : Hp) : R (Option Int × Ev) → (Option Int → Hp → Prop) → Prop
  | .ok (c, ρ'), Q => ∀ H', Rel K G Z A ρ' σ H' → Ext A H H' → (b = false → ρ' = ρ ∧ Same H H') → Q c H'
  | _, _ => False
def tDO (K : PySem.W.Frag) (G : Gm) (b : Bool) (g : Ev → R (Option Int × Ev)) : TO := fun σ H Q => ∃ Z A ρ, Rel K G Z A ρ σ H ∧ FitO K G Z A b ρ σ H (g ρ) Q
structure DO (X : Cx) (G : Gm) (e : Option Expr) (b : Bool) (g : Ev → R (Option Int × Ev)) : Prop where
  un : PO X e (tDO X.K G b g)
def oNone : Ev → R (Option Int × Ev) := fun ρ => .ok (none, ρ)
def oSome (g : Ev → R (U × Ev)) : Ev → R (Option Int × Ev) := fun ρ => (g ρ).bind fun x => match x.1 with
  | .int i => .ok (some i, x.2)
  | _ => .stk
theorem PO.to {e : Option Expr} {t t' : TO} (h : PO X e t) (i : ∀ σ H Q, t' σ H Q → t σ H Q) : PO X e t' := fun pins s σ H Q I q => h pins s σ H Q I (i _ _ _ q)
theorem do_none : DO X G none false oNone := ⟨po_none.to fun σ H Q ⟨Z, A, ρ, q, f⟩ => f H q Ext.refl fun _ => ⟨rfl, Same.refl _⟩⟩
theorem do_some (h : DE X G e b1 m1 g1) : DO X G (some e) b1 (oSome g1) := ⟨(po_some h.un).to fun σ H Q ⟨Z, A, ρ, q, f⟩ => by
  refine ⟨Z, A, ρ, q, ?_⟩
  unfold oSome at f
  cases e1 : g1 ρ with
  | stk => rw [e1] at f; exact f.elim
  | exc => rw [e1] at f; exact f.elim
  | ok x =>
    obtain ⟨u, ρ1⟩ := x
    rw [e1] at f
    intro v H1 q1 x1 s1 vm
    cases u with
    | int c => exact ⟨c, vm.pk.int, f H1 q1 x1 s1⟩
    | _ => exact f.elim⟩
def gSl (p : U → Option Int → Option Int → R U) (g : Ev → R (U × Ev)) (lo hi : Ev → R (Option Int × Ev)) : Ev → R (U × Ev) := fun ρ => (g ρ).bind fun x => (lo x.2).bind fun l => (hi l.2).bind fun h => (p x.1 l.1 h.1).bind fun z => .ok (z, h.2)
theorem de_slice {r : V → Option Int → Option Int → Hp → VK → Prop} {p : U → Option Int → Option Int → R U} {lo hi : Option Expr} {p2 : Pos} {gl gh : Ev → R (Option Int × Ev)} (hr : SlR X r) (hp : FitSl X.K r mr p) (he : DE X G e b1 m1 g1) (hl : DO X G lo b2 gl) (hu : DO X G hi b3 gh)
    (hm : m1 = .P → (b2 || b3) = false := by first | exact fun _ => rfl | exact fun h => nomatch h) : DE X G (.Subscript e (.Slice lo hi none p2) pos) (b1 || (b2 || b3)) mr (gSl p g1 gl gh) := ⟨(pe_slice hr he.un hl.un hu.un).to fun σ H Q h => by
  obtain ⟨Z, A, ρ, q, f⟩ := h
  obtain ⟨⟨u, ρ1⟩, e1, f⟩ := f.bind
  obtain ⟨⟨l, ρ2⟩, e2, f⟩ := f.bind
  obtain ⟨⟨h, ρ3⟩, e3, f⟩ := f.bind
  obtain ⟨z, e4, f⟩ := f.bind
  dsimp only at e2 e3 e4 f
  refine ⟨Z, A, ρ, q, ?_⟩
  rw [e1]
  intro v1 H1 q1 x1 s1 vm1
  refine ⟨Z, A, ρ1, q1, ?_⟩
  rw [e2]
  intro H2 q2 x2 s2
  refine ⟨Z, A, ρ2, q2, ?_⟩
  rw [e3]
  intro H3 q3 x3 s3
  exact hp A H3 v1 u l h z Q (vm1.later q1 (x2.trans x3) (two s2 s3) hm) q3.mu e4 fun v H' sm vm => f v H' (q3.same sm) ((x1.trans (x2.trans x3)).trans (Ext.same sm)) (two1 (two s1 (two s2 s3)) sm) (vm.e q3 sm)⟩
end
end L2
end
section
set_option Elab.async false
set_option linter.all false
set_option maxRecDepth 100000
set_option maxHeartbeats 4000000
namespace L2
open PySem PySem.Spec PyProof.Rows
/-! ### targets -/
def tDG (K : PySem.W.Frag) (G : Gm) (sg : U → Ev → R Ev) : TG := fun v σ H Q => ∃ Z A ρ u, Rel K G Z A ρ σ H ∧ Rp K H A u v ∧ match sg u ρ with
  | .ok ρ' => ∀ σ', Rel K G Z A ρ' σ' H → (∀ i, G.is i = true → σ'[i]? = σ[i]?) → Q σ' H
  | _ => False
structure DG (X : Cx) (G : Gm) (tg : Expr) (sg : U → Ev → R Ev) : Prop where
  un : PG X tg (tDG X.K G sg)
def tDGs (K : PySem.W.Frag) (G : Gm) (sg : List U → Ev → R Ev) : TGs := fun vs σ H Q => ∃ Z A ρ us, Rel K G Z A ρ σ H ∧ Rps K H A us vs ∧ match sg us ρ with
  | .ok ρ' => ∀ σ', Rel K G Z A ρ' σ' H → (∀ i, G.is i = true → σ'[i]? = σ[i]?) → Q σ' H
  | _ => False
structure DGs (X : Cx) (G : Gm) (tgs : List Expr) (sg : List U → Ev → R Ev) : Prop where
  un : PGs X tgs (tDGs X.K G sg)
def sgN (i : Nat) : U → Ev → R Ev := fun u ρ => .ok (ρ.set i (some u))
def sgNil : List U → Ev → R Ev := fun us ρ => match us with
  | [] => .ok ρ
  | _ => .stk
def sgCons (s : U → Ev → R Ev) (t : List U → Ev → R Ev) : List U → Ev → R Ev := fun us ρ => match us with
  | u :: r => (s u ρ).bind fun ρ1 => t r ρ1
  | _ => .stk
def sgTup (n : Nat) (t : List U → Ev → R Ev) : U → Ev → R Ev := fun u ρ => match u with
  | .tup us => if us.length = n then t us ρ else .stk
  | _ => .stk
section
variable {X : Cx} {G : Gm} {pos : Pos} {x : Str}
theorem PGs.to {es : List Expr} {t t' : TGs} (h : PGs X es t) (i : ∀ v σ H Q, t' v σ H Q → t v σ H Q) : PGs X es t' := fun pins s σ H v u Q I r q => h pins s σ H v u Q I r (i _ _ _ _ q)
theorem dg_name {i : Nat} (hN : X.N.Nodup) (hi : X.N[i]? = some x := by rfl) (hx : Loc X.env.scope x := by first | exact Or.inl rfl | exact Or.inr rfl) (c : G.is i = false := by rfl) (hf : X.fn x = true ∨ X.env.scope.names.lookup x = some .local := by first | exact .inl rfl | exact .inr rfl | assumption) : DG X G (.Name x pos) (sgN i) := ⟨(pg_name hN hi hx hf).to fun v σ H Q ⟨Z, A, ρ, u, q, r, f⟩ => f _ (q.set c r) fun j cj => by
    have : i ≠ j := fun z => by subst z; rw [c] at cj; cases cj
    rw [List.getElem?_set_ne this]⟩
theorem dgs_nil : DGs X G [] sgNil := ⟨pgs_nil.to fun vs σ H Q ⟨Z, A, ρ, us, q, r, f⟩ => by
  unfold sgNil at f
  cases us with
  | nil => unfold Rps at r; exact ⟨r, f σ q fun _ _ => rfl⟩
  | cons => exact f.elim⟩
theorem dgs_cons {e : Expr} {es : List Expr} {s : U → Ev → R Ev} {t : List U → Ev → R Ev} (h1 : DG X G e s) (h2 : DGs X G es t)
    (hs : (assignEach (e :: es) X.env).map (·.2) = assign e X.env :: (assignEach es X.env).map (·.2) := by rfl) : DGs X G (e :: es) (sgCons s t) := ⟨(pgs_cons h1.un h2.un hs).to fun vs σ H Q ⟨Z, A, ρ, us, q, r, f⟩ => by
  unfold sgCons at f
  cases us with
  | nil => exact f.elim
  | cons u us =>
    unfold Rps at r
    obtain ⟨v, vr, rfl, r1, r2⟩ := r
    dsimp only at f
    refine ⟨v, vr, rfl, Z, A, ρ, u, q, r1, ?_⟩
    cases e1 : s u ρ with
    | ok ρ1 =>
      rw [e1] at f
      simp only [R.bind] at f
      intro σ1 q1 o1
      refine ⟨Z, A, ρ1, us, q1, r2, ?_⟩
      cases e2 : t us ρ1 with
      | ok ρ2 => rw [e2] at f; exact fun σ2 q2 o2 => f σ2 q2 fun i c => (o2 i c).trans (o1 i c)
      | exc => rw [e2] at f; exact f.elim
      | stk => rw [e2] at f; exact f.elim
    | exc => rw [e1] at f; exact f.elim
    | stk => rw [e1] at f; exact f.elim⟩
theorem dg_tup {es : List Expr} {k : Nat} {t : List U → Ev → R Ev} {n : Nat} (hc : X.calm = true) (h : DGs X G es t)
    (hn : (assignEach es X.env).length = n := by rfl) (hst : (assignEach es X.env).findIdx? (·.1) = none := by rfl) : DG X G (.Tuple es k pos) (sgTup n t) := ⟨(pg_tup hc h.un hn hst).to fun v σ H Q ⟨Z, A, ρ, u, q, r, f⟩ => by
  unfold sgTup at f
  cases u with
  | tup us =>
    unfold Rp at r
    obtain ⟨a, xs, rfl, sq, l, rs⟩ := r
    dsimp only at f
    by_cases hl : us.length = n
    · rw [if_pos hl] at f
      exact ⟨a, xs, rfl, SqT.of sq, by rw [← rs.length]; exact hl, Z, A, ρ, us, q, rs, f⟩
    · rw [if_neg hl] at f; exact f.elim
  | _ => exact f.elim⟩
end
/-! ### statements -/
def VMr (K : PySem.W.Frag) (Z : Pkg) (m : Md) (H : Hp) (u : U) (v : V) : Prop := match m with
  | .S => Rp K H Z.A0 u v
  | .O => ∃ a, v = .ref a ∧ Z.B a = none ∧ ¬ Z.A0 a ∧ Top K H (fun b => Z.A0 b ∨ b = a) u a
  | .P => False
def FitS (K : PySem.W.Frag) (G : Gm) (Z : Pkg) (m : Md) : SR → Ends → Prop
  | .nx ρ', D => ∀ A' σ' H', Rel K G Z A' ρ' σ' H' → D.nx σ' H'
  | .bk ρ', D => ∀ A' σ' H', Rel K G Z A' ρ' σ' H' → D.bk σ' H'
  | .ct ρ', D => ∀ A' σ' H', Rel K G Z A' ρ' σ' H' → D.ct σ' H'
  | .rt u ρ', D => ∀ A' σ' H' v, Rel K G Z A' ρ' σ' H' → VMr K Z m H' u v → D.rt v H'
  | _, _ => False
def tDS (K : PySem.W.Frag) (G : Gm) (m : Md) (g : Ev → SR) : TS := fun D σ H => ∃ Z A ρ, Rel K G Z A ρ σ H ∧ FitS K G Z m (g ρ) D
structure DS (X : Cx) (G : Gm) (m : Md) (st : Stmt) (g : Ev → SR) : Prop where
  un : PS X st (tDS X.K G m g)
structure DSs (X : Cx) (G : Gm) (m : Md) (st : List Stmt) (g : Ev → SR) : Prop where
  un : PSs X st (tDS X.K G m g)
def sNext : Ev → SR := .nx
def sSeq (g1 g2 : Ev → SR) : Ev → SR := fun ρ => match g1 ρ with
  | .nx ρ' => g2 ρ'
  | r => r
def SR.of {α : Type} : R α → (α → SR) → SR
  | .ok a, f => f a
  | .exc c u, _ => .exc c u
  | .stk, _ => .stk
section
variable {K : PySem.W.Frag} {G : Gm} {Z : Pkg} {m : Md} {α : Type}
theorem FitS.of {x : R α} {k : α → SR} {D : Ends} (f : FitS K G Z m (SR.of x k) D) : ∃ a, x = .ok a ∧ FitS K G Z m (k a) D := by
  cases x with
  | ok a => exact ⟨a, rfl, f⟩
  | exc => exact f.elim
  | stk => exact f.elim
end
section
variable {X : Cx} {G : Gm} {e a b c : Expr} {st : Stmt} {sts rest : List Stmt} {es : List Expr} {pos p1 : Pos} {x : Str} {b1 b2 b3 : Bool} {m m1 m2 m3 mr : Md} {g1 g2 g3 : Ev → R (U × Ev)} {h1 h2 : Ev → R (Bool × Ev)} {ga : Ev → R (List U × Ev)} {s1 s2 : Ev → SR}
theorem dss_nil : DSs X G m [] sNext := ⟨pss_nil.to fun D σ H ⟨Z, A, ρ, q, f⟩ => f A σ H q⟩
theorem dss_one (h : DS X G m st s1) : DSs X G m [st] s1 := ⟨pss_one h.un⟩
theorem dss_cons (ha : DS X G m st s1) (hb : DSs X G m rest s2) : DSs X G m (st :: rest) (sSeq s1 s2) := ⟨(pss_cons ha.un hb.un).to fun D σ H ⟨Z, A, ρ, q, f⟩ => by
  refine ⟨Z, A, ρ, q, ?_⟩
  unfold sSeq at f
  cases e : s1 ρ with
  | nx ρ1 => rw [e] at f; exact fun A1 σ1 H1 q1 => ⟨Z, A1, ρ1, q1, f⟩
  | rt => rw [e] at f; exact f
  | bk => rw [e] at f; exact f
  | ct => rw [e] at f; exact f
  | exc => rw [e] at f; exact f
  | stk => rw [e] at f; exact f⟩
def sBreak : Ev → SR := .bk
def sCont : Ev → SR := .ct
def sExpr (g : Ev → R (U × Ev)) : Ev → SR := fun ρ => SR.of (g ρ) fun x => .nx x.2
theorem ds_expr (h : DE X G e b1 m1 g1) (hs : swapsWith e none pos.line X.env = pure false := by rfl) : DS X G m (.Expr e pos) (sExpr g1) := ⟨(ps_expr h.un hs).to fun D σ H ⟨Z, A, ρ, q, f⟩ => by
  obtain ⟨⟨u, ρ1⟩, e1, f⟩ := f.of
  refine ⟨Z, A, ρ, q, ?_⟩
  rw [e1]
  exact fun v H1 q1 _ _ _ => f A σ H1 q1⟩
def sRet (g : Ev → R (U × Ev)) : Ev → SR := fun ρ => SR.of (g ρ) fun x => .rt x.1 x.2
theorem ds_ret (h : DE X G e b1 m1 g1) (hn : m1 ≠ .P := by decide) : DS X G .S (.Return (some e) pos) (sRet g1) := ⟨(ps_ret h.un).to fun D σ H ⟨Z, A, ρ, q, f⟩ => by
  obtain ⟨⟨u, ρ1⟩, e1, f⟩ := f.of
  refine ⟨Z, A, ρ, q, ?_⟩
  rw [e1]
  exact fun v H1 q1 _ _ vm => f A σ H1 v q1 ((vm.rp hn).mono q1.sup)⟩
theorem ds_retO (h : DE X G e b1 .O g1) : DS X G .O (.Return (some e) pos) (sRet g1) := ⟨(ps_ret h.un).to fun D σ H ⟨Z, A, ρ, q, f⟩ => by
  obtain ⟨⟨u, ρ1⟩, e1, f⟩ := f.of
  refine ⟨Z, A, ρ, q, ?_⟩
  rw [e1]
  intro v H1 q1 _ _ vm
  obtain ⟨a, rfl, na, nb, _, t⟩ := vm
  exact f A σ H1 _ q1 ⟨a, rfl, nb, fun z => na (q1.sup a z), t.mono fun b z => z.imp (q1.sup b) id⟩⟩
/-- return of a slot of one's own -/
theorem ds_retV {i : Nat} (hm : m ≠ .P := by decide) (hi : G.io = true → i ≠ 0) (hN : X.N[i]? = some x := by rfl) (hv : Vis X.env.scope x := by first | exact Or.inl rfl | exact Or.inr (Or.inl rfl) | exact Or.inr (Or.inr rfl)) (hd : (x == ("__debug__" : Str)) = false := by decide)
    (hcd : (x == ("__classdict__" : Str)) = false := by decide) (c : G.is i = true := by rfl) : DS X G m (.Return (some (.Name x p1)) pos) (sRet (gVar i)) := ⟨(ps_ret (pe_var hN hv hd hcd)).to fun D σ H ⟨Z, A, ρ, q, f⟩ => by
  obtain ⟨⟨u, ρ1⟩, e1, f⟩ := f.of
  unfold gVar at e1
  split at e1
  · rename_i u' hu
    cases e1
    obtain ⟨a, h1, h2, h3, h4, h5⟩ := q.own c hu
    have na : ¬ Z.A0 a := by
      rcases h4 with h4 | ⟨h4, h6⟩
      · exact h4
      · exact absurd h6 (hi h4)
    refine ⟨.ref a, h1, f A σ H _ q ?_⟩
    cases m with
    | S => exact h5.rp q.sup na
    | O => exact ⟨a, rfl, h3, na, h5.mono fun b z => by
        rcases z with z | z
        · exact q.sup b z
        · subst z; exact h2⟩
    | P => exact absurd rfl hm
  · cases e1⟩
def sSet (i : Nat) (g : Ev → R (U × Ev)) : Ev → SR := fun ρ => SR.of (g ρ) fun x => .nx (x.2.set i (some x.1))
theorem set_core {i : Nat} {te : TE} (c : G.is i = false) (hn : m1 ≠ .P) (hi : ∀ σ H Q, tD X.K G b1 m1 g1 σ H Q → te σ H Q) {D : Ends} {σ : St} {H : Hp} (h : tDS X.K G m (sSet i g1) D σ H) : tAsg te (gName i) D σ H := by
  obtain ⟨Z, A, ρ, q, f⟩ := h
  obtain ⟨⟨u, ρ1⟩, e1, f⟩ := f.of
  refine hi _ _ _ ⟨Z, A, ρ, q, ?_⟩
  rw [e1]
  exact fun v H1 q1 _ _ vm => f A _ H1 (q1.set c (vm.rp hn))
theorem setO_core {i : Nat} {te : TE} (c : G.is i = true) (h0 : G.io = true → i ≠ 0) (hi : ∀ σ H Q, tD X.K G b1 .O g1 σ H Q → te σ H Q) {D : Ends} {σ : St} {H : Hp} (h : tDS X.K G m (sSet i g1) D σ H) : tAsg te (gName i) D σ H := by
  obtain ⟨Z, A, ρ, q, f⟩ := h
  obtain ⟨⟨u, ρ1⟩, e1, f⟩ := f.of
  refine hi _ _ _ ⟨Z, A, ρ, q, ?_⟩
  rw [e1]
  intro v H1 q1 _ _ vm
  obtain ⟨a, rfl, na, nb, r, t⟩ := vm
  exact f _ _ H1 (q1.setO c h0 na nb r t)
theorem ds_set {i : Nat} (hN : X.N.Nodup) (h : DE X G e b1 m1 g1) (hi : X.N[i]? = some x := by rfl) (hx : Loc X.env.scope x := by first | exact Or.inl rfl | exact Or.inr rfl) (c : G.is i = false := by rfl) (hn : m1 ≠ .P := by decide) (hs : swapsWith e (some (.Name x p1)) pos.line X.env = pure false := by rfl)
    (hf : X.fn x = true ∨ X.env.scope.names.lookup x = some .local := by first | exact .inl rfl | exact .inr rfl | assumption) : DS X G m (.Assign [.Name x p1] e pos) (sSet i g1) := ⟨(ps_set hN hi hx h.un hs hf).to fun _ _ _ => set_core c hn fun _ _ _ h => h⟩
theorem ds_setO {i : Nat} (hN : X.N.Nodup) (h : DE X G e b1 .O g1) (h0 : G.io = true → i ≠ 0 := by decide) (hi : X.N[i]? = some x := by rfl) (hx : Loc X.env.scope x := by first | exact Or.inl rfl | exact Or.inr rfl) (c : G.is i = true := by rfl) (hs : swapsWith e (some (.Name x p1)) pos.line X.env = pure false := by rfl)
    (hf : X.fn x = true ∨ X.env.scope.names.lookup x = some .local := by first | exact .inl rfl | exact .inr rfl | assumption) : DS X G m (.Assign [.Name x p1] e pos) (sSet i g1) := ⟨(ps_set hN hi hx h.un hs hf).to fun _ _ _ => setO_core c h0 fun _ _ _ h => h⟩
/-- x = y, y of one's own: y is given up -/
def sMove (i j : Nat) : Ev → SR := fun ρ => match ρ[j]? with
  | some (some u) => .nx ((ρ.set j none).set i (some u))
  | _ => .stk
/-- a, b, .. = e -/
def sAsg (sg : U → Ev → R Ev) (g : Ev → R (U × Ev)) : Ev → SR := fun ρ => SR.of (g ρ) fun x => SR.of (sg x.1 x.2) .nx
def sPar (i j : Nat) (ga : Ev → R (List U × Ev)) : Ev → SR := fun ρ => SR.of (ga ρ) fun x => match x.1 with
  | [u, w] => .nx ((x.2.set i (some u)).set j (some w))
  | _ => .stk
def sIf (h : Ev → R (Bool × Ev)) (s1 s2 : Ev → SR) : Ev → SR := fun ρ => SR.of (h ρ) fun x => if x.1 = true then s1 x.2 else s2 x.2
theorem ds_if {c : Expr} {a b : List Stmt} (hc : DT X G c b1 h1) (ha : DSs X G m a s1) (hb : DSs X G m b s2) : DS X G m (.If c a b pos) (sIf h1 s1 s2) := ⟨(ps_if hc.un ha.un hb.un).to fun D σ H ⟨Z, A, ρ, q, f⟩ => by
  obtain ⟨⟨k, ρ1⟩, e1, f⟩ := f.of
  refine ⟨Z, A, ρ, q, ?_⟩
  rw [e1]
  intro H1 q1 _ _
  cases k with
  | true => rw [if_pos rfl] at f ⊢; exact ⟨Z, A, ρ1, q1, f⟩
  | false => rw [if_neg Bool.false_ne_true] at f ⊢; exact ⟨Z, A, ρ1, q1, f⟩⟩
/-! ### while -/
def sWhile (h : Ev → R (Bool × Ev)) (s : Ev → SR) : Nat → Ev → SR
  | 0, _ => .stk
  | n + 1, ρ => SR.of (h ρ) fun x => if x.1 = true then match s x.2 with
      | .nx ρ2 => sWhile h s n ρ2
      | .ct ρ2 => sWhile h s n ρ2
      | .bk ρ2 => .nx ρ2
      | r => r
    else .nx x.2
end
end L2
end
section
set_option Elab.async false
set_option linter.all false
set_option maxRecDepth 100000
set_option maxHeartbeats 4000000
namespace L2
open PySem PySem.Spec PyProof.Rows
/-! ### what is walked -/
/-- J walks us, from H1 on, while what it walks stays -/
def Wk (K : PySem.W.Frag) (p : Bool) (A : Addr → Prop) (us : List U) (J : It) (H1 : Hp) : Prop := us.length ≤ sizeLine ∧
  ∀ H A', (if p = true then Same H1 H else Ext A H1 H) → (∀ b, A' b → A b ∨ H1 b = none) → (∀ (i : Nat) (u : U), us[i]? = some u → J.go i H ∧ ∀ x H', J.yld i H x H' → Same H H' ∧ Rp K H' A' u x) ∧ J.stop us.length H
def tDI (K : PySem.W.Frag) (G : Gm) (b p : Bool) (gi : Ev → R (List U × Ev)) : TI := fun σ H R => ∃ Z A ρ, Rel K G Z A ρ σ H ∧ match gi ρ with
  | .ok (us, ρ') => ∀ J H1, Rel K G Z A ρ' σ H1 → Ext A H H1 → (b = false → ρ' = ρ ∧ Same H H1) → Wk K p A us J H1 → R J H1
  | _ => False
structure DI (X : Cx) (G : Gm) (tg iter : Expr) (b p : Bool) (gi : Ev → R (List U × Ev)) : Prop where
  un : PI X tg iter (tDI X.K G b p gi)
section
variable {X : Cx} {G : Gm} {tg e a b c : Expr} {es : List Expr} {pos p1 : Pos} {x : Str} {b1 b2 b3 : Bool} {m m1 m2 m3 mr : Md} {g1 g2 g3 : Ev → R (U × Ev)} {h1 h2 : Ev → R (Bool × Ev)} {ga : Ev → R (List U × Ev)} {s1 s2 : Ev → SR}
theorem PI.to {t t' : TI} (h : PI X tg e t) (i : ∀ σ H Q, t' σ H Q → t σ H Q) : PI X tg e t' := fun pins s σ H Q I q => h pins s σ H Q I (i _ _ _ q)
theorem PI.or {t t' : TI} (h : PI X tg e t) (h' : PI X tg e t') : PI X tg e (fun σ H R => t σ H R ∨ t' σ H R) := fun pins s σ H Q I q => by
  rcases q with q | q
  · exact h pins s σ H Q I q
  · exact h' pins s σ H Q I q
def isP : Md → Bool
  | .P => true
  | _ => false
def gSeq (g : Ev → R (U × Ev)) : Ev → R (List U × Ev) := fun ρ => (g ρ).bind fun x => match x.1 with
  | .lst us => .ok (us, x.2)
  | .tup us => .ok (us, x.2)
  | .scr us => .ok (us, x.2)
  | _ => .stk
theorem wk_list {K : PySem.W.Frag} {A : Addr → Prop} {H1 : Hp} {us : List U} {v : V} {ρ : Ev} {σ : St} {Z : Pkg} (q : Rel K G Z A ρ σ H1) (h : VMe K G Z m1 A ρ σ H1 (.lst us) v) : ∃ a, v = .ref a ∧ (∃ xs, SqL K H1 a xs) ∧ Wk K (isP m1) A us (Itl K a) H1 := by
  have hp := h.pk
  unfold Pk at hp
  obtain ⟨a, xs, rfl, rd, l, rs⟩ := hp
  refine ⟨a, rfl, ⟨xs, SqL.of rd⟩, l, fun H A' hs ha => ?_⟩
  have st : H a = some (.lst xs) ∧ ∀ (i : Nat) (u : U), us[i]? = some u → ∃ x, xs[i]? = some x ∧ Rp K H A' u x := by
    cases hm : isP m1 with
    | true =>
      rw [hm, if_pos rfl] at hs
      refine ⟨hs a _ rd, fun i u hu => ?_⟩
      obtain ⟨x, h1, h2⟩ := rs.get hu
      exact ⟨x, h1, h2.re q.mu (Ext.same hs) ha⟩
    | false =>
      rw [hm, if_neg Bool.false_ne_true] at hs
      have hn : m1 ≠ .P := fun z => by subst z; cases hm
      have hr := h.rp hn
      unfold Rp at hr
      obtain ⟨a', xs', e, na, rd', _, rs'⟩ := hr
      cases e
      refine ⟨hs a _ na rd, fun i u hu => ?_⟩
      obtain ⟨x, h1, h2⟩ := rs.get hu
      exact ⟨x, h1, h2.re q.mu hs ha⟩
  obtain ⟨rd2, get⟩ := st
  refine ⟨fun i u hu => ?_, ⟨xs, SqL.of rd2, by rw [← rs.length]; exact Nat.le_refl _⟩⟩
  obtain ⟨x, h1, h2⟩ := get i u hu
  refine ⟨⟨xs, x, SqL.of rd2, h1⟩, fun y H' yl => ?_⟩
  obtain ⟨e, yl⟩ := yl
  have e2 := yl xs (SqL.of rd2)
  rw [h1] at e2
  cases e2
  subst e
  exact ⟨Same.refl _, h2⟩
theorem wk_tup {K : PySem.W.Frag} {A : Addr → Prop} {H1 : Hp} {us : List U} {v : V} {ρ : Ev} {σ : St} {Z : Pkg} {p : Bool} (q : Rel K G Z A ρ σ H1) (h : Pk K H1 A (.tup us) v) : ∃ a, v = .ref a ∧ (∃ xs, SqT K H1 a xs) ∧ Wk K p A us (Itt K a) H1 := by
  unfold Pk at h
  obtain ⟨a, xs, rfl, sq, l, rs⟩ := h
  refine ⟨a, rfl, ⟨xs, SqT.of sq⟩, l, fun H A' hs ha => ?_⟩
  have ex : Ext A H1 H := by
    cases p with
    | true => rw [if_pos rfl] at hs; exact Ext.same hs
    | false => rw [if_neg Bool.false_ne_true] at hs; exact hs
  have sq2 : SqT K H a xs := SqT.of (ex a _ (fun z => by have := q.mu a z; rw [sq] at this; exact this) sq)
  refine ⟨fun i u hu => ?_, ⟨xs, sq2, by rw [← rs.length]; exact Nat.le_refl _⟩⟩
  obtain ⟨x, h1, h2⟩ := rs.get hu
  refine ⟨⟨xs, x, sq2, h1⟩, fun y H' yl => ?_⟩
  obtain ⟨e, yl⟩ := yl
  have e2 := yl xs sq2
  rw [h1] at e2
  cases e2
  subst e
  exact ⟨Same.refl _, h2.re q.mu ex ha⟩
theorem wk_scr {K : PySem.W.Frag} {A : Addr → Prop} {H1 : Hp} {us : List U} {v : V} {ρ : Ev} {σ : St} {Z : Pkg} {p : Bool} (q : Rel K G Z A ρ σ H1) (h : Pk K H1 A (.scr us) v) : ∃ a, v = .ref a ∧ (∃ xs, SqL K H1 a xs) ∧ Wk K p A us (Itl K a) H1 := by
  unfold Pk at h
  obtain ⟨a, xs, rfl, sq, l, rs⟩ := h
  refine ⟨a, rfl, ⟨xs, sq.sq⟩, l, fun H A' hs ha => ?_⟩
  have ex : Ext A H1 H := by
    cases p with
    | true => rw [if_pos rfl] at hs; exact Ext.same hs
    | false => rw [if_neg Bool.false_ne_true] at hs; exact hs
  have sq2 : SqL K H a xs := (sq.to fun o y w => ex a _ (fun z => by have := q.mu a z; rw [w] at this; exact this) w).sq
  refine ⟨fun i u hu => ?_, ⟨xs, sq2, by rw [← rs.length]; exact Nat.le_refl _⟩⟩
  obtain ⟨x, h1, h2⟩ := rs.get hu
  refine ⟨⟨xs, x, sq2, h1⟩, fun y H' yl => ?_⟩
  obtain ⟨e, yl⟩ := yl
  have e2 := yl xs sq2
  rw [h1] at e2
  cases e2
  subst e
  exact ⟨Same.refl _, h2.re q.mu ex ha⟩
theorem di_seq (h : DE X G e b1 m1 g1) : DI X G tg e b1 (isP m1) (gSeq g1) := ⟨((pi_list h.un).or (pi_tup h.un)).to fun σ H RR ⟨Z, A, ρ, q, f⟩ => by
  unfold gSeq at f
  cases e1 : g1 ρ with
  | stk => rw [e1] at f; exact f.elim
  | exc => rw [e1] at f; exact f.elim
  | ok y =>
    obtain ⟨u, ρ1⟩ := y
    rw [e1] at f
    cases u with
    | lst us =>
      refine .inl ⟨Z, A, ρ, q, ?_⟩
      rw [e1]
      intro v H1 q1 x1 s1 vm
      obtain ⟨a, e, l, wk⟩ := wk_list q1 vm
      exact ⟨a, e, l, f _ H1 q1 x1 s1 wk⟩
    | tup us =>
      refine .inr ⟨Z, A, ρ, q, ?_⟩
      rw [e1]
      intro v H1 q1 x1 s1 vm
      obtain ⟨a, e, l, wk⟩ := wk_tup (p := isP m1) q1 vm.pk
      exact ⟨a, e, l, f _ H1 q1 x1 s1 wk⟩
    | scr us =>
      refine .inl ⟨Z, A, ρ, q, ?_⟩
      rw [e1]
      intro v H1 q1 x1 s1 vm
      obtain ⟨a, e, l, wk⟩ := wk_scr (p := isP m1) q1 vm.pk
      exact ⟨a, e, l, f _ H1 q1 x1 s1 wk⟩
    | _ => exact f.elim⟩
def rangeU (lo : Int) (n : Nat) : List U := (List.range n).map fun i => .int (lo + (i : Nat))
theorem wk_range {K : PySem.W.Frag} {A : Addr → Prop} {H1 : Hp} {lo : Int} {n : Nat} {p : Bool} (h : n ≤ sizeLine) : Wk K p A (rangeU lo n) (Itr lo n) H1 := by
  have hl : (rangeU lo n).length = n := by unfold rangeU; rw [List.length_map, List.length_range]
  refine ⟨by rw [hl]; exact h, fun H A' _ _ => ⟨fun i u hu => ?_, by rw [hl]; exact Nat.le_refl _⟩⟩
  unfold rangeU at hu
  rw [List.getElem?_map] at hu
  cases e : (List.range n)[i]? with
  | none => rw [e] at hu; cases hu
  | some j =>
    rw [e] at hu
    obtain ⟨l1, l2⟩ := List.getElem?_eq_some_iff.mp e
    rw [List.length_range] at l1
    rw [List.getElem_range] at l2
    subst l2
    cases hu
    refine ⟨l1, fun x H' y => ?_⟩
    obtain ⟨rfl, rfl⟩ := y
    exact ⟨Same.refl _, rp_int⟩
def gRng1 (ga : Ev → R (List U × Ev)) : Ev → R (List U × Ev) := fun ρ => (ga ρ).bind fun x => match x.1 with
  | [.int j] => if -1000000 ≤ j ∧ j ≤ 1000000 then .ok (rangeU 0 j.toNat, x.2) else .stk
  | _ => .stk
theorem di_range1 {a : Expr} (ha : DA X G [a] b1 false ga) (hm : X.mg "range" = none) (hg : Gl X "range" := by rfl) (hs : starEach [a] X.env = [(false, eval a X.env)] := by rfl) : DI X G tg (.Call (.Name "range" p1) [a] [] pos) b1 false (gRng1 ga) := ⟨(pi_range1 hg hm ha.un hs).to fun σ H RR ⟨Z, A, ρ, q, f⟩ => by
  unfold gRng1 at f
  cases e1 : ga ρ with
  | stk => rw [e1] at f; exact f.elim
  | exc => rw [e1] at f; exact f.elim
  | ok y =>
    obtain ⟨us, ρ1⟩ := y
    rw [e1] at f
    dsimp only [L2.R.bind] at f
    refine ⟨Z, A, ρ, q, ?_⟩
    rw [e1]
    intro vs H1 q1 x1 s1 vm
    split at f
    · rename_i us' ρ' e2
      split at e2
      · rename_i j
        split at e2
        · rename_i hl
          cases e2
          have r := vm.rps
          unfold Rps at r
          obtain ⟨v, vr, rfl, r1, r2⟩ := r
          unfold Rps at r2
          subst r2
          unfold Rp at r1
          subst r1
          exact ⟨j, rfl, by omega, by omega, f _ H1 q1 x1 s1 (wk_range (by have : sizeLine = 16777216 := rfl; omega))⟩
        · cases e2
      · cases e2
    · exact f.elim⟩
/-! ### for -/
def forGo (sg : U → Ev → R Ev) (s : Ev → SR) : List U → Ev → SR
  | [], ρ => .nx ρ
  | u :: us, ρ => SR.of (sg u ρ) fun ρ1 => match s ρ1 with
      | .nx ρ2 => forGo sg s us ρ2
      | .ct ρ2 => forGo sg s us ρ2
      | .bk ρ2 => .nx ρ2
      | r => r
def sFor (gi : Ev → R (List U × Ev)) (sg : U → Ev → R Ev) (s : Ev → SR) : Ev → SR := fun ρ => SR.of (gi ρ) fun x => forGo sg s x.1 x.2
open Classical in
/-- what is to stay through a loop: all but what is one's own -/
noncomputable def Pkg.lp (Z : Pkg) (A : Addr → Prop) (H : Hp) : Pkg := { Z with B := fun b => if A b ∧ Z.B b = none then none else H b }
theorem lp_none {Z : Pkg} {A : Addr → Prop} {H : Hp} {b : Addr} (h1 : A b) (h2 : Z.B b = none) : (Z.lp A H).B b = none := by
  unfold Pkg.lp
  dsimp only
  exact if_pos ⟨h1, h2⟩
theorem lp_some {Z : Pkg} {A : Addr → Prop} {H : Hp} {b : Addr} (h : ¬ (A b ∧ Z.B b = none)) : (Z.lp A H).B b = H b := by
  unfold Pkg.lp
  dsimp only
  exact if_neg h
theorem lp_inv {Z : Pkg} {A : Addr → Prop} {H : Hp} {b : Addr} (h : (Z.lp A H).B b = none) : (A b ∧ Z.B b = none) ∨ H b = none := by
  by_cases c : A b ∧ Z.B b = none
  · exact .inl c
  · rw [lp_some c] at h; exact .inr h
theorem Rel.lp {K : PySem.W.Frag} {Z : Pkg} {A : Addr → Prop} {H : Hp} {ρ : Ev} {σ : St} (q : Rel K G Z A ρ σ H) : Rel K G (Z.lp A H) A ρ σ H where
  slot := fun i u h => by
    obtain ⟨v, h1, h2⟩ := q.slot i u h
    refine ⟨v, h1, ?_⟩
    by_cases c : G.is i = true
    · rw [if_pos c] at h2 ⊢
      obtain ⟨a, e1, e2, e3, e4, e5⟩ := h2
      exact ⟨a, e1, e2, lp_none e2 e3, e4, e5⟩
    · rw [if_neg c] at h2 ⊢; exact h2
  dis := q.dis
  mu := q.mu
  sup := q.sup
  out := fun a h => (q.out a h).imp id fun z => lp_none h z
  bas := fun a o h => by
    by_cases c : A a ∧ Z.B a = none
    · rw [lp_none c.1 c.2] at h; cases h
    · rw [lp_some c] at h; exact h
  io0 := q.io0
  len := q.len
theorem Rel.unlp {K : PySem.W.Frag} {Z : Pkg} {A A' : Addr → Prop} {H H' : Hp} {ρ ρ' : Ev} {σ σ' : St} (q : Rel K G Z A ρ σ H) (q' : Rel K G (Z.lp A H) A' ρ' σ' H') : Rel K G Z A' ρ' σ' H' := by
  have sub : ∀ a, (Z.lp A H).B a = none → Z.B a = none := fun a h => by
    rcases lp_inv h with z | h
    · exact z.2
    · cases e : Z.B a with
      | none => rfl
      | some o => rw [q.bas a o e] at h; cases h
  exact {
    slot := fun i u h => by
      obtain ⟨v, h1, h2⟩ := q'.slot i u h
      refine ⟨v, h1, ?_⟩
      by_cases c : G.is i = true
      · rw [if_pos c] at h2 ⊢
        obtain ⟨a, e1, e2, e3, e4, e5⟩ := h2
        exact ⟨a, e1, e2, sub a e3, e4, e5⟩
      · rw [if_neg c] at h2 ⊢; exact h2
    dis := q'.dis
    mu := q'.mu
    sup := q'.sup
    out := fun a h => (q'.out a h).imp id (sub a)
    bas := fun a o h => q'.bas a o (by
      rw [lp_some (fun z => by rw [h] at z; exact nomatch z.2)]
      exact q.bas a o h)
    io0 := q'.io0
    len := q'.len }
theorem FitS.lp {K : PySem.W.Frag} {Z : Pkg} {A : Addr → Prop} {H : Hp} {ρ : Ev} {σ : St} {r : SR} {D : Ends} (q : Rel K G Z A ρ σ H) (f : FitS K G Z m r D) : FitS K G (Z.lp A H) m r D := by
  cases r with
  | nx => exact fun A' σ' H' q' => f A' σ' H' (q.unlp q')
  | bk => exact fun A' σ' H' q' => f A' σ' H' (q.unlp q')
  | ct => exact fun A' σ' H' q' => f A' σ' H' (q.unlp q')
  | rt u ρ' =>
    intro A' σ' H' v q' vm
    refine f A' σ' H' v (q.unlp q') ?_
    cases m with
    | S => exact vm
    | P => exact vm
    | O =>
      obtain ⟨a, e, nb, na, t⟩ := vm
      refine ⟨a, e, ?_, na, t⟩
      rcases lp_inv nb with z | h
      · exact z.2
      · cases e : Z.B a with
        | none => rfl
        | some o => rw [q.bas a o e] at h; cases h
  | exc => exact f.elim
  | stk => exact f.elim
theorem ds_for {iter : Expr} {body : List Stmt} {sg : U → Ev → R Ev} {gi : Ev → R (List U × Ev)} (hp : PassesOwn (model X.prog X.w) X.A X.env X.xe) (hc : X.calm = true) (hi : DI X G tg iter b1 false gi) (hg : DG X G tg sg) (hb : DSs X G m body s1)
    (hs : ∀ x, foldedSetIterable iter X.env x = pure x := by intro _; rfl) : DS X G m (.For tg iter body [] pos) (sFor gi sg s1) := ⟨(ps_forB hp hc hi.un hg.un hb.un hs).to fun D σ H ⟨Z, A, ρ, q, f⟩ => by
  obtain ⟨⟨us, ρ1⟩, e1, f⟩ := f.of
  refine ⟨Z, A, ρ, q, ?_⟩
  rw [e1]
  intro J H1 q1 x1 st1 wk
  dsimp only at f
  obtain ⟨hz, wk⟩ := wk
  refine ⟨fun i k σ H => i + k = us.length ∧ ∃ A' ρ', Rel X.K G (Z.lp A H1) A' ρ' σ H ∧ FitS X.K G (Z.lp A H1) m (forGo sg s1 (us.drop i) ρ') D, ⟨us.length, by omega, A, ρ1, q1.lp, by rw [List.drop_zero]; exact f.lp q1⟩, ?_⟩
  rintro i k σ H ⟨hk, A', ρ', q', f'⟩
  have ex : Ext A H1 H := fun b o nb z => q'.bas b o (by
    rw [lp_some (fun y => nb y.1)]; exact z)
  have nw : ∀ b, A' b → A b ∨ H1 b = none := fun b z => by
    rcases q'.out b z with y | y
    · exact .inl (q1.sup b y)
    · rcases lp_inv y with w | h
      · exact .inl w.1
      · exact .inr h
  obtain ⟨w1, w2⟩ := wk H A' (by rw [if_neg Bool.false_ne_true]; exact ex) nw
  by_cases hlt : i < us.length
  · have eu : us[i]? = some us[i] := List.getElem?_eq_getElem hlt
    obtain ⟨go, yl⟩ := w1 i _ eu
    rw [List.drop_eq_getElem_cons hlt] at f'
    unfold forGo at f'
    obtain ⟨ρ2, e2, f2⟩ := f'.of
    refine .inr ⟨go, fun σ H => ∃ A' ρ', Rel X.K G (Z.lp A H1) A' ρ' σ H ∧ FitS X.K G (Z.lp A H1) m (forGo sg s1 (us.drop (i + 1)) ρ') D, fun σ' H' z => ⟨k - 1, by omega, by omega, z⟩, fun x H' y => ?_⟩
    obtain ⟨sm, rp⟩ := yl x H' y
    refine ⟨Z.lp A H1, A', ρ', us[i], q'.same sm, rp, ?_⟩
    rw [e2]
    intro σ2 q2 _
    refine ⟨Z.lp A H1, A', ρ2, q2, ?_⟩
    cases e3 : s1 ρ2 with
    | nx ρ3 => rw [e3] at f2; exact fun A3 σ3 H3 q3 => ⟨A3, ρ3, q3, f2⟩
    | ct ρ3 => rw [e3] at f2; exact fun A3 σ3 H3 q3 => ⟨A3, ρ3, q3, f2⟩
    | bk ρ3 => rw [e3] at f2; exact f2
    | rt => rw [e3] at f2; exact f2
    | exc => rw [e3] at f2; exact f2
    | stk => rw [e3] at f2; exact f2
  · have e : i = us.length := by omega
    subst e
    rw [List.drop_length] at f'
    exact .inl ⟨w2, f' A' σ H q'⟩⟩
end
end L2
end
section
set_option Elab.async false
set_option linter.all false
set_option maxRecDepth 100000
set_option maxHeartbeats 4000000
namespace L2
open PySem PySem.Spec PyProof.Rows
/-! ### comprehensions -/
def selE (js : List (Option Nat)) (ρ : Ev) : Ev := js.map fun o => match o with
  | none => none
  | some j => match ρ[j]? with
    | some v => v
    | none => none
def inG (G : Gm) (js : List (Option Nat)) : Gm := ⟨js.map fun o => match o with
  | none => false
  | some j => G.is j, false⟩
def jsOk : List (Option Nat) → Bool
  | [] => true
  | none :: r => jsOk r
  | some j :: r => !(r.contains (some j)) && jsOk r
theorem jsOk_inj : ∀ {js : List (Option Nat)} {i k j : Nat}, jsOk js = true → js[i]? = some (some j) → js[k]? = some (some j) → i = k
  | [], _, _, _, _, h, _ => by simp at h
  | none :: r, i, k, j, ok, h1, h2 => by
    unfold jsOk at ok
    cases i with
    | zero => simp at h1
    | succ i =>
      cases k with
      | zero => simp at h2
      | succ k => exact congrArg (· + 1) (jsOk_inj (j := j) ok (by simpa using h1) (by simpa using h2))
  | some j' :: r, i, k, j, ok, h1, h2 => by
    unfold jsOk at ok
    rw [Bool.and_eq_true] at ok
    have nm : ∀ n : Nat, r[n]? ≠ some (some j') := fun n h => by
      have := List.mem_of_getElem? h
      simp at ok
      exact ok.1 this
    cases i with
    | zero =>
      cases k with
      | zero => rfl
      | succ k => simp at h1 h2; subst h1; exact absurd h2 (nm k)
    | succ i =>
      cases k with
      | zero => simp at h1 h2; subst h2; exact absurd h1 (nm i)
      | succ k => exact congrArg (· + 1) (jsOk_inj (j := j) ok.2 (by simpa using h1) (by simpa using h2))
theorem selE_get {js : List (Option Nat)} {ρ : Ev} {i : Nat} {u : U} (h : (selE js ρ)[i]? = some (some u)) : ∃ j, js[i]? = some (some j) ∧ ρ[j]? = some (some u) := by
  unfold selE at h
  rw [List.getElem?_map] at h
  cases e : js[i]? with
  | none => rw [e] at h; cases h
  | some o =>
    rw [e] at h
    cases o with
    | none => cases h
    | some j =>
      refine ⟨j, rfl, ?_⟩
      have h := Option.some.inj h
      dsimp only at h
      split at h
      · rename_i v hv; rw [hv, h]
      · cases h
theorem sel_get {js : List (Option Nat)} {σ : St} {i j : Nat} {v : V} (h : js[i]? = some (some j)) (hv : σ[j]? = some (some v)) : (sel js σ)[i]? = some (some v) := by
  unfold sel
  rw [List.getElem?_map, h]
  dsimp only [Option.map]
  rw [hv]
theorem inG_is {G : Gm} {js : List (Option Nat)} {i j : Nat} (h : js[i]? = some (some j)) : (inG G js).is i = G.is j := by
  unfold inG Gm.is
  dsimp only
  rw [List.getD, List.getElem?_map, h]
  rfl
theorem sel_len (js : List (Option Nat)) (ρ : Ev) (σ : St) : (selE js ρ).length = (sel js σ).length := by
  unfold selE sel; rw [List.length_map, List.length_map]
section
variable {K : PySem.W.Frag} {G : Gm} {Z : Pkg} {A : Addr → Prop} {ρ ρi : Ev} {σ : St} {H H' : Hp} {js : List (Option Nat)}
theorem rel_in0 (q : Rel K G Z A ρ σ H) (ok : jsOk js = true) : Rel K (inG G js) ⟨fun _ => False, fun _ => none, 0⟩ A (selE js ρ) (sel js σ) H where
  slot := fun i u h => by
    obtain ⟨j, h1, h2⟩ := selE_get h
    obtain ⟨v, h3, h4⟩ := q.slot j u h2
    refine ⟨v, sel_get h1 h3, ?_⟩
    rw [inG_is h1]
    by_cases c : G.is j = true
    · rw [if_pos c] at h4 ⊢
      obtain ⟨a, e1, e2, _, _, e5⟩ := h4
      exact ⟨a, e1, e2, rfl, .inl id, e5⟩
    · rw [if_neg c] at h4 ⊢; exact h4
  dis := fun i k u w a ci ck ne hi hk si sk => by
    obtain ⟨j, h1, h2⟩ := selE_get hi
    obtain ⟨j', h1', h2'⟩ := selE_get hk
    rw [inG_is h1] at ci
    rw [inG_is h1'] at ck
    obtain ⟨b, e1, _⟩ := q.own ci h2
    obtain ⟨b', e1', _⟩ := q.own ck h2'
    rw [sel_get h1 e1] at si
    rw [sel_get h1' e1'] at sk
    cases si
    cases sk
    exact q.dis j j' u w a ci ck (fun z => ne (by subst z; exact jsOk_inj ok h1 h1')) h2 h2' e1 e1'
  mu := q.mu
  sup := fun _ h => h.elim
  out := fun _ _ => .inr rfl
  bas := fun _ _ h => by cases h
  io0 := fun h => by cases h
  len := sel_len js ρ σ
/-- the lists of the caught slots -/
def Cap (G : Gm) (js : List (Option Nat)) (ρ : Ev) (σ : St) (a : Addr) : Prop := ∃ (i j : Nat) (u : U), js[i]? = some (some j) ∧ G.is j = true ∧ ρ[j]? = some (some u) ∧ σ[j]? = some (some (.ref a))
open Classical in
noncomputable def Zin (G : Gm) (js : List (Option Nat)) (A : Addr → Prop) (ρ : Ev) (σ : St) (H : Hp) : Pkg := ⟨fun a => A a ∧ ¬ Cap G js ρ σ a, fun a => if Cap G js ρ σ a then none else H a, 0⟩
theorem Zin_none {a : Addr} (h : Cap G js ρ σ a) : (Zin G js A ρ σ H).B a = none := by
  unfold Zin; dsimp only; exact if_pos h
theorem Zin_some {a : Addr} (h : ¬ Cap G js ρ σ a) : (Zin G js A ρ σ H).B a = H a := by
  unfold Zin; dsimp only; exact if_neg h
theorem rel_in (q : Rel K G Z A ρ σ H) (ok : jsOk js = true) : Rel K (inG G js) (Zin G js A ρ σ H) A (selE js ρ) (sel js σ) H where
  slot := fun i u h => by
    obtain ⟨j, h1, h2⟩ := selE_get h
    obtain ⟨v, h3, h4⟩ := q.slot j u h2
    refine ⟨v, sel_get h1 h3, ?_⟩
    rw [inG_is h1]
    by_cases c : G.is j = true
    · rw [if_pos c] at h4 ⊢
      obtain ⟨a, e1, e2, _, _, e5⟩ := h4
      subst e1
      have cp : Cap G js ρ σ a := ⟨i, j, u, h1, c, h2, h3⟩
      exact ⟨a, rfl, e2, Zin_none cp, .inl fun z => z.2 cp, e5⟩
    · rw [if_neg c] at h4 ⊢; exact h4
  dis := (rel_in0 q ok).dis
  mu := q.mu
  sup := fun _ h => h.1
  out := fun a h => by
    by_cases c : Cap G js ρ σ a
    · exact .inr (Zin_none c)
    · exact .inl ⟨h, c⟩
  bas := fun a o h => by
    by_cases c : Cap G js ρ σ a
    · rw [Zin_none c] at h; cases h
    · rw [Zin_some c] at h; exact h
  io0 := fun h => by cases h
  len := sel_len js ρ σ
def capIx : List (Option Nat) → Nat → Option Nat
  | [], _ => none
  | o :: r, j => if o = some j then some 0 else (capIx r j).map (· + 1)
theorem capIx_get : ∀ {js : List (Option Nat)} {i j : Nat}, capIx js j = some i → js[i]? = some (some j)
  | [], _, _, h => by cases h
  | o :: r, i, j, h => by
    unfold capIx at h
    split at h
    · rename_i e; cases h; rw [e]; rfl
    · cases e : capIx r j with
      | none => rw [e] at h; cases h
      | some k =>
        rw [e] at h
        cases h
        rw [List.getElem?_cons_succ]
        exact capIx_get e
theorem capIx_none : ∀ {js : List (Option Nat)} {i j : Nat}, capIx js j = none → js[i]? ≠ some (some j)
  | [], _, _, _ => by simp
  | o :: r, i, j, h => by
    unfold capIx at h
    split at h
    · cases h
    · rename_i ne
      cases e : capIx r j with
      | some k => rw [e] at h; cases h
      | none =>
        cases i with
        | zero => intro z; exact ne (Option.some.inj z)
        | succ i => rw [List.getElem?_cons_succ]; exact capIx_none e
/-- what the block did with the caught lists -/
def wb (G : Gm) (js : List (Option Nat)) (ρi ρ : Ev) : Ev := ρ.mapIdx fun j x => if (G.is j && x.isSome) = true then (match capIx js j with
  | some i => (ρi[i]?).getD none
  | none => x) else x
theorem wb_get {j : Nat} {u : U} (h : (wb G js ρi ρ)[j]? = some (some u)) : ∃ u0, ρ[j]? = some (some u0) ∧ ((G.is j = true ∧ ∃ i, capIx js j = some i ∧ ρi[i]? = some (some u)) ∨ (u0 = u ∧ (G.is j = false ∨ capIx js j = none))) := by
  unfold wb at h
  rw [List.getElem?_mapIdx] at h
  cases e : ρ[j]? with
  | none => rw [e] at h; cases h
  | some x =>
    rw [e] at h
    have h := Option.some.inj h
    cases x with
    | none => simp at h
    | some u0 =>
      refine ⟨u0, rfl, ?_⟩
      dsimp only at h
      by_cases c : G.is j = true
      · rw [if_pos (by rw [c]; rfl)] at h
        split at h
        · rename_i i hi
          refine .inl ⟨c, i, hi, ?_⟩
          cases e2 : ρi[i]? with
          | none => rw [e2] at h; cases h
          | some y => rw [e2] at h; simp at h; rw [h]
        · rename_i hi
          exact .inr ⟨Option.some.inj h, .inr hi⟩
      · have c : G.is j = false := Bool.eq_false_iff.mpr c
        rw [if_neg (by rw [c]; exact Bool.false_ne_true)] at h
        exact .inr ⟨Option.some.inj h, .inl c⟩
theorem Rel.wb {σ4 : St} (q : Rel K G Z A ρ σ H) (ok : jsOk js = true) (q' : Rel K (inG G js) (Zin G js A ρ σ H) A ρi σ4 H') (ho : ∀ i, (inG G js).is i = true → σ4[i]? = (sel js σ)[i]?) : Rel K G Z A (L2.wb G js ρi ρ) σ H' ∧ Ext A H H' := by
  have capA : ∀ a, Cap G js ρ σ a → A a ∧ Z.B a = none := fun a ⟨i, j, u, h1, h2, h3, h4⟩ => by
    obtain ⟨b, e1, e2, e3, _⟩ := q.own h2 h3
    rw [h4] at e1; cases e1; exact ⟨e2, e3⟩
  have ex : Ext A H H' := fun b o nb z => q'.bas b o (by rw [Zin_some fun c => nb (capA b c).1]; exact z)
  refine ⟨{
    slot := fun j u h => ?_
    dis := fun i k u w a ci ck ne hi hk si sk => by
      obtain ⟨u1, h1, _⟩ := wb_get hi
      obtain ⟨u2, h2, _⟩ := wb_get hk
      exact q.dis i k u1 u2 a ci ck ne h1 h2 si sk
    mu := q'.mu
    sup := q.sup
    out := q.out
    bas := fun a o h => q'.bas a o (by
      rw [Zin_some fun c => by rw [(capA a c).2] at h; cases h]
      exact q.bas a o h)
    io0 := q.io0
    len := by unfold L2.wb; rw [List.length_mapIdx]; exact q.len }, ex⟩
  obtain ⟨u0, h0, hh⟩ := wb_get h
  rcases hh with ⟨c, i, hi, hu⟩ | ⟨rfl, hc⟩
  · have hj := capIx_get hi
    obtain ⟨a, e1, e2, e3, e4, _⟩ := q.own c h0
    have ci : (inG G js).is i = true := by rw [inG_is hj]; exact c
    obtain ⟨a', k1, k2, _, _, k5⟩ := q'.own ci hu
    rw [ho i ci, sel_get hj e1] at k1
    cases k1
    refine ⟨.ref a, e1, ?_⟩
    rw [if_pos c]
    exact ⟨a, rfl, e2, e3, e4, k5⟩
  · obtain ⟨v, h1, h2⟩ := q.slot j u0 h0
    refine ⟨v, h1, ?_⟩
    by_cases c : G.is j = true
    · rw [if_pos c] at h2 ⊢
      obtain ⟨a, rfl, e2, e3, e4, e5⟩ := h2
      have hc : capIx js j = none := by
        rcases hc with hc | hc
        · rw [c] at hc; cases hc
        · exact hc
      have nc : ¬ Cap G js ρ σ a := fun ⟨i, j', u, z1, z2, z3, z4⟩ => by
        have ne : j ≠ j' := fun z => by subst z; exact capIx_none hc z1
        exact q.dis j j' u0 u a c z2 ne h0 z3 h1 z4
      exact ⟨a, rfl, e2, e3, e4, e5.re q.mu ex (fun b z => .inl z) fun o z => q'.bas a o (by rw [Zin_some nc]; exact z)⟩
    · rw [if_neg c] at h2 ⊢
      exact h2.re q.mu ex fun b z => .inl z
end
/-! the pure one -/
def lcP (f : U → R (Option U)) : List U → R (List U)
  | [] => .ok []
  | u :: us => (f u).bind fun o => (lcP f us).bind fun r => .ok (match o with
    | some y => y :: r
    | none => r)
def lcF (js : List (Option Nat)) (sg : U → Ev → R Ev) (gt : Ev → R (Bool × Ev)) (ge : Ev → R (U × Ev)) (ρ : Ev) (u : U) : R (Option U) :=
  (sg u (selE js ρ)).bind fun ρi => (gt ρi).bind fun c => if c.1 = true then (ge ρi).bind fun y => .ok (some y.1) else .ok none
def gLCp (gi : Ev → R (List U × Ev)) (js : List (Option Nat)) (sg : U → Ev → R Ev) (gt : Ev → R (Bool × Ev)) (ge : Ev → R (U × Ev)) : Ev → R (U × Ev) := fun ρ =>
  (gi ρ).bind fun x => (lcP (lcF js sg gt ge x.2) x.1).bind fun ys => .ok (.lst ys, x.2)
def lcGo (G : Gm) (js : List (Option Nat)) (sg : U → Ev → R Ev) (gt : Ev → R (Bool × Ev)) (ge : Ev → R (U × Ev)) : List U → Ev → R (List U × Ev)
  | [], ρ => .ok ([], ρ)
  | u :: us, ρ => (sg u (selE js ρ)).bind fun ρi => (gt ρi).bind fun c => if c.1 = true then (ge c.2).bind fun y => (lcGo G js sg gt ge us (wb G js y.2 ρ)).bind fun r => .ok (y.1 :: r.1, r.2) else lcGo G js sg gt ge us (wb G js c.2 ρ)
def gLCx (G : Gm) (gi : Ev → R (List U × Ev)) (js : List (Option Nat)) (sg : U → Ev → R Ev) (gt : Ev → R (Bool × Ev)) (ge : Ev → R (U × Ev)) : Ev → R (U × Ev) := fun ρ =>
  (gi ρ).bind fun x => (lcGo G js sg gt ge x.1 x.2).bind fun y => .ok (.lst y.1, y.2)
theorem R.bind_ok {α β : Type} {x : R α} {k : α → R β} {b : β} (h : x.bind k = .ok b) : ∃ a, x = .ok a ∧ k a = .ok b := by
  cases x with
  | ok a => exact ⟨a, rfl, h⟩
  | exc => cases h
  | stk => cases h
section
variable {X : Cx} {G : Gm} {tg e elt iter : Expr} {ifs : List Expr} {pos : Pos} {b1 b2 b3 p : Bool} {m me : Md} {gi : Ev → R (List U × Ev)} {js : List (Option Nat)} {sg : U → Ev → R Ev} {gt : Ev → R (Bool × Ev)} {ge : Ev → R (U × Ev)}
theorem lcp_core (ok : jsOk js = true) (hn : me ≠ .P) {σ : St} {H : Hp} {Q : VK} (h : tD X.K G b1 .O (gLCp gi js sg gt ge) σ H Q) :
    tLC (tDI X.K G b1 p gi) js (fun _ => tDG X.K (inG G js) sg) (fun _ => tDT X.K (inG G js) false gt) (fun _ => tD X.K (inG G js) false me ge) σ H Q := by
  obtain ⟨Z, A, ρ, q, f⟩ := h
  obtain ⟨⟨us, ρ1⟩, e1, f⟩ := f.bind
  obtain ⟨all, e2, f⟩ := f.bind
  refine ⟨Z, A, ρ, q, ?_⟩
  rw [e1]
  intro J H1 q1 x1 s1 ⟨hz, wk⟩ Y
  dsimp only at e2 f
  refine ⟨fun i k ys H2 => i + k = us.length ∧ Same H1 H2 ∧ ∃ done rest, lcP (lcF js sg gt ge ρ1) (us.drop i) = .ok rest ∧ done ++ rest = all ∧ Rps X.K H2 A done ys ∧ done.length ≤ i,
    ⟨us.length, by omega, Same.refl _, [], all, by rw [List.drop_zero]; exact e2, rfl, Rps.nil, Nat.le_refl _⟩, ?_⟩
  rintro i k ys H2 ⟨hk, sm, done, rest, e3, e4, rs, hd⟩
  have q2 := q1.same sm
  obtain ⟨w1, w2⟩ := wk H2 A (by split; exact sm; exact Ext.same sm) fun b z => .inl z
  by_cases hlt : i < us.length
  · have eu : us[i]? = some us[i] := List.getElem?_eq_getElem hlt
    obtain ⟨go, yl⟩ := w1 i _ eu
    rw [List.drop_eq_getElem_cons hlt] at e3
    unfold lcP at e3
    obtain ⟨o, e5, e3⟩ := R.bind_ok e3
    obtain ⟨r, e6, e3⟩ := R.bind_ok e3
    unfold lcF at e5
    obtain ⟨ρi, e7, e5⟩ := R.bind_ok e5
    obtain ⟨⟨c, ρc⟩, e8, e5⟩ := R.bind_ok e5
    refine .inr ⟨go, by rw [← rs.length]; omega, fun ys' H' => Same H1 H' ∧ ∃ done, done ++ r = all ∧ Rps X.K H' A done ys' ∧ done.length ≤ i + 1, fun ys' H' ⟨z1, dn, z2, z3, z4⟩ => ⟨k - 1, by omega, by omega, z1, dn, r, e6, z2, z3, z4⟩, fun x H3 y => ?_⟩
    obtain ⟨sm3, rp⟩ := yl x H3 y
    refine ⟨_, A, selE js ρ1, us[i], (rel_in0 (q2.same sm3) ok), rp, ?_⟩
    rw [e7]
    intro σ4 q4 _
    refine ⟨_, A, ρi, q4, ?_⟩
    rw [e8]
    intro H5 q5 x5 s5
    obtain ⟨rfl, sm5⟩ := s5 rfl
    cases c with
    | false =>
      rw [if_neg Bool.false_ne_true] at e5 ⊢
      cases e5
      cases e3
      exact ⟨(sm.trans sm3).trans sm5, done, e4, (rs.same sm3).same sm5, by omega⟩
    | true =>
      rw [if_pos rfl] at e5 ⊢
      obtain ⟨⟨y1, ρy⟩, e9, e5⟩ := R.bind_ok e5
      cases e5
      cases e3
      refine ⟨_, A, ρc, q5, ?_⟩
      rw [e9]
      intro v H6 q6 x6 s6 vm
      obtain ⟨rfl, sm6⟩ := s6 rfl
      have sm' := sm3.trans (sm5.trans sm6)
      exact ⟨sm.trans sm', done ++ [y1], by rw [List.append_assoc]; exact e4, (rs.same sm').append (Rps.cons (vm.rp hn) Rps.nil), by rw [List.length_append]; simp; omega⟩
  · have e : i = us.length := by omega
    subst e
    rw [List.drop_length] at e3
    cases e3
    rw [List.append_nil] at e4
    subst e4
    refine .inl ⟨w2, fun a na => ?_⟩
    have sn := upd_S na (.lst ys)
    exact f _ _ (q2.same sn) ((x1.trans (Ext.same sm)).trans (Ext.same sn)) (two1 (two1 s1 sm) sn) (VMf.e q2 sn ⟨a, rfl, na, top_newlst q2.mu rs na (by omega)⟩)
theorem lcx_core (ok : jsOk js = true) (hn : me ≠ .P) {σ : St} {H : Hp} {Q : VK} (h : tD X.K G true .O (gLCx G gi js sg gt ge) σ H Q) :
    tLC (tDI X.K G b1 false gi) js (fun _ => tDG X.K (inG G js) sg) (fun _ => tDT X.K (inG G js) b2 gt) (fun _ => tD X.K (inG G js) b3 me ge) σ H Q := by
  obtain ⟨Z, A, ρ, q, f⟩ := h
  obtain ⟨⟨us, ρ1⟩, e1, f⟩ := f.bind
  obtain ⟨⟨all, ρe⟩, e2, f⟩ := f.bind
  refine ⟨Z, A, ρ, q, ?_⟩
  rw [e1]
  intro J H1 q1 x1 s1 ⟨hz, wk⟩ Y
  dsimp only at e2 f
  refine ⟨fun i k ys H2 => i + k = us.length ∧ Ext A H1 H2 ∧ ∃ ρ2 done rest, Rel X.K G Z A ρ2 σ H2 ∧ lcGo G js sg gt ge (us.drop i) ρ2 = .ok (rest, ρe) ∧ done ++ rest = all ∧ Rps X.K H2 A done ys ∧ done.length ≤ i,
    ⟨us.length, by omega, Ext.refl, ρ1, [], all, q1, by rw [List.drop_zero]; exact e2, rfl, Rps.nil, Nat.le_refl _⟩, ?_⟩
  rintro i k ys H2 ⟨hk, ex, ρ2, done, rest, q2, e3, e4, rs, hd⟩
  obtain ⟨w1, w2⟩ := wk H2 A (by rw [if_neg Bool.false_ne_true]; exact ex) fun b z => .inl z
  by_cases hlt : i < us.length
  · have eu : us[i]? = some us[i] := List.getElem?_eq_getElem hlt
    obtain ⟨go, yl⟩ := w1 i _ eu
    rw [List.drop_eq_getElem_cons hlt] at e3
    unfold lcGo at e3
    obtain ⟨ρi, e7, e3⟩ := R.bind_ok e3
    obtain ⟨⟨c, ρc⟩, e8, e3⟩ := R.bind_ok e3
    refine .inr ⟨go, by rw [← rs.length]; omega, fun ys' H' => Ext A H1 H' ∧ ∃ ρ2 done rest, Rel X.K G Z A ρ2 σ H' ∧ lcGo G js sg gt ge (us.drop (i + 1)) ρ2 = .ok (rest, ρe) ∧ done ++ rest = all ∧ Rps X.K H' A done ys' ∧ done.length ≤ i + 1, fun ys' H' z => ⟨k - 1, by omega, by omega, z⟩, fun x H3 y => ?_⟩
    obtain ⟨sm3, rp⟩ := yl x H3 y
    have q3 := q2.same sm3
    refine ⟨Zin G js A ρ2 σ H3, A, selE js ρ2, us[i], rel_in q3 ok, rp, ?_⟩
    rw [e7]
    intro σ4 q4 o4
    refine ⟨_, A, ρi, q4, ?_⟩
    rw [e8]
    intro H5 q5 x5 s5
    dsimp only at e3
    cases c with
    | false =>
      rw [if_neg Bool.false_ne_true] at e3 ⊢
      obtain ⟨q6, x6⟩ := q3.wb ok q5 o4
      exact ⟨ex.trans ((Ext.same sm3).trans x6), _, done, rest, q6, e3, e4, (rs.same sm3).re q3.mu x6 (fun b z => .inl z), by omega⟩
    | true =>
      rw [if_pos rfl] at e3 ⊢
      obtain ⟨⟨y1, ρy⟩, e9, e3⟩ := R.bind_ok e3
      obtain ⟨⟨r, ρr⟩, e10, e3⟩ := R.bind_ok e3
      cases e3
      refine ⟨_, A, ρc, q5, ?_⟩
      rw [e9]
      intro v H6 q6 x6 s6 vm
      obtain ⟨q7, x7⟩ := q3.wb ok q6 o4
      exact ⟨ex.trans ((Ext.same sm3).trans x7), _, done ++ [y1], r, q7, e10, by rw [List.append_assoc]; exact e4, ((rs.same sm3).re q3.mu x7 (fun b z => .inl z)).append (Rps.cons (vm.rp hn) Rps.nil), by rw [List.length_append]; simp; omega⟩
  · have e : i = us.length := by omega
    subst e
    rw [List.drop_length] at e3
    cases e3
    rw [List.append_nil] at e4
    subst e4
    refine .inl ⟨w2, fun a na => ?_⟩
    have sn := upd_S na (.lst ys)
    exact f _ _ (q2.same sn) ((x1.trans ex).trans (Ext.same sn)) (fun z => nomatch z) (VMf.e q2 sn ⟨a, rfl, na, top_newlst q2.mu rs na (by omega)⟩)
structure DIfs (X : Cx) (G : Gm) (ifs : List Expr) (b : Bool) (h : Ev → R (Bool × Ev)) : Prop where
  un : PIfs X ifs (tDT X.K G b h)
def hYes : Ev → R (Bool × Ev) := fun ρ => .ok (true, ρ)
theorem difs_nil : DIfs X G [] false hYes := ⟨fun pins s σ H Q I ⟨Z, A, ρ, q, f⟩ => pifs_nil pins s σ H Q I (f H q Ext.refl fun _ => ⟨rfl, Same.refl _⟩)⟩
theorem difs_one {h : Ev → R (Bool × Ev)} (hc : DT X G e b1 h) : DIfs X G [e] b1 h := ⟨pifs_one hc.un⟩
theorem de_lcp {scope : Scope} (osc : Scope) (NX N : List Str) (js : List (Option Nat)) (hc : X.calm = true) (hi : DI X G tg iter b1 p gi)
    (hin : ∀ Y : InP, DG (cxIn X scope N Y) (inG G js) tg sg ∧ DIfs (cxIn X scope N Y) (inG G js) ifs false gt ∧ DE (cxIn X scope N Y) (inG G js) elt false me ge) (hn : me ≠ .P := by decide) (ok : jsOk js = true := by rfl)
    (hosc : X.env.scope = osc := by rfl) (hNX : X.N = NX := by rfl) (hS : inOk osc NX scope N js = true := by decide +kernel)
    (hs : ∀ x, foldedSetIterable iter X.env x = pure x := by intro _; rfl) : DE X G (.ListComp elt [⟨tg, iter, ifs, 0⟩] scope pos) b1 .O (gLCp gi js sg gt ge) := ⟨(pe_lc osc NX N js hc hi.un (fun Y => ⟨(hin Y).1.un, (hin Y).2.1.un, (hin Y).2.2.un⟩) hosc hNX hS hs).to fun _ _ _ => lcp_core ok hn⟩
theorem de_lcx {scope : Scope} (osc : Scope) (NX N : List Str) (js : List (Option Nat)) (hc : X.calm = true) (hi : DI X G tg iter b1 false gi)
    (hin : ∀ Y : InP, DG (cxIn X scope N Y) (inG G js) tg sg ∧ DIfs (cxIn X scope N Y) (inG G js) ifs b2 gt ∧ DE (cxIn X scope N Y) (inG G js) elt b3 me ge) (hn : me ≠ .P := by decide) (ok : jsOk js = true := by rfl)
    (hosc : X.env.scope = osc := by rfl) (hNX : X.N = NX := by rfl) (hS : inOk osc NX scope N js = true := by decide +kernel)
    (hs : ∀ x, foldedSetIterable iter X.env x = pure x := by intro _; rfl) : DE X G (.ListComp elt [⟨tg, iter, ifs, 0⟩] scope pos) true .O (gLCx G gi js sg gt ge) := ⟨(pe_lc osc NX N js hc hi.un (fun Y => ⟨(hin Y).1.un, (hin Y).2.1.un, (hin Y).2.2.un⟩) hosc hNX hS hs).to fun _ _ _ => lcx_core ok hn⟩
variable {x : Str} {i : Nat} {pos' pos2 : Pos}
theorem ds_setLCp {scope : Scope} (osc : Scope) (NX N : List Str) (js : List (Option Nat)) (hN : X.N.Nodup) (hc : X.calm = true) (hi : DI X G tg iter b1 p gi)
    (hin : ∀ Y : InP, DG (cxIn X scope N Y) (inG G js) tg sg ∧ DIfs (cxIn X scope N Y) (inG G js) ifs false gt ∧ DE (cxIn X scope N Y) (inG G js) elt false me ge) (hx : X.N[i]? = some x := by rfl) (hl : Loc X.env.scope x := by first | exact Or.inl rfl | exact Or.inr rfl) (c : G.is i = false := by rfl) (hn : me ≠ .P := by decide) (ok : jsOk js = true := by rfl)
    (hosc : X.env.scope = osc := by rfl) (hNX : X.N = NX := by rfl) (hS : inOk osc NX scope N js = true := by decide +kernel)
    (hw : swapsWith (.ListComp elt [⟨tg, iter, ifs, 0⟩] scope pos2) (some (.Name x pos')) pos.line X.env = pure true := by rfl)
    (hf : X.fn x = true ∨ X.env.scope.names.lookup x = some .local := by first | exact .inl rfl | exact .inr rfl | assumption)
    (hs : ∀ x, foldedSetIterable iter X.env x = pure x := by intro _; rfl) : DS X G m (.Assign [.Name x pos'] (.ListComp elt [⟨tg, iter, ifs, 0⟩] scope pos2) pos) (sSet i (gLCp gi js sg gt ge)) := ⟨(ps_setLC osc NX N js hN hx hl hc hi.un (fun Y => ⟨(hin Y).1.un, (hin Y).2.1.un, (hin Y).2.2.un⟩) hosc hNX hS hw hf hs).to fun _ _ _ => set_core (b1 := b1) c (by decide) fun _ _ _ => lcp_core ok hn⟩
end
end L2
end
section
set_option Elab.async false
set_option linter.all false
set_option maxRecDepth 100000
set_option maxHeartbeats 4000000
namespace L2
open PySem PySem.Spec PyProof.Rows
def ev0 (n : Nat) (us : List U) : Ev := us.map some ++ List.replicate (n - us.length) none
def runF (m : Md) (n : Nat) (s : Ev → SR) : List U → R U := fun us => match s (ev0 n us) with
  | .rt u _ => .ok u
  | .nx _ => if m = .S then .ok .non else .stk
  | .exc c u => .exc c u
  | _ => .stk
def runI (n : Nat) (s : Ev → SR) : List U → R (U × U) := fun us => match s (ev0 n us) with
  | .rt u ρ => match ρ[0]? with
    | some (some w) => .ok (u, w)
    | _ => .stk
  | .nx ρ => match ρ[0]? with
    | some (some w) => .ok (.non, w)
    | _ => .stk
  | .exc c u => .exc c u
  | _ => .stk
theorem ev0_get {n i : Nat} {us : List U} {u : U} (h : (ev0 n us)[i]? = some (some u)) : us[i]? = some u := by
  unfold ev0 at h
  by_cases c : i < (us.map some).length
  · rw [List.getElem?_append_left c, List.getElem?_map] at h
    cases e : us[i]? with
    | none => rw [e] at h; cases h
    | some w => rw [e] at h; simp at h; rw [h]
  · rw [List.getElem?_append_right (by omega), List.getElem?_replicate] at h
    split at h
    · cases h
    · cases h
theorem start_get {N : List Str} {i : Nat} {vs : List V} {v : V} (h : vs[i]? = some v) : (start N vs)[i]? = some (some v) := by
  unfold start
  have c : i < (vs.map some).length := by rw [List.length_map]; exact (List.getElem?_eq_some_iff.mp h).1
  rw [List.getElem?_append_left c, List.getElem?_map, h]
  rfl
theorem ev0_len {N : List Str} {us : List U} {vs : List V} (h : us.length = vs.length) : (ev0 N.length us).length = (start N vs).length := by
  unfold ev0 start
  rw [List.length_append, List.length_append, List.length_map, List.length_map, List.length_replicate, List.length_replicate, h]
section
variable {P : Program} {w : World} {K : PySem.W.Frag} {mg : Str → Option Value} {base : Heap} {x : Str} {k : Nat} {ps : List Str}
theorem body_D {st : Stmt} {N : List Str} (G : Gm) (m : Md) (s : Ev → SR)
    (hio : G.io = false) (hown : ∀ i, i < ps.length → G.is i = false)
    (hbody : ∀ (f : Addr) (cdv : Value) (A : Around) (outer : List Env) (s0 : Shared) (H : Hp) (E : XK), Room k (A.deeper (envOfC x (defScope st) s0.heap.objs.size f cdv)) →
      DSs (cxOf CX0 P w K mg base N x (defScope st) f cdv A outer s0 H E).nox G m (defBody st) s) :
    (∀ vs H Q E, spD K ps.length (runF m N.length s) m vs H Q E → vs.length = ps.length) ∧ ∀ (f : Addr) (cdv : Value) (A : Around) (outer : List Env) (s0 : Shared) (H : Hp) (vs : List V) (Q : VK) (E : XK), Room k (A.deeper (envOfC x (defScope st) s0.heap.objs.size f cdv)) → spD K ps.length (runF m N.length s) m vs H Q E →
      ∃ t, PSs (cxOf CX0 P w K mg base N x (defScope st) f cdv A outer s0 H E).nox (defBody st) t ∧ t { nx := fun _ H' => Q .non H', rt := Q } (start N vs) H := by
  have hl : ∀ (us : List U) (A : Addr → Prop) (H : Hp) (Q : VK), FitF K m A H (fnN ps.length (runF m N.length s) us) Q → us.length = ps.length := fun us A H Q h => by
    unfold fnN at h
    split at h
    · assumption
    · exact h.elim
  refine ⟨fun vs H Q E ⟨us, A, r, _, h⟩ => by rw [← r.length]; exact hl us A H Q h, fun f cdv A outer s0 H vs Q E hr ⟨us, A0, r, mu, h⟩ => ⟨_, (hbody f cdv A outer s0 H E hr).un, ?_⟩⟩
  have l := hl us A0 H Q h
  unfold fnN at h
  rw [if_pos l] at h
  refine ⟨⟨A0, H, 0⟩, A0, ev0 N.length us, ?_, ?_⟩
  · exact {
      slot := fun i u hu => by
        have hu := ev0_get hu
        obtain ⟨v, h1, h2⟩ := r.get hu
        refine ⟨v, start_get h1, ?_⟩
        rw [if_neg (by rw [hown i (by rw [← l]; exact (List.getElem?_eq_some_iff.mp hu).1)]; exact Bool.false_ne_true)]
        exact h2
      dis := fun i j u w a ci cj ne hi hj si sj => by
        rw [hown i (by rw [← l]; exact (List.getElem?_eq_some_iff.mp (ev0_get hi)).1)] at ci; cases ci
      mu := mu
      sup := fun a h => h
      out := fun a h => .inl h
      bas := fun a o h => h
      io0 := fun h => by rw [hio] at h; cases h
      len := ev0_len r.length }
  · unfold runF at h
    cases e : s (ev0 N.length us) with
    | nx ρ' =>
      rw [e] at h
      dsimp only at h
      intro A' σ' H' q
      split at h
      · rename_i hm
        subst hm
        exact h _ H' q.bas (show Rp K H' A0 .non .non from rp_non)
      · exact h.elim
    | rt u ρ' =>
      rw [e] at h
      intro A' σ' H' v q vm
      refine h v H' q.bas ?_
      cases m with
      | S => exact vm
      | P => exact vm.elim
      | O =>
        obtain ⟨a, e1, e2, e3, e4⟩ := vm
        exact ⟨a, e1, e2, e4⟩
    | bk => rw [e] at h; exact h.elim
    | ct => rw [e] at h; exact h.elim
    | exc => rw [e] at h; exact h.elim
    | stk => rw [e] at h; exact h.elim
theorem Df.fnD {st : Stmt} {N : List Str} (G : Gm) (m : Md) (s : Ev → SR) (d : Df K mg x st) (S : FnScope N ps (defScope st))
    (hb : ∀ (kV doc pm : Value) (an : Option Addr) (cdv ct : Value) (us : List Value), us.length = ps.length → bindArgs (PySem.W.fnOf x x (defArgs st) (defBody st) (defScope st) .none kV doc pm an cdv ct) ⟨us, []⟩ = pure (ps.zip us))
    (hio : G.io = false) (hown : ∀ i, i < ps.length → G.is i = false)
    (hbody : ∀ (f : Addr) (cdv : Value) (A : Around) (outer : List Env) (s0 : Shared) (H : Hp) (E : XK), Room k (A.deeper (envOfC x (defScope st) s0.heap.objs.size f cdv)) →
      DSs (cxOf CX0 P w K mg base N x (defScope st) f cdv A outer s0 H E).nox G m (defBody st) s) : Fn P w K mg base x (k + 1) ps (spD K ps.length (runF m N.length s) m) :=
  d.fn S hb (body_D G m s hio hown hbody).1 (body_D G m s hio hown hbody).2
theorem Fun.okD {st : Stmt} {N : List Str} {f : Addr} {fd : FuncData} (G : Gm) (m : Md) (s : Ev → SR) (F : Fun K x x st f fd) (S : FnScope N ps (defScope st))
    (hio : G.io = false) (hown : ∀ i, i < ps.length → G.is i = false)
    (hbody : ∀ (f : Addr) (cdv : Value) (A : Around) (outer : List Env) (s0 : Shared) (H : Hp) (E : XK), Room k (A.deeper (envOfC x (defScope st) s0.heap.objs.size f cdv)) →
      DSs (cxOf CX0 P w K mg base N x (defScope st) f cdv A outer s0 H E).nox G m (defBody st) s) : FnOk P w K mg base CX0 (k + 1) f fd ps (spD K ps.length (runF m N.length s) m) :=
  F.ok S (body_D G m s hio hown hbody).1 ((body_D G m s hio hown hbody).2 f)
/-- what a law's def is to do -/
def spLaw (K : PySem.W.Frag) : Sp := fun vs H Q _ => ∃ (a : Addr) (ns : List Int), vs = [.ref a] ∧ Scr K H a (ns.map V.int) ∧ ns.length ≤ 63 ∧ ∀ H', Q (.bl true) H'
theorem scr_of {H : Hp} {a : Addr} {xs : List V} (hO : Only H) (h : SqL K H a xs) : Scr K H a xs := by
  rcases h with (h | h) | h
  · rcases hO a with z | ⟨o, ys, z⟩
    · rw [h] at z; cases z
    · rw [h] at z; cases z
  · exact .inl h
  · exact .inr h
theorem rps_mapI {H : Hp} {A : Addr → Prop} : ∀ (ns : List Int), Rps K H A (ns.map .int) (ns.map V.int)
  | [] => Rps.nil
  | n :: ns => Rps.cons rp_int (rps_mapI ns)
theorem law_of {f : List U → R U} {fa : Addr} {fd : FuncData} (F : FnOk P w K mg base CX0 k fa fd ["script"] (spD K 1 f .S)) (h : ∀ ns : List Int, ns.length ≤ 63 → f [.scr (ns.map .int)] = .ok (.bl true)) : FnOk P w K mg base CX0 k fa fd ["script"] (spLaw K) := by
  refine F.imp fun vs H Q E ⟨a, ns, e, sc, l, q⟩ => ?_
  subst e
  have hl : (ns.map U.int).length ≤ sizeLine := by rw [List.length_map]; have : sizeLine = 16777216 := rfl; omega
  refine ⟨[.scr (ns.map .int)], fun _ => False, Rps.cons ?_ Rps.nil, fun _ h => h.elim, ?_⟩
  · unfold Rp
    exact ⟨a, _, rfl, sc, hl, rps_mapI ns⟩
  · have e : fnN 1 f [.scr (ns.map .int)] = .ok (.bl true) := (if_pos rfl).trans (h ns l)
    rw [e]
    intro v H' sm vm
    have vm : Rp K H' (fun _ => False) (.bl true) v := vm
    unfold Rp at vm
    subst vm
    exact q H'
theorem Df.fnI {st : Stmt} {N : List Str} (G : Gm) (s : Ev → SR) (d : Df K mg x st) (S : FnScope N ps (defScope st))
    (hb : ∀ (kV doc pm : Value) (an : Option Addr) (cdv ct : Value) (us : List Value), us.length = ps.length → bindArgs (PySem.W.fnOf x x (defArgs st) (defBody st) (defScope st) .none kV doc pm an cdv ct) ⟨us, []⟩ = pure (ps.zip us))
    (hio : G.io = true) (h0 : G.is 0 = true) (hown : ∀ i, i < ps.length → i ≠ 0 → G.is i = false)
    (hbody : ∀ (f : Addr) (cdv : Value) (A : Around) (outer : List Env) (s0 : Shared) (H : Hp) (E : XK), Room k (A.deeper (envOfC x (defScope st) s0.heap.objs.size f cdv)) →
      DSs (cxOf CX0 P w K mg base N x (defScope st) f cdv A outer s0 H E).nox G .S (defBody st) s) : Fn P w K mg base x (k + 1) ps (spI K ps.length (runI N.length s)) := by
  refine d.fn S hb ?_ ?_
  · rintro vs H Q E ⟨u0, us, a0, vs', A, rfl, _, _, r, _, h⟩
    unfold fnN at h
    split at h
    · rename_i e
      split at e
      · rename_i l
        rw [List.length_cons, ← r.length, ← l]; rfl
      · cases e
    · exact h.elim
  · rintro f cdv A outer s0 H vs Q E hr ⟨u0, us, a0, vs', A0, rfl, ha, t0, r, mu, h⟩
    refine ⟨_, (hbody f cdv A outer s0 H E hr).un, ?_⟩
    have l : (u0 :: us).length = ps.length := by
      unfold fnN at h
      by_cases c : (u0 :: us).length = ps.length
      · exact c
      · rw [if_neg c] at h; exact h.elim
    unfold fnN at h
    rw [if_pos l] at h
    let Z : Pkg := ⟨A0, fun b => if b = a0 then none else H b, a0⟩
    have zb : ∀ b o, b ≠ a0 → H b = some o → Z.B b = some o := fun b o nb z => by
      show (if b = a0 then none else H b) = some o
      rw [if_neg nb]; exact z
    have rel : Rel K G Z A0 (ev0 N.length (u0 :: us)) (start N (.ref a0 :: vs')) H := {
      slot := fun i u hu => by
        have hu := ev0_get hu
        cases i with
        | zero =>
          simp at hu; subst hu
          refine ⟨.ref a0, start_get (by simp), ?_⟩
          rw [if_pos h0]
          exact ⟨a0, rfl, ha, by show (if a0 = a0 then none else H a0) = none; rw [if_pos rfl], .inr ⟨hio, rfl⟩, t0⟩
        | succ i =>
          have hl := (List.getElem?_eq_some_iff.mp hu).1
          rw [List.getElem?_cons_succ] at hu
          obtain ⟨v, h1, h2⟩ := r.get hu
          refine ⟨v, start_get (by rw [List.getElem?_cons_succ]; exact h1), ?_⟩
          rw [if_neg (by rw [hown (i + 1) (by rw [← l]; exact hl) (by omega)]; exact Bool.false_ne_true)]
          exact h2
      dis := fun i j u w a ci cj ne hi hj si sj => by
        have hi := (List.getElem?_eq_some_iff.mp (ev0_get hi)).1
        have hj := (List.getElem?_eq_some_iff.mp (ev0_get hj)).1
        by_cases e : i = 0
        · rw [hown j (by rw [← l]; exact hj) (by omega)] at cj; cases cj
        · rw [hown i (by rw [← l]; exact hi) e] at ci; cases ci
      mu := mu
      sup := fun a h => h
      out := fun a h => .inl h
      bas := fun a o h => by
        by_cases c : a = a0
        · have h : (if a = a0 then none else H a) = some o := h
          rw [if_pos c] at h; cases h
        · have h : (if a = a0 then none else H a) = some o := h
          rw [if_neg c] at h; exact h
      io0 := fun _ => ⟨start_get (vs := .ref a0 :: vs') (i := 0) (v := .ref a0) rfl, h0⟩
      len := ev0_len (by rw [List.length_cons, List.length_cons, r.length]) }
    have fin : ∀ (A' : Addr → Prop) (ρ' : Ev) (σ' : St) (H' : Hp) (w : U), Rel K G Z A' ρ' σ' H' → ρ'[0]? = some (some w) → (∀ b o, b ≠ a0 → H b = some o → H' b = some o) ∧ Top K H' A0 w a0 := fun A' ρ' σ' H' w q hw => by
      obtain ⟨a, e1, e2, e3, e4, e5⟩ := q.own h0 hw
      rw [(q.io0 hio).1] at e1
      cases e1
      exact ⟨fun b o nb z => q.bas b o (zb b o nb z), e5.mono q.sup⟩
    refine ⟨Z, A0, _, rel, ?_⟩
    unfold runI at h
    cases e : s (ev0 N.length (u0 :: us)) with
    | nx ρ' =>
      rw [e] at h
      dsimp only at h
      intro A' σ' H' q
      split at h
      · rename_i hm
        split at hm
        · rename_i w hw
          cases hm
          obtain ⟨z1, z2⟩ := fin A' ρ' σ' H' _ q hw
          exact h _ H' z1 z2 rp_non
        · cases hm
      · exact h.elim
    | rt u ρ' =>
      rw [e] at h
      dsimp only at h
      intro A' σ' H' v q vm
      split at h
      · rename_i hm
        split at hm
        · rename_i w hw
          cases hm
          obtain ⟨z1, z2⟩ := fin A' ρ' σ' H' _ q hw
          exact h _ H' z1 z2 vm
        · cases hm
      · exact h.elim
    | bk => rw [e] at h; exact h.elim
    | ct => rw [e] at h; exact h.elim
    | exc => rw [e] at h; exact h.elim
    | stk => rw [e] at h; exact h.elim
end
/-! ### xs[k] = e, x += e -/
section
variable {X : Cx} {G : Gm} {e e2 : Expr} {pos p1 p2 : Pos} {x y : Str} {b1 b2 : Bool} {m m1 m2 : Md} {g1 g2 : Ev → R (U × Ev)}
def sSetI (i : Nat) (gv gk : Ev → R (U × Ev)) : Ev → SR := fun ρ => SR.of (gv ρ) fun x => if live x.2 i = true then SR.of (gk x.2) fun y => match y.1 with
  | .int k => match y.2[i]? with
    | some (some (.lst us)) => match ixN us.length k with
      | some j => .nx (y.2.set i (some (.lst (us.set j x.1))))
      | none => .stk
    | _ => .stk
  | _ => .stk
  else .stk
theorem ds_setI {i : Nat} (he : DE X G e b1 m1 g1) (hk : DE X G e2 b2 m2 g2) (hn : m1 ≠ .P := by decide) (hN : X.N[i]? = some y := by rfl) (hv : Vis X.env.scope y := by first | exact Or.inl rfl | exact Or.inr (Or.inl rfl) | exact Or.inr (Or.inr rfl)) (c : G.is i = true := by rfl)
    (hd : (y == ("__debug__" : Str)) = false := by decide) (hcd : (y == ("__classdict__" : Str)) = false := by decide)
    (ha : ∀ v, assign (.Subscript (.Name y p1) e2 p2) X.env v = (do
      let ov ← holding [v] (eval (.Name y p1) X.env)
      let iv ← holding [v, ov] (eval e2 X.env)
      standAt p2
      holding [v, ov, iv] (setItem ov iv v)
      release [v, ov, iv] []) := by intro _; rfl)
    (hs : swapsWithSole [.Subscript (.Name y p1) e2 p2] e pos.line X.env = pure false := by rfl) (hw : swappedStores [.Subscript (.Name y p1) e2 p2] e X.env = pure none := by rfl)
    (h1 : (assignEach [.Subscript (.Name y p1) e2 p2] X.env).map (·.2) = [assign (.Subscript (.Name y p1) e2 p2) X.env] := by rfl) : DS X G m (.Assign [.Subscript (.Name y p1) e2 p2] e pos) (sSetI i g1 g2) := ⟨(ps_asg he.un (pg_sub (pe_var hN hv hd hcd) hk.un set_list ha) hs hw h1).to fun D σ H ⟨Z, A, ρ, q, f⟩ => by
  obtain ⟨⟨u, ρ1⟩, e1, f⟩ := f.of
  refine ⟨Z, A, ρ, q, ?_⟩
  rw [e1]
  intro v H1 q1 x1 s1 vm
  dsimp only at f
  split at f
  · rename_i hl
    obtain ⟨u00, hu0⟩ := live_ex hl
    obtain ⟨a0, h0, _⟩ := q1.own c hu0
    obtain ⟨⟨k, ρ2⟩, e2, f⟩ := f.of
    refine ⟨.ref a0, h0, Z, A, ρ1, q1, ?_⟩
    rw [e2]
    intro v2 H2 q2 x2 s2 vm2
    dsimp only at f
    cases k with
    | int kk =>
      dsimp only at f
      split at f
      · rename_i us hu
        split at f
        · rename_i j hj
          obtain ⟨a0', k1, k2, _, _, k5⟩ := q2.own c hu
          rw [h0] at k1; cases k1
          obtain ⟨xs, t1, t2, t3⟩ := k5
          refine ⟨a0, xs, kk, j, rfl, vm2.pk.int, t1, by rw [← t3.length]; exact hj, ?_⟩
          have em : ∀ b o, b ≠ a0 → H2 b = some o → upd H2 a0 (.lst (xs.set j v)) b = some o := fun b o nb z => by rw [upd_ne nb]; exact z
          have ex : Ext A H2 (upd H2 a0 (.lst (xs.set j v))) := fun b o nb z => em b o (fun y => nb (y ▸ k2)) z
          refine f A σ _ (q2.put c hu h0 em ⟨xs.set j v, upd_same, by rw [List.length_set]; exact t2, ?_⟩)
          exact (t3.re q2.mu ex fun b z => .inl z).set j (((vm.rp hn).re q1.mu x2 fun b z => .inl z).re q2.mu ex fun b z => .inl z)
        · exact f.elim
      · exact f.elim
    | _ => exact f.elim
  · exact f.elim⟩
def sAug (i : Nat) (p : U → U → R U) (g : Ev → R (U × Ev)) : Ev → SR := fun ρ => match ρ[i]? with
  | some (some u) => SR.of (g ρ) fun y => SR.of (p u y.1) fun z => .nx (y.2.set i (some z))
  | _ => .stk
end
end L2
end
section
set_option Elab.async false
set_option linter.all false
set_option maxRecDepth 100000
set_option maxHeartbeats 4000000
namespace L2
open PySem PySem.Spec PyProof.Rows
section
variable {X : Cx} {K : PySem.W.Frag}
/-! ### lists, also one that is known -/
def rCatR : R2 := fun x y H Q => ∃ l b xs zs, x = .ref l ∧ y = .ref b ∧ H l = some (.lst xs) ∧ H b = some (.lst zs) ∧ xs.length + zs.length ≤ sizeLine ∧ ∀ p, H p = none → Q (.ref p) (upd H p (.lst (xs ++ zs)))
theorem op_catR : OpR X (binaryOp .Add) rCatR := by
  intro pins s σ H x y v u Q I rx ry h
  obtain ⟨l, b, xs, zs, rfl, rfl, hH, hB, hz, q⟩ := h
  cases rx
  cases ry
  obtain ⟨z, its, n, r, hl, e⟩ := I.lstM hH
  obtain ⟨z2, its2, n2, r2, hl2, e2⟩ := I.lstM hB
  refine PySem.P.add_list e e2 ?_ (by rw [List.size_toArray, List.size_toArray]; omega)
  have ea : its.toArray ++ its2.toArray = (its ++ its2).toArray := by simp
  rw [ea]
  exact ⟨.ref _, _, I.lnew (t' := s.toks) (r.append r2) (by rw [List.length_append]; omega), rfl, q _ I.fresh⟩
/-! ### + -/
def pAdd : U → U → R U := fun u w => match u, w with
  | .int i, .int j => .ok (.int (i + j))
  | .tup a, .tup b => if a.length + b.length ≤ sizeLine then .ok (.tup (a ++ b)) else .stk
  | .lst a, .lst b => if a.length + b.length ≤ sizeLine then .ok (.lst (a ++ b)) else .stk
  | _, _ => .stk
def pCat : U → U → R U := fun u w => match u, w with
  | .lst a, .lst b => if a.length + b.length ≤ sizeLine then .ok (.lst (a ++ b)) else .stk
  | _, _ => .stk
def rAdd3 : R2 := fun x y H Q => (rI0 fun i j => .int (i + j)) x y H Q ∨ rCatTT x y H Q ∨ rCatR x y H Q
theorem op_add3 : OpR X (binaryOp .Add) rAdd3 := op_add.or (op_catTT.or op_catR)
theorem fit_cat : Fit2 K rCatR .O pCat := fun A H x y u w z Q hx hy mu e q => by
  unfold pCat at e
  cases u <;> cases w <;> try cases e
  rename_i us ws
  dsimp only at e
  split at e
  · rename_i hl
    cases e
    unfold Pk at hx hy
    obtain ⟨a, xs, rfl, h1, l1, r1⟩ := hx
    obtain ⟨b, ys, rfl, h2, l2, r2⟩ := hy
    exact ⟨a, b, xs, ys, rfl, rfl, h1, h2, by rw [← r1.length, ← r2.length]; exact hl, fun p hp => q _ _ (upd_S hp _) ⟨p, rfl, hp, top_newlst mu (r1.append r2) hp (by rw [List.length_append]; exact hl)⟩⟩
  · cases e
theorem fit_add : Fit2 K rAdd3 .S pAdd := fun A H x y u w z Q hx hy mu e q => by
  unfold pAdd at e
  cases u <;> cases w <;> try cases e
  case int.int i j => exact .inl ⟨i, j, hx.int, hy.int, q _ H (Same.refl _) (show Rp K H A _ _ from rp_int)⟩
  case tup.tup us ws =>
    dsimp only at e
    split at e
    · rename_i hl
      cases e
      unfold Pk at hx hy
      obtain ⟨a, xs, rfl, h1, l1, r1⟩ := hx
      obtain ⟨b, ys, rfl, h2, l2, r2⟩ := hy
      refine .inr (.inl ⟨a, b, xs, ys, rfl, rfl, h1, h2, by rw [← r1.length, ← r2.length]; exact hl, fun r H' sm hr => q _ H' sm (show Rp K H' A _ _ from ?_)⟩)
      unfold Rp
      exact ⟨r, _, rfl, hr, by rw [List.length_append]; exact hl, (r1.append r2).same sm⟩
    · cases e
  case lst.lst us ws =>
    refine .inr (.inr (fit_cat A H x y (.lst us) (.lst ws) z Q hx hy mu e fun v H' sm vm => q v H' sm ?_))
    obtain ⟨a, rfl, na, t⟩ := vm
    exact t.rp (fun b h => .inl h) fun h => by have := mu a h; rw [na] at this; exact this
/-! ### numbers -/
def pI (c : Int → Int → Bool) (f : Int → Int → Int) : U → U → R U := fun u w => match u, w with
  | .int i, .int j => if c i j = true then .ok (.int (f i j)) else .stk
  | _, _ => .stk
theorem fit_I {C : Int → Int → Prop} {c : Int → Int → Bool} {f : Int → Int → Int} (h : ∀ i j, c i j = true → C i j) : Fit2 K (rI C fun i j => .int (f i j)) .S (pI c f) := fun A H x y u w z Q hx hy mu e q => by
  unfold pI at e
  cases u <;> cases w <;> try cases e
  rename_i i j
  dsimp only at e
  split at e
  · rename_i hc
    cases e
    exact ⟨i, j, hx.int, hy.int, h i j hc, q _ H (Same.refl _) (show Rp K H A _ _ from rp_int)⟩
  · cases e
def pSub : U → U → R U := fun u w => match u, w with
  | .int i, .int j => .ok (.int (i - j))
  | _, _ => .stk
theorem fit_sub : Fit2 K (rI0 fun i j => .int (i - j)) .S pSub := fun A H x y u w z Q hx hy mu e q => by
  unfold pSub at e
  cases u <;> cases w <;> cases e
  exact ⟨_, _, hx.int, hy.int, q _ H (Same.refl _) (show Rp K H A _ _ from rp_int)⟩
def cMul (i j : Int) : Bool := (decide (-(2 ^ 64) < i) && decide (i < 2 ^ 64)) || (decide (-(2 ^ 64) < j) && decide (j < 2 ^ 64))
def pMulI : U → U → R U := pI cMul (· * ·)
theorem fit_mul : Fit2 K (rI CMul fun i j => .int (i * j)) .S pMulI := fit_I fun i j h => by
  unfold cMul at h
  simp only [Bool.or_eq_true, Bool.and_eq_true, decide_eq_true_eq] at h
  exact h
def cDiv (_ j : Int) : Bool := decide (0 < j) && decide (j < 18446744073709551616)
def pFdiv : U → U → R U := pI cDiv (· / ·)
theorem fit_fdiv : Fit2 K (rI CDiv64 fun i j => .int (i / j)) .S pFdiv := fit_I fun i j h => by
  unfold cDiv at h
  simp only [Bool.and_eq_true, decide_eq_true_eq] at h
  exact h
def pMod : U → U → R U := pI (fun _ j => decide (0 < j)) (· % ·)
theorem fit_mod : Fit2 K (rI (fun _ j => 0 < j) fun i j => .int (i % j)) .S pMod := fit_I fun i j h => of_decide_eq_true h
def cPow (i j : Int) : Bool := decide (0 ≤ j) && decide (j ≤ 1000000) && decide (i.natAbs < 2 ^ 64)
def pPow : U → U → R U := pI cPow fun i j => i ^ j.toNat
theorem fit_pow : Fit2 K (rI CPow fun i j => .int (i ^ j.toNat)) .S pPow := fit_I fun i j h => by
  unfold cPow at h
  simp only [Bool.and_eq_true, decide_eq_true_eq] at h
  exact ⟨h.1.1, h.1.2, h.2⟩
def pNeg : U → R U := fun u => match u with
  | .int i => .ok (.int (-i))
  | _ => .stk
/-! ### comparisons -/
def pC (f : Int → Int → Bool) : U → U → R U := fun u w => match u, w with
  | .int i, .int j => .ok (.bl (f i j))
  | _, _ => .stk
theorem fit_C {f : Int → Int → Bool} : Fit2 K (rI0 fun i j => .bl (f i j)) .S (pC f) := fun A H x y u w z Q hx hy mu e q => by
  unfold pC at e
  cases u <;> cases w <;> cases e
  exact ⟨_, _, hx.int, hy.int, q _ H (Same.refl _) (show Rp K H A _ _ from rp_bl)⟩
def pLt : U → U → R U := pC fun i j => decide (i < j)
def pLe : U → U → R U := pC fun i j => decide (i ≤ j)
def pGt : U → U → R U := pC fun i j => decide (j < i)
def pGe : U → U → R U := pC fun i j => decide (j ≤ i)
mutual
def toD : U → Option D
  | .non => some .non
  | .bl b => some (.bl b)
  | .int i => some (.int i)
  | .str x => some (.str x)
  | .tup us => (toDs us).map .tup
  | .lst us => (toDs us).map .lst
  | .dct _ _ => none
  | .scr _ => none
def toDs : List U → Option (List D)
  | [] => some []
  | u :: us => (toD u).bind fun d => (toDs us).map fun ds => d :: ds
end
mutual
theorem rep_of {H : Hp} {A : Addr → Prop} : ∀ {u : U} {v : V} {d : D}, Rp K H A u v → toD u = some d → Rep K H d v
  | .non, v, d, h, e => by unfold toD at e; cases e; unfold Rp at h; unfold Rep; exact h
  | .bl b, v, d, h, e => by unfold toD at e; cases e; unfold Rp at h; unfold Rep; exact h
  | .int b, v, d, h, e => by unfold toD at e; cases e; unfold Rp at h; unfold Rep; exact h
  | .str b, v, d, h, e => by unfold toD at e; cases e; unfold Rp at h; unfold Rep; exact h
  | .tup us, v, d, h, e => by
    unfold toD at e
    cases e2 : toDs us with
    | none => rw [e2] at e; cases e
    | some ds =>
      rw [e2] at e; cases e
      unfold Rp at h; unfold Rep
      obtain ⟨a, xs, r, q, l, z⟩ := h
      exact ⟨a, xs, r, SqT.of q, reps_of z e2⟩
  | .lst us, v, d, h, e => by
    unfold toD at e
    cases e2 : toDs us with
    | none => rw [e2] at e; cases e
    | some ds =>
      rw [e2] at e; cases e
      unfold Rp at h; unfold Rep
      obtain ⟨a, xs, r, _, q, l, z⟩ := h
      exact ⟨a, xs, r, SqL.of q, reps_of z e2⟩
  | .dct _ _, v, d, h, e => by unfold toD at e; cases e
  | .scr _, v, d, h, e => by unfold toD at e; cases e
theorem reps_of {H : Hp} {A : Addr → Prop} : ∀ {us : List U} {vs : List V} {ds : List D}, Rps K H A us vs → toDs us = some ds → Reps K H ds vs
  | [], vs, ds, h, e => by unfold toDs at e; cases e; unfold Rps at h; unfold Reps; exact h
  | u :: us, vs, ds, h, e => by
    unfold toDs at e
    cases e1 : toD u with
    | none => rw [e1] at e; cases e
    | some d =>
      cases e2 : toDs us with
      | none => rw [e1, e2] at e; cases e
      | some ds' =>
        rw [e1, e2] at e; cases e
        unfold Rps at h; unfold Reps
        obtain ⟨x, r, q, p, z⟩ := h
        exact ⟨x, r, q, rep_of p e1, reps_of z e2⟩
end
theorem rep_pk {H : Hp} {A : Addr → Prop} {u : U} {v : V} {d : D} (h : Pk K H A u v) (e : toD u = some d) : Rep K H d v := by
  cases u with
  | lst us =>
    unfold toD at e
    cases e2 : toDs us with
    | none => rw [e2] at e; cases e
    | some ds =>
      rw [e2] at e; cases e
      unfold Pk at h; unfold Rep
      obtain ⟨a, xs, r, q, l, z⟩ := h
      exact ⟨a, xs, r, SqL.of q, reps_of z e2⟩
  | dct => unfold toD at e; cases e
  | scr => unfold toD at e; cases e
  | tup us => exact rep_of (A := A) (by unfold Pk at h; unfold Rp; exact h) e
  | _ => exact rep_of (A := A) (by unfold Pk at h; unfold Rp; exact h) e
def eqUU (u w : U) : R Bool := match toD u, toD w with
  | some d, some d' => if depD d ≤ 30 then .ok (eqD d d') else .stk
  | _, _ => .stk
def pEq (f : Bool → Bool) : U → U → R U := fun u w => (eqUU u w).bind fun b => .ok (.bl (f b))
theorem fit_eq {f : Bool → Bool} : Fit2 K (rEqD K f) .S (pEq f) := fun A H x y u w z Q hx hy mu e q => by
  unfold pEq eqUU at e
  obtain ⟨b, e1, e2⟩ := R.bind_ok e
  split at e1
  · rename_i d d' h1 h2
    split at e1
    · rename_i hd
      cases e1
      cases e2
      exact ⟨d, d', rep_pk hx h1, rep_pk hy h2, hd, q _ H (Same.refl _) (show Rp K H A _ _ from rp_bl)⟩
    · cases e1
  · cases e1
/-! ### is -/
def isNon : U → Bool
  | .non => true
  | _ => false
def pIsN (f : Bool → Bool) : U → U → R U := fun u w => match w with
  | .non => .ok (.bl (f (isNon u)))
  | _ => .stk
def pIsB (f : Bool → Bool) : U → U → R U := fun u w => match u, w with
  | .bl a, .bl b => .ok (.bl (f (decide (a = b))))
  | _, _ => .stk
/-! ### x[i] -/
theorem at_rps {H : Hp} {A : Addr → Prop} {us : List U} {xs : List V} {i : Int} {z : U} (r : Rps K H A us xs) (e : atI us i = some z) : ∃ v, atI xs i = some v ∧ Rp K H A z v := by
  unfold atI at e ⊢
  rw [← r.length]
  cases h : ixN us.length i with
  | none => rw [h] at e; cases e
  | some j =>
    rw [h] at e
    obtain ⟨v, h1, h2⟩ := r.get (show us[j]? = some z from e)
    exact ⟨v, h1, h2⟩
def pIx : U → U → R U := fun u w => match u, w with
  | .lst us, .int i => match atI us i with
    | some z => .ok z
    | none => .stk
  | .tup us, .int i => match atI us i with
    | some z => .ok z
    | none => .stk
  | .scr us, .int i => match atI us i with
    | some z => .ok z
    | none => .stk
  | .str x, .int i => match atI x.cps.toList i with
    | some c => if x.length ≤ sizeLine then .ok (.str ⟨#[c]⟩) else .stk
    | none => .stk
  | _, _ => .stk
theorem fit_ix : Fit2 K (rIx K) .S pIx := fun A H x y u w z Q hx hy mu e q => by
  unfold pIx at e
  cases u <;> cases w <;> try cases e
  case lst.int us i =>
    dsimp only at e
    split at e
    · rename_i z' hz
      cases e
      unfold Pk at hx
      obtain ⟨a, xs, rfl, h1, l1, r1⟩ := hx
      obtain ⟨v, h2, h3⟩ := at_rps r1 hz
      exact .inl ⟨a, xs, i, v, rfl, hy.int, SqL.of h1, h2, q _ H (Same.refl _) h3⟩
    · cases e
  case tup.int us i =>
    dsimp only at e
    split at e
    · rename_i z' hz
      cases e
      unfold Pk at hx
      obtain ⟨a, xs, rfl, h1, l1, r1⟩ := hx
      obtain ⟨v, h2, h3⟩ := at_rps r1 hz
      exact .inr (.inl ⟨a, xs, i, v, rfl, hy.int, SqT.of h1, h2, q _ H (Same.refl _) h3⟩)
    · cases e
  case scr.int us i =>
    dsimp only at e
    split at e
    · rename_i z' hz
      cases e
      unfold Pk at hx
      obtain ⟨a, xs, rfl, h1, l1, r1⟩ := hx
      obtain ⟨v, h2, h3⟩ := at_rps r1 hz
      exact .inl ⟨a, xs, i, v, rfl, hy.int, h1.sq, h2, q _ H (Same.refl _) h3⟩
    · cases e
  case str.int us i =>
    dsimp only at e
    split at e
    · rename_i z' hz
      split at e
      · rename_i hl
        cases e
        exact .inr (.inr ⟨us, i, z', hx.str, hy.int, hl, hz, q _ H (Same.refl _) (show Rp K H A _ _ from rp_str)⟩)
      · cases e
    · cases e
/-! ### x[lo:hi] -/
def cutL {α : Type} (xs : List α) (lo hi : Option Int) : List α := (xs.drop (HT.sIx xs.length 0 lo)).take (HT.sIx xs.length xs.length hi - HT.sIx xs.length 0 lo)
theorem cutL_length {α : Type} (xs : List α) (lo hi : Option Int) : (cutL xs lo hi).length ≤ xs.length := by
  unfold cutL
  rw [List.length_take, List.length_drop]
  omega
theorem cut_rps {H : Hp} {A : Addr → Prop} {us : List U} {xs : List V} (r : Rps K H A us xs) (lo hi : Option Int) : Rps K H A (cutL us lo hi) (cutV xs lo hi) := by
  unfold cutL cutV
  rw [← r.length]
  exact (r.drop _).take _
theorem sl_listR : SlR X (fun x lo hi H Q => rSlL X.K x lo hi H Q ∨ rSlTT X.K x lo hi H Q) := sl_list.or sl_tupT
def pSl : U → Option Int → Option Int → R U := fun u lo hi => match u with
  | .lst us => .ok (.lst (cutL us lo hi))
  | .scr us => .ok (.lst (cutL us lo hi))
  | .tup us => .ok (.tup (cutL us lo hi))
  | _ => .stk
def pSlL : U → Option Int → Option Int → R U := fun u lo hi => match u with
  | .lst us => .ok (.lst (cutL us lo hi))
  | .scr us => .ok (.lst (cutL us lo hi))
  | _ => .stk
theorem fit_slL : FitSl K (rSlL K) .O pSlL := fun A H x u lo hi z Q hx mu e q => by
  unfold pSlL at e
  cases u <;> try cases e
  case scr us =>
    unfold Pk at hx
    obtain ⟨a, xs, rfl, h1, l1, r1⟩ := hx
    exact ⟨a, xs, rfl, h1.sq, fun p hp => q _ _ (upd_S hp _) ⟨p, rfl, hp, top_newlst mu (cut_rps r1 lo hi) hp (Nat.le_trans (cutL_length _ _ _) l1)⟩⟩
  unfold Pk at hx
  obtain ⟨a, xs, rfl, h1, l1, r1⟩ := hx
  exact ⟨a, xs, rfl, SqL.of h1, fun p hp => q _ _ (upd_S hp _) ⟨p, rfl, hp, top_newlst mu (cut_rps r1 lo hi) hp (Nat.le_trans (cutL_length _ _ _) l1)⟩⟩
theorem fit_sl : FitSl K (fun x lo hi H Q => rSlL K x lo hi H Q ∨ rSlTT K x lo hi H Q) .S pSl := fun A H x u lo hi z Q hx mu e q => by
  unfold pSl at e
  cases u <;> try cases e
  case lst us =>
    refine .inl (fit_slL A H x (.lst us) lo hi _ Q hx mu rfl fun v H' sm vm => q v H' sm ?_)
    obtain ⟨a, rfl, na, t⟩ := vm
    exact t.rp (fun b h => .inl h) fun h => by have := mu a h; rw [na] at this; exact this
  case scr us =>
    refine .inl (fit_slL A H x (.scr us) lo hi _ Q hx mu rfl fun v H' sm vm => q v H' sm ?_)
    obtain ⟨a, rfl, na, t⟩ := vm
    exact t.rp (fun b h => .inl h) fun h => by have := mu a h; rw [na] at this; exact this
  case tup us =>
    unfold Pk at hx
    obtain ⟨a, xs, rfl, h1, l1, r1⟩ := hx
    refine .inr ⟨a, xs, rfl, h1, fun r H' sm hr => q _ H' sm (show Rp K H' A _ _ from ?_)⟩
    unfold Rp
    exact ⟨r, _, rfl, hr, Nat.le_trans (cutL_length _ _ _) l1, (cut_rps r1 lo hi).same sm⟩
end
end L2
end
section
set_option Elab.async false
set_option linter.all false
set_option maxRecDepth 100000
set_option maxHeartbeats 4000000
namespace L2
open PySem PySem.Spec PyProof.Rows
section
variable {X : Cx} {K : PySem.W.Frag}
theorem Pks.one {H : Hp} {A : Addr → Prop} {u : U} {vs : List V} (h : Pks K H A [u] vs) : ∃ v, vs = [v] ∧ Pk K H A u v := by
  unfold Pks at h
  obtain ⟨x, r, rfl, p, q⟩ := h
  unfold Pks at q
  subst q
  exact ⟨x, rfl, p⟩
theorem Pks.two {H : Hp} {A : Addr → Prop} {u w : U} {vs : List V} (h : Pks K H A [u, w] vs) : ∃ v v', vs = [v, v'] ∧ Pk K H A u v ∧ Pk K H A w v' := by
  unfold Pks at h
  obtain ⟨x, r, rfl, p, q⟩ := h
  obtain ⟨v, rfl, q'⟩ := Pks.one q
  exact ⟨x, v, rfl, p, q'⟩
/-! ### len -/
def pLen : List U → R U := fun us => match us with
  | [.lst xs] => .ok (.int xs.length)
  | [.tup xs] => .ok (.int xs.length)
  | [.scr xs] => .ok (.int xs.length)
  | [.str x] => if x.length ≤ sizeLine then .ok (.int x.length) else .stk
  | _ => .stk
theorem fit_len : FitC K (fun xs H Q => ∃ x n, xs = [x] ∧ LenV K x H n ∧ Q (.int n) H) .S pLen := fun A H vs us z Q h mu e q => by
  unfold pLen at e
  split at e
  · rename_i xs
    cases e
    obtain ⟨v, rfl, p⟩ := h.one
    unfold Pk at p
    obtain ⟨a, ys, rfl, h1, l1, r1⟩ := p
    exact ⟨_, xs.length, rfl, .inl ⟨ys, SqL.of h1, r1.length⟩, q _ H (Same.refl _) (show Rp K H A _ _ from rp_int)⟩
  · rename_i xs
    cases e
    obtain ⟨v, rfl, p⟩ := h.one
    unfold Pk at p
    obtain ⟨a, ys, rfl, h1, l1, r1⟩ := p
    exact ⟨_, xs.length, rfl, .inr ⟨ys, SqT.of h1, r1.length⟩, q _ H (Same.refl _) (show Rp K H A _ _ from rp_int)⟩
  · rename_i xs
    cases e
    obtain ⟨v, rfl, p⟩ := h.one
    unfold Pk at p
    obtain ⟨a, ys, rfl, h1, l1, r1⟩ := p
    exact ⟨_, xs.length, rfl, .inl ⟨ys, h1.sq, r1.length⟩, q _ H (Same.refl _) (show Rp K H A _ _ from rp_int)⟩
  · rename_i x
    split at e
    · rename_i hl
      cases e
      obtain ⟨v, rfl, p⟩ := h.one
      have := p.str
      subst this
      exact ⟨_, x.length, rfl, ⟨hl, rfl⟩, q _ H (Same.refl _) (show Rp K H A _ _ from rp_int)⟩
    · cases e
  · cases e
/-! ### list(x), tuple(x) -/
def pList : List U → R U := fun us => match us with
  | [.lst xs] => .ok (.lst xs)
  | [.tup xs] => .ok (.lst xs)
  | _ => .stk
def pTuple : List U → R U := fun us => match us with
  | [.lst xs] => .ok (.tup xs)
  | [.tup xs] => .ok (.tup xs)
  | _ => .stk
theorem fit_tuple : FitC K (fun xs H Q => ∃ p ys, xs = [.ref p] ∧ ((SqL K H p ys ∧ ∀ l, H l = none → Q (.ref l) (upd H l (.tup ys))) ∨ (SqT K H p ys ∧ Q (.ref p) H))) .S pTuple := fun A H vs us z Q h mu e q => by
  unfold pTuple at e
  split at e
  · rename_i xs
    cases e
    obtain ⟨v, rfl, p⟩ := h.one
    unfold Pk at p
    obtain ⟨a, ys, rfl, h1, l1, r1⟩ := p
    exact ⟨a, ys, rfl, .inl ⟨SqL.of h1, fun l hl => q _ _ (upd_S hl _) (rp_newtup r1 hl l1)⟩⟩
  · rename_i xs
    cases e
    obtain ⟨v, rfl, p⟩ := h.one
    have p' := p
    unfold Pk at p
    obtain ⟨a, ys, rfl, h1, l1, r1⟩ := p
    refine ⟨a, ys, rfl, .inr ⟨SqT.of h1, q _ H (Same.refl _) (show Rp K H A _ _ from ?_)⟩⟩
    unfold Rp; unfold Pk at p'; exact p'
  · cases e
/-! ### numbers -/
def pAbs : List U → R U := fun us => match us with
  | [.int i] => .ok (.int (if i < 0 then -i else i))
  | _ => .stk
def pMax2 : List U → R U := fun us => match us with
  | [.int i, .int j] => .ok (.int (if j > i then j else i))
  | _ => .stk
theorem fit_max2 : FitC K (fun xs H Q => ∃ i j, xs = [.int i, .int j] ∧ Q (.int (if j > i then j else i)) H) .S pMax2 := fun A H vs us z Q h mu e q => by
  unfold pMax2 at e
  split at e
  · cases e
    obtain ⟨v, w, rfl, p, p'⟩ := h.two
    exact ⟨_, _, by rw [p.int, p'.int], q _ H (Same.refl _) (show Rp K H A _ _ from rp_int)⟩
  · cases e
def pMin2 : List U → R U := fun us => match us with
  | [.int i, .int j] => .ok (.int (if j < i then j else i))
  | _ => .stk
theorem fit_min2 : FitC K (fun xs H Q => ∃ i j, xs = [.int i, .int j] ∧ Q (.int (if j < i then j else i)) H) .S pMin2 := fun A H vs us z Q h mu e q => by
  unfold pMin2 at e
  split at e
  · cases e
    obtain ⟨v, w, rfl, p, p'⟩ := h.two
    exact ⟨_, _, by rw [p.int, p'.int], q _ H (Same.refl _) (show Rp K H A _ _ from rp_int)⟩
  · cases e
/-! ### lists of numbers, of truths -/
def intsU : List U → Option (List Int)
  | [] => some []
  | .int i :: us => (intsU us).map (i :: ·)
  | _ :: _ => none
def boolsU : List U → Option (List Bool)
  | [] => some []
  | .bl i :: us => (boolsU us).map (i :: ·)
  | _ :: _ => none
theorem ints_map (ns : List Int) : intsU (ns.map .int) = some ns := by
  induction ns with
  | nil => rfl
  | cons n ns ih => rw [List.map_cons]; unfold intsU; rw [ih]; rfl
theorem bools_eq : ∀ {us : List U} {ns : List Bool}, boolsU us = some ns → us = ns.map .bl
  | [], ns, h => by unfold boolsU at h; cases h; rfl
  | u :: us, ns, h => by
    cases u <;> unfold boolsU at h <;> try cases h
    rename_i i
    cases e : boolsU us with
    | none => rw [e] at h; cases h
    | some ms => rw [e] at h; cases h; rw [bools_eq e]; rfl
theorem bools_map (ns : List Bool) : boolsU (ns.map .bl) = some ns := by
  induction ns with
  | nil => rfl
  | cons n ns ih => rw [List.map_cons]; unfold boolsU; rw [ih]; rfl
theorem Rps.toB {H : Hp} {A : Addr → Prop} : ∀ {ns : List Bool} {vs : List V}, Rps K H A (ns.map .bl) vs → vs = ns.map V.bl
  | [], vs, h => by rw [List.map_nil] at h; unfold Rps at h; exact h
  | n :: ns, vs, h => by
    rw [List.map_cons] at h
    unfold Rps at h
    obtain ⟨x, r, rfl, p, q⟩ := h
    unfold Rp at p
    rw [p, Rps.toB q]; rfl
theorem rps_ints {H : Hp} {A : Addr → Prop} : ∀ (ns : List Int), Rps K H A (ns.map .int) (ns.map V.int)
  | [] => Rps.nil
  | n :: ns => Rps.cons rp_int (rps_ints ns)
def pAll : List U → R U := fun us => match us with
  | [.lst xs] => match boolsU xs with
    | some bs => .ok (.bl (bs.all id))
    | none => .stk
  | _ => .stk
theorem fit_all : FitC K (fun xs H Q => ∃ (p : Addr) (bs : List Bool), xs = [.ref p] ∧ SqL K H p (bs.map V.bl) ∧ Q (.bl (bs.all id)) H) .S pAll := fun A H vs us z Q h mu e q => by
  unfold pAll at e
  split at e
  · rename_i xs
    split at e
    · rename_i bs hb
      cases e
      obtain ⟨v, rfl, p⟩ := h.one
      unfold Pk at p
      obtain ⟨a, ys, rfl, h1, l1, r1⟩ := p
      rw [bools_eq hb] at r1
      rw [r1.toB] at h1
      exact ⟨a, bs, rfl, SqL.of h1, q _ H (Same.refl _) (show Rp K H A _ _ from rp_bl)⟩
    · cases e
  · cases e
/-! ### isinstance -/
def dTy (ks : List U) : String := match ks with
  | .tup _ :: _ => "script"
  | _ => "dict"
def tyU : U → String
  | .non => "NoneType"
  | .bl _ => "bool"
  | .int _ => "int"
  | .str _ => "str"
  | .tup _ => "tuple"
  | .lst _ => "list"
  | .dct ks _ => dTy ks
  | .scr _ => "script"
theorem ty_pk {H : Hp} {A : Addr → Prop} {u : U} {v : V} (h : Pk K H A u v) (hs : tyU u ≠ "script") : TyD K H v (tyU u) := by
  cases u <;> unfold Pk at h
  case scr => exact absurd rfl hs
  case non => subst h; exact .non
  case bl => subst h; exact .bl _
  case int => subst h; exact .int _
  case str => subst h; exact .str _
  case tup => obtain ⟨a, xs, rfl, h1, _⟩ := h; exact .tup h1
  case lst =>
    obtain ⟨a, xs, rfl, h1, _⟩ := h
    exact .lst h1
  case dct =>
    obtain ⟨a, xs, rfl, h1, _⟩ := h
    rcases h1 with ⟨k, h1, e, _⟩ | ⟨k, n, h1, e, _⟩
    · have : dTy (k.map fun p => kU p.1) = "dict" := by
        cases k with
        | nil => rfl
        | cons p k =>
          obtain ⟨p1, p2⟩ := p
          cases p1 <;> rfl
      show TyD K H _ (dTy _)
      rw [e, this]
      exact .dK h1
    · refine absurd e fun e => ?_
      cases k with
      | nil => exact n rfl
      | cons p k => rw [e] at hs; exact hs rfl
variable {G : Gm} {e : Expr} {pos p1 p2 : Pos} {b1 : Bool} {m1 : Md} {g1 : Ev → R (U × Ev)}
def gInst (T : String) (g : Ev → R (U × Ev)) : Ev → R (U × Ev) := fun ρ => (g ρ).bind fun x => if tyU x.1 = "script" then .stk else .ok (.bl (isT (tyU x.1) T), x.2)
theorem de_inst {T : String} {x : Str} (hT : T ∈ ["bool", "int", "str", "list", "tuple", "dict"]) (he : DE X G e b1 m1 g1) (zi : X.mg "isinstance" = none) (zt : X.mg x = none) (bt : bootBuiltins x = some (.type T)) (hg : Gl X "isinstance" := by rfl) (ht : Gl X x := by rfl)
    (hn : x ≠ "__name__" := by decide) (hd : (x == ("__debug__" : Str)) = false := by decide)
    (hs : starEach [e, .Name x p2] X.env = (false, eval e X.env) :: starEach [.Name x p2] X.env := by rfl) (hs2 : starEach [.Name x p2] X.env = (false, eval (.Name x p2) X.env) :: starEach [] X.env := by rfl) (hpl : (backTo pos (starEach [.Name x p2] X.env)).any (·.1) = false := by rfl) :
    DE X G (.Call (.Name "isinstance" p1) [e, .Name x p2] [] pos) b1 .S (gInst T g1) := ⟨(pe_callB (call_isinst (m := T) hT) hg zi bt_isinstance (pa_cons he.un (pa_cons (pe_bltn (v := .ty T) ht zt bt rfl hn hd) pa_nil hs2) hs) (by decide) (by decide) hs hpl).to fun σ H Q h => by
  obtain ⟨Z, A, ρ, q, f⟩ := h
  obtain ⟨⟨u, ρ1⟩, e1, f⟩ := f.bind
  refine ⟨Z, A, ρ, q, ?_⟩
  rw [e1]
  intro v H1 q1 x1 s1 vm
  dsimp only at f
  split at f
  · exact f.elim
  · rename_i hn
    exact ⟨v, _, rfl, ty_pk vm.pk hn, f _ H1 q1 x1 s1 (VMe.ofS rp_bl)⟩⟩
/-! ### list(range(n)), tuple(range(n)) -/
def cRng (i j : Int) : Bool := decide (-1000000 ≤ i) && decide (i ≤ 1000000) && decide (-1000000 ≤ j) && decide (j ≤ 1000000)
def gRngL (g : Ev → R (List U × Ev)) : Ev → R (U × Ev) := fun ρ => (g ρ).bind fun x => match x.1 with
  | [.int j] => if cRng 0 j = true then .ok (.lst (rangeU 0 (j - 0).toNat), x.2) else .stk
  | _ => .stk
def gRngT (g : Ev → R (List U × Ev)) : Ev → R (U × Ev) := fun ρ => (g ρ).bind fun x => match x.1 with
  | [.int j] => if cRng 0 j = true then .ok (.tup (rangeU 0 (j - 0).toNat), x.2) else .stk
  | _ => .stk
theorem rps_range {H : Hp} {A : Addr → Prop} (lo : Int) (n : Nat) : Rps K H A (rangeU lo n) ((List.range n).map fun i => V.int (lo + (i : Nat))) := by
  unfold rangeU
  have e1 : (List.range n).map (fun i => U.int (lo + (i : Nat))) = ((List.range n).map fun i => lo + (i : Nat)).map U.int := by rw [List.map_map]; rfl
  have e2 : (List.range n).map (fun i => V.int (lo + (i : Nat))) = ((List.range n).map fun i => lo + (i : Nat)).map V.int := by rw [List.map_map]; rfl
  rw [e1, e2]
  exact rps_ints _
theorem rangeU_len (lo : Int) (n : Nat) : (rangeU lo n).length = n := by unfold rangeU; rw [List.length_map, List.length_range]
variable {ga : Ev → R (List U × Ev)} {a : Expr} {p3 p4 : Pos}
theorem de_rngL (hc : X.calm = true) (ha : DA X G [a] b1 false ga) (zl : X.mg "list" = none) (zr : X.mg "range" = none) (hg : Gl X "list" := by rfl) (hg2 : Gl X "range" := by rfl)
    (hs : starEach [.Call (.Name "range" p3) [a] [] p4] X.env = (false, eval (.Call (.Name "range" p3) [a] [] p4) X.env) :: starEach [] X.env := by rfl) (hs2 : starEach [a] X.env = (false, eval a X.env) :: starEach [] X.env := by rfl)
    (hpl : (backTo pos (starEach [] X.env)).any (·.1) = false := by rfl) (hpl2 : (backTo p4 (starEach [] X.env)).any (·.1) = false := by rfl) : DE X G (.Call (.Name "list" p1) [.Call (.Name "range" p3) [a] [] p4] [] pos) b1 .O (gRngL ga) := ⟨(pe_callTy (call_list_rng hc) hg zl bt_list (pa_cons (pe_callTy call_range1 hg2 zr bt_range ha.un (by decide) (by decide) hs2 hpl2) pa_nil hs) (by decide) (by decide) hs hpl).to fun σ H Q h => by
  obtain ⟨Z, A, ρ, q, f⟩ := h
  obtain ⟨⟨us, ρ1⟩, e1, f⟩ := f.bind
  refine ⟨Z, A, ρ, q, ?_⟩
  rw [e1]
  intro vs H1 q1 x1 s1 vm
  dsimp only at f
  split at f
  · rename_i j
    split at f
    · rename_i hj
      have r := vm.rps
      unfold Rps at r
      obtain ⟨v, vr, rfl, r1, r2⟩ := r
      unfold Rps at r2
      subst r2
      unfold Rp at r1
      subst r1
      unfold cRng at hj
      simp only [Bool.and_eq_true, decide_eq_true_eq] at hj
      refine ⟨j, rfl, fun p hp => ⟨p, 0, j, rfl, upd_same, by omega, by omega, fun l hl => ?_⟩⟩
      have sp := upd_S hp (.rng 0 j)
      have sl := upd_S hl (.lst ((List.range (j - 0).toNat).map fun i => V.int (0 + (i : Nat))))
      exact f _ _ ((q1.same sp).same sl) (x1.trans (Ext.same (sp.trans sl))) (two1 s1 (sp.trans sl)) (VMf.e (q1.same sp) sl ⟨l, rfl, hl, top_newlst (q1.same sp).mu (rps_range 0 _) hl (by rw [rangeU_len]; have : sizeLine = 16777216 := rfl; omega)⟩)
    · exact f.elim
  · exact f.elim⟩
theorem de_rngT (hc : X.calm = true) (ha : DA X G [a] b1 false ga) (zl : X.mg "tuple" = none) (zr : X.mg "range" = none) (hg : Gl X "tuple" := by rfl) (hg2 : Gl X "range" := by rfl)
    (hs : starEach [.Call (.Name "range" p3) [a] [] p4] X.env = (false, eval (.Call (.Name "range" p3) [a] [] p4) X.env) :: starEach [] X.env := by rfl) (hs2 : starEach [a] X.env = (false, eval a X.env) :: starEach [] X.env := by rfl)
    (hpl : (backTo pos (starEach [] X.env)).any (·.1) = false := by rfl) (hpl2 : (backTo p4 (starEach [] X.env)).any (·.1) = false := by rfl) : DE X G (.Call (.Name "tuple" p1) [.Call (.Name "range" p3) [a] [] p4] [] pos) b1 .S (gRngT ga) := ⟨(pe_callTy (call_tuple_rng hc) hg zl bt_tuple (pa_cons (pe_callTy call_range1 hg2 zr bt_range ha.un (by decide) (by decide) hs2 hpl2) pa_nil hs) (by decide) (by decide) hs hpl).to fun σ H Q h => by
  obtain ⟨Z, A, ρ, q, f⟩ := h
  obtain ⟨⟨us, ρ1⟩, e1, f⟩ := f.bind
  refine ⟨Z, A, ρ, q, ?_⟩
  rw [e1]
  intro vs H1 q1 x1 s1 vm
  dsimp only at f
  split at f
  · rename_i j
    split at f
    · rename_i hj
      have r := vm.rps
      unfold Rps at r
      obtain ⟨v, vr, rfl, r1, r2⟩ := r
      unfold Rps at r2
      subst r2
      unfold Rp at r1
      subst r1
      unfold cRng at hj
      simp only [Bool.and_eq_true, decide_eq_true_eq] at hj
      refine ⟨j, rfl, fun p hp => ⟨p, 0, j, rfl, upd_same, by omega, by omega, fun l hl => ?_⟩⟩
      have sp := upd_S hp (.rng 0 j)
      have sl := upd_S hl (.tup ((List.range (j - 0).toNat).map fun i => V.int (0 + (i : Nat))))
      exact f _ _ ((q1.same sp).same sl) (x1.trans (Ext.same (sp.trans sl))) (two1 s1 (sp.trans sl)) (VMe.ofS (rp_newtup (rps_range 0 _) hl (by rw [rangeU_len]; have : sizeLine = 16777216 := rfl; omega)))
    · exact f.elim
  · exact f.elim⟩
/-! ### methods that change a list -/
def pAppend : U → List U → R (U × U) := fun u us => match u, us with
  | .lst xs, [y] => if xs.length < sizeLine then .ok (.non, .lst (xs ++ [y])) else .stk
  | _, _ => .stk
theorem upd_em {H : Hp} {a : Addr} (o : HO) : ∀ b u, b ≠ a → H b = some u → upd H a o b = some u := fun b u nb z => by rw [upd_ne nb]; exact z
theorem top_put {H : Hp} {A : Addr → Prop} {us : List U} {xs : List V} {a : Addr} (mu : ∀ a, A a → Mu (H a)) (ha : A a) (r : Rps K H A us xs) (l : us.length ≤ sizeLine) : Top K (upd H a (.lst xs)) A (.lst us) a :=
  ⟨xs, upd_same, l, r.re mu (fun b o nb z => upd_em _ b o (fun y => nb (y ▸ ha)) z) fun b z => .inl z⟩
theorem fit_append : FitM K "list" rAppend pAppend := fun A H a u vs us z w Q t ha r mu e q => by
  unfold pAppend at e
  split at e
  · rename_i xs y
    split at e
    · rename_i hl
      cases e
      obtain ⟨ys, h1, l1, r1⟩ := t
      unfold Rps at r
      obtain ⟨v, vr, rfl, p, r2⟩ := r
      unfold Rps at r2
      subst r2
      exact ⟨a, ys, v, rfl, rfl, h1, by rw [← r1.length]; exact hl, q _ _ (upd_em _) (top_put mu ha (r1.append (Rps.cons p Rps.nil)) (by rw [List.length_append]; exact hl)) rp_non⟩
    · cases e
  · cases e
def rExtendR : V → List V → Hp → VK → Prop := fun x vs H Q => ∃ l b xs zs, x = .ref l ∧ vs = [.ref b] ∧ H l = some (.lst xs) ∧ H b = some (.lst zs) ∧ xs.length + zs.length ≤ sizeLine ∧ Q .non (upd H l (.lst (xs ++ zs)))
theorem mt_extendR : MtR X "list.extend" rExtendR := by
  intro pins s σ H x vs v us Q I rx rv h
  obtain ⟨l, b, xs, zs, rfl, rfl, hH, hB, hz, q⟩ := h
  cases rx
  obtain ⟨u, rfl, ru⟩ := rv.one
  cases ru
  obtain ⟨z, its, n, r, hl, e⟩ := I.lstM hH
  obtain ⟨z2, its2, n2, r2, hl2, e2⟩ := I.lstM hB
  have hsz : its.toArray.size + its2.toArray.size ≤ sizeLine := by rw [List.size_toArray, List.size_toArray]; omega
  have hlong : ¬ (!its.toArray.isEmpty && Builtin.List.listTooLong (its.toArray.size + its2.toArray.size)) = true := by
    rw [notLongL hsz, Bool.and_false]
    exact Bool.false_ne_true
  refine call_meets F.slot_list_extend ⟨_, e, rfl⟩ F.entry_list_extend (F.args_list_extend_2 _ _)
    (PySem.AutoSeq1.list_extend_list_list_0 l its.toArray n b its2.toArray n2 hlong (by rw [List.size_toArray]; omega) (by omega)) ⟨e, e2, ?_⟩
  refine ⟨.non, _, I.lset (its' := its ++ its2) hH e (by simp) (r.append r2) ?_, rfl, q⟩
  rw [List.length_append]
  omega
def rExt2 : V → List V → Hp → VK → Prop := fun x vs H Q => rExtendR x vs H Q ∨ rExtendT x vs H Q
theorem mt_ext2 : MtR X "list.extend" rExt2 := mt_extendR.or mt_extendT
def pExtend : U → List U → R (U × U) := fun u us => match u, us with
  | .lst xs, [.lst ys] => if xs.length + ys.length ≤ sizeLine then .ok (.non, .lst (xs ++ ys)) else .stk
  | .lst xs, [.tup ys] => if xs.length + ys.length ≤ sizeLine then .ok (.non, .lst (xs ++ ys)) else .stk
  | _, _ => .stk
theorem fit_extend : FitM K "list" rExt2 pExtend := fun A H a u vs us z w Q t ha r mu e q => by
  unfold pExtend at e
  split at e
  · rename_i xs ys
    split at e
    · rename_i hl
      cases e
      obtain ⟨zs, h1, l1, r1⟩ := t
      unfold Rps at r
      obtain ⟨v, vr, rfl, p, r2⟩ := r
      unfold Rps at r2
      subst r2
      unfold Rp at p
      obtain ⟨b, ws, rfl, nb, h2, l2, r3⟩ := p
      exact .inl ⟨a, b, zs, ws, rfl, rfl, h1, h2, by rw [← r1.length, ← r3.length]; exact hl, q _ _ (upd_em _) (top_put mu ha (r1.append r3) (by rw [List.length_append]; exact hl)) rp_non⟩
    · cases e
  · rename_i xs ys
    split at e
    · rename_i hl
      cases e
      obtain ⟨zs, h1, l1, r1⟩ := t
      unfold Rps at r
      obtain ⟨v, vr, rfl, p, r2⟩ := r
      unfold Rps at r2
      subst r2
      unfold Rp at p
      obtain ⟨b, ws, rfl, h2, l2, r3⟩ := p
      exact .inr ⟨a, b, zs, ws, rfl, rfl, h1, h2, by rw [← r1.length, ← r3.length]; exact hl, q _ _ (upd_em _) (top_put mu ha (r1.append r3) (by rw [List.length_append]; exact hl)) rp_non⟩
    · cases e
  · cases e
def pPopAt : U → List U → R (U × U) := fun u us => match u, us with
  | .lst xs, [.int i] => if -9223372036854775808 ≤ i ∧ i < 9223372036854775808 then (match seqIndex? i xs.length with
    | some k => match xs[k]? with
      | some y => .ok (y, .lst (xs.eraseIdx k))
      | none => .stk
    | none => .stk) else .stk
  | _, _ => .stk
theorem Rps.erase {H : Hp} {A : Addr → Prop} : ∀ {us : List U} {vs : List V} (n : Nat), Rps K H A us vs → Rps K H A (us.eraseIdx n) (vs.eraseIdx n)
  | [], vs, n, h => by unfold Rps at h; subst h; exact Rps.nil
  | u :: us, vs, 0, h => by
    unfold Rps at h
    obtain ⟨x, r, rfl, p, q⟩ := h
    exact q
  | u :: us, vs, n + 1, h => by
    unfold Rps at h
    obtain ⟨x, r, rfl, p, q⟩ := h
    exact Rps.cons p (Rps.erase n q)
theorem fit_popAt : FitM K "list" rPopAt pPopAt := fun A H a u vs us z w Q t ha r mu e q => by
  unfold pPopAt at e
  split at e
  · rename_i xs i
    split at e
    · rename_i hi
      split at e
      · rename_i k hk
        split at e
        · rename_i y hy
          cases e
          obtain ⟨zs, h1, l1, r1⟩ := t
          unfold Rps at r
          obtain ⟨v, vr, rfl, p, r2⟩ := r
          unfold Rps at r2
          subst r2
          unfold Rp at p
          subst p
          obtain ⟨v, h2, h3⟩ := r1.get hy
          exact ⟨a, zs, i, k, v, rfl, rfl, h1, by have := hi.1; omega, by have := hi.2; omega, by rw [← r1.length]; exact hk, h2, q _ _ (upd_em _) (top_put mu ha (r1.erase k) (Nat.le_trans (List.length_eraseIdx_le _ _) l1)) (h3.re mu (fun b o nb z => upd_em _ b o (fun y => nb (y ▸ ha)) z) fun b z => .inl z)⟩
        · cases e
      · cases e
    · cases e
  · cases e
end
end L2
namespace L2
open PySem PySem.Spec PyProof.Rows
section
variable {X : Cx} {K : PySem.W.Frag} {G : Gm} {m : Md} {pos : Pos}
theorem fit_lt : Fit2 K (rI0 fun i j => .bl (decide (i < j))) .S pLt := fit_C
theorem fit_gt : Fit2 K (rI0 fun i j => .bl (decide (j < i))) .S pGt := fit_C
theorem fit_ge : Fit2 K (rI0 fun i j => .bl (decide (j ≤ i))) .S pGe := fit_C
theorem dss_stk {sts : List Stmt} : DSs X G m sts (fun _ => .stk) := ⟨fun pins s σ H D I h => by
  obtain ⟨Z, A, ρ, q, f⟩ := h
  exact f.elim⟩
/-! ### {} -/
def gD0 : Ev → R (U × Ev) := fun ρ => .ok (.dct [] [], ρ)
theorem de_dict0 : DE X G (.Dict [] [] pos) false .O gD0 := ⟨pe_dnewK.to fun σ H Q h => by
  obtain ⟨Z, A, ρ, q, f⟩ := h
  intro a na
  have sn := upd_S na (.dK [])
  exact f _ _ (q.same sn) (Ext.same sn) (fun _ => ⟨rfl, sn⟩) (VMf.e q sn ⟨a, rfl, na, [], .inl ⟨[], upd_same, rfl, rfl⟩, Nat.zero_le _, Rps.nil⟩)⟩
end
end L2
end
section
set_option Elab.async false
set_option linter.all false
set_option maxRecDepth 100000
set_option maxHeartbeats 4000000
namespace L2
open PySem PySem.Spec PyProof.Rows
/-! ### dicts, whatever their keys -/
def DGU (H : Hp) (a : Addr) (y : V) (o : Option V) : Prop := DGet H a y o ∨ ∃ es k b, DNat H a es ∧ y = .ref b ∧ KT' H k b ∧ o = valN es k
def DPU (H : Hp) (a : Addr) (y v : V) (H' : Hp) : Prop := DPut H a y v H' ∨ ∃ es k b, DNat H a es ∧ y = .ref b ∧ KT' H k b ∧ es.length ≤ sizeLine ∧ H' = upd H a (DN a (putN es k b v))
def IsDU (H : Hp) (a : Addr) : Prop := IsD H a ∨ ∃ es, DNat H a es
section
variable {X : Cx} {pins : List (Addr × Obj)} {σ : St} {H : Hp} {s : Shared} {a : Addr} {y v d : V} {u r : Value} {o : Option V} {A : Around} {E : Value → Shared → Prop}
theorem u_isD (I : Inv X pins σ H s) (d : IsDU H a) : s.TypeIs (.ref a) "dict" ∧ (∀ b, Value.ref a = .ref b → ∃ ob, s.heap.get? b = some ob ∧ ob.dict = none) := by
  rcases d with d | ⟨es, d⟩
  · obtain ⟨x, y, _⟩ := isD_at I d; exact ⟨x, y⟩
  · exact ⟨d.typeIs I, d.noDict I⟩
theorem u_getItem {Q : Value → Shared → Prop} (hu : A.units + 64 < cLine) (I : Inv X pins σ H s) (g : DGU H a y (some v)) (ry : RelV y u) (h : ∀ w' s', Inv X pins σ H s' → RelV v w' → Q w' s') :
    wpAny (model X.prog X.w) A (getItem (.ref a) u) Q E s := by
  rcases g with g | ⟨es, k, b, g, rfl, kb, e⟩
  · exact d_getItem (by omega) I g ry h
  · cases ry; exact n_getItem hu I g kb e.symm h
theorem u_get2 {Q : Value → Shared → Prop} (hu : A.units + 64 < cLine) (I : Inv X pins σ H s) (g : DGU H a y o) (ry : RelV y u) (rd : RelV d r) (h : ∀ w' s', Inv X pins σ H s' → RelV (o.getD d) w' → Q w' s') :
    wpAny (model X.prog X.w) A (call (.builtin "dict.get") [.ref a, u, r]) Q E s := by
  rcases g with g | ⟨es, k, b, g, rfl, kb, e⟩
  · exact d_get2 (by omega) I g ry rd h
  · cases ry; subst e; exact n_get2 hu I g kb rd h
theorem u_setItem {H' : Hp} {Q : Unit → Shared → Prop} (hu : A.units + 64 < cLine) (I : Inv X pins σ H s) (g : DPU H a y v H') (ry : RelV y u) (rv : RelV v r) (h : ∀ s', Inv X pins σ H' s' → Q () s') :
    wpAny (model X.prog X.w) A (setItem (.ref a) u r) Q E s := by
  rcases g with g | ⟨es, k, b, g, rfl, kb, hz, e⟩
  · exact d_setItem (by omega) I g ry rv h
  · cases ry; subst e; exact n_setItem hu I g kb hz rv h
end
def tUGet2 (td ty tx : TE) : TE := fun σ H Q => td σ H fun x H1 => ∃ a, x = .ref a ∧ IsDU H1 a ∧ ty σ H1 fun y H2 => tx σ H2 fun z H3 => ∃ o, DGU H3 a y o ∧ Q (o.getD z) H3
def sUPut (td ty tv : TE) : TS := fun D σ H => tv σ H fun v H1 => td σ H1 fun x H2 => ty σ H2 fun y H3 => ∃ a H4, x = .ref a ∧ DPU H3 a y v H4 ∧ D.nx σ H4
section
variable {X : Cx} {o i e f value : Expr} {pos pos' apos cpos : Pos} {td ty tv tx : TE}
theorem pe_uget2 (hu : X.A.units + 64 < cLine) (ho : PE X o td) (he : PE X e ty) (hf : PE X f tx) (m : M2 X o "get" apos e f cpos) : PE X (.Call (.Attribute o "get" apos) [e, f] [] cpos) (tUGet2 td ty tx) := by
  intro pins s σ H Q I h
  refine wpAny_Call_method m.base m.few m.line PySem.F.plainAttrs_dict PySem.F.slot_dict_get PySem.F.type_dict_get (thn (ho pins s σ H _ I h) fun u s1 ⟨x, H1, I1, rx, a, ex, d, q1⟩ => ?_)
  subst ex
  obtain rfl : u = Value.ref a := rx
  obtain ⟨t1, t2⟩ := u_isD I1 d
  refine ⟨t1, t2, ?_⟩
  rw [m.trees]
  refine Calls.callWith_builtin rfl (Calls.evalArgs_plain (Calls.spliced_cons (thn (he pins s1 σ H1 _ I1 q1) fun iv s2 ⟨y, H2, I2, ry, q2⟩ =>
    Calls.spliced_cons (thn (hf pins s2 σ H2 _ I2 q2) fun fv s3 ⟨z, H3, I3, rz, ov, g, q3⟩ => Calls.spliced_nil ?_))))
  exact u_get2 hu I3 g ry rz fun w' s4 I4 rw' => ⟨_, H3, I4, rw', q3⟩
theorem ps_uput (hu : X.A.units + 64 < cLine) (ho : PE X o td) (hi : PE X i ty) (hv : PE X value tv) (hs : swapsWith value (some (.Subscript o i pos')) pos.line X.env = pure false) :
    PS X (.Assign [.Subscript o i pos'] value pos) (sUPut td ty tv) := by
  intro pins s σ H D I h
  refine wpAny_Assign_Subscript (thn (hv pins s σ H _ I h) fun r s1 ⟨v, H1, I1, rv, q1⟩ => thn (ho pins s1 σ H1 _ I1 q1) fun u s2 ⟨x, H2, I2, rx, q2⟩ => thn (hi pins s2 σ H2 _ I2 q2) fun iv s3 ⟨y, H3, I3, ry, a, H4, ex, g, q3⟩ => ?_) hs
  subst ex
  obtain rfl : u = Value.ref a := rx
  exact u_setItem hu I3 g ry rv fun s4 I4 => ⟨σ, H4, I4, q3⟩
end
/-! ### the pure side -/
def isKk : U → Bool
  | .int _ => true
  | .str _ => true
  | _ => false
mutual
def kOkU : U → Bool
  | .int _ => true
  | .tup us => kOks us
  | _ => false
def kOks : List U → Bool
  | [] => true
  | u :: us => kOkU u && kOks us
end
def isKt : U → Bool
  | .tup us => kOks us && decide (dpKs us ≤ 6)
  | _ => false
def isTu : U → Bool
  | .tup _ => true
  | _ => false
/-- the key is of the keys' kind -/
def fitK (ks : List U) (k : U) : Bool := (isKk k && ks.all isKk) || (isKt k && ks.all isTu)
noncomputable def dget : List U → List U → U → Option U
  | k' :: ks, u :: us, k => if k' = k then some u else dget ks us k
  | _, _, _ => none
noncomputable def dputV (ks us : List U) (k v : U) : List U := if k ∈ ks then List.zipWith (fun k' u => if k' = k then v else u) ks us else us ++ [v]
noncomputable def dputK (ks : List U) (k : U) : List U := if k ∈ ks then ks else ks ++ [k]
section
variable {K : PySem.W.Frag} {H : Hp} {A : Addr → Prop}
mutual
theorem kh_of : ∀ {u : U} {v : V}, kOkU u = true → Rp K H A u v → KH H u v
  | .int i, v, _, h => by unfold Rp at h; unfold KH; exact h
  | .tup us, v, k, h => by
    unfold kOkU at k
    unfold Rp at h; unfold KH
    obtain ⟨a, xs, r, q, _, z⟩ := h
    exact ⟨a, xs, r, q, khs_of k z⟩
  | .non, v, k, h => by unfold kOkU at k; cases k
  | .bl _, v, k, h => by unfold kOkU at k; cases k
  | .str _, v, k, h => by unfold kOkU at k; cases k
  | .lst _, v, k, h => by unfold kOkU at k; cases k
  | .dct _ _, v, k, h => by unfold kOkU at k; cases k
  | .scr _, v, k, h => by unfold kOkU at k; cases k
theorem khs_of : ∀ {us : List U} {vs : List V}, kOks us = true → Rps K H A us vs → KHs H us vs
  | [], vs, _, h => by unfold Rps at h; unfold KHs; exact h
  | u :: us, vs, k, h => by
    unfold kOks at k
    rw [Bool.and_eq_true] at k
    unfold Rps at h; unfold KHs
    obtain ⟨x, r, q, p, z⟩ := h
    exact ⟨x, r, q, kh_of k.1 p, khs_of k.2 z⟩
end
theorem kt_of {us : List U} {v : V} (k : isKt (.tup us) = true) (h : Rp K H A (.tup us) v) : ∃ b, v = .ref b ∧ KT' H us b := by
  unfold isKt at k
  rw [Bool.and_eq_true] at k
  unfold Rp at h
  obtain ⟨a, xs, r, q, _, z⟩ := h
  exact ⟨a, r, of_decide_eq_true k.2, xs, q, khs_of k.1 z⟩
theorem kk_of {u : U} {v : V} (k : isKk u = true) (h : Rp K H A u v) : ∃ q : Key, u = kU q ∧ v = kV q := by
  cases u <;> first | (cases k; done) | skip
  · unfold Rp at h; exact ⟨.inl _, rfl, h⟩
  · unfold Rp at h; exact ⟨.inr _, rfl, h⟩
theorem kU_inj {a b : Key} (h : kU a = kU b) : a = b := by
  cases a <;> cases b <;> unfold kU at h <;> first | (cases h; rfl) | cases h
/-- what is found, by the values -/
theorem dget_k {k : Key} : ∀ {kvs : List (Key × V)} {us : List U}, Rps K H A us (kvs.map (·.2)) → (∀ u, dget (kvs.map fun p => kU p.1) us (kU k) = some u → ∃ v, valV kvs k = some v ∧ Rp K H A u v) ∧ (dget (kvs.map fun p => kU p.1) us (kU k) = none → valV kvs k = none)
  | [], us, r => ⟨(fun u h => by unfold dget at h; cases h), fun _ => rfl⟩
  | p :: kvs, us, r => by
    cases us with
    | nil => unfold Rps at r; cases r
    | cons u us =>
      unfold Rps at r
      obtain ⟨x, rr, e, h1, h2⟩ := r
      cases e
      rw [List.map_cons]
      unfold dget
      by_cases c : p.1 = k
      · rw [if_pos (by rw [c]), valV_pos c]
        exact ⟨fun w h => by cases h; exact ⟨_, rfl, h1⟩, fun h => by cases h⟩
      · rw [if_neg (fun z => c (kU_inj z)), valV_neg c]
        exact dget_k h2
theorem dget_n {k : List U} : ∀ {es : List (List U × Addr × V)} {us : List U}, Rps K H A us (es.map (·.2.2)) → (∀ u, dget (es.map fun p => .tup p.1) us (.tup k) = some u → ∃ v, valN es k = some v ∧ Rp K H A u v) ∧ (dget (es.map fun p => .tup p.1) us (.tup k) = none → valN es k = none)
  | [], us, r => ⟨(fun u h => by unfold dget at h; cases h), fun _ => rfl⟩
  | p :: es, us, r => by
    cases us with
    | nil => unfold Rps at r; cases r
    | cons u us =>
      unfold Rps at r
      obtain ⟨x, rr, e, h1, h2⟩ := r
      cases e
      rw [List.map_cons]
      unfold dget valN
      rw [List.find?_cons]
      by_cases c : p.1 = k
      · rw [if_pos (by rw [c]), decide_eq_true c]
        exact ⟨fun w h => by cases h; exact ⟨_, rfl, h1⟩, fun h => by cases h⟩
      · rw [if_neg (fun z => c (tup_inj.mp z)), decide_eq_false c]
        exact dget_n h2
/-- looking up, by the keys' kind -/
theorem dgu_of {a : Addr} {ks us : List U} {xs : List V} {k : U} {y : V} (d : DAt H a ks xs) (r : Rps K H A us xs) (f : fitK ks k = true) (hk : Rp K H A k y) :
    ∃ o, DGU H a y o ∧ (∀ u, dget ks us k = some u → ∃ v, o = some v ∧ Rp K H A u v) ∧ (dget ks us k = none → o = none) := by
  unfold fitK at f
  rw [Bool.or_eq_true, Bool.and_eq_true, Bool.and_eq_true] at f
  rcases d with ⟨kvs, h, e1, e2⟩ | ⟨es, n, h, e1, e2⟩
  · rcases f with ⟨f1, f2⟩ | ⟨f1, f2⟩
    · obtain ⟨q, rfl, rfl⟩ := kk_of f1 hk
      subst e1 e2
      exact ⟨_, .inl (.inl ⟨kvs, q, .inl h, rfl, rfl⟩), (dget_k r).1, (dget_k r).2⟩
    · cases kvs with
      | nil =>
        subst e1 e2
        cases k <;> first | (cases f1; done) | skip
        rename_i kk
        obtain ⟨b, rfl, kt⟩ := kt_of f1 hk
        exact ⟨none, .inr ⟨[], kk, b, ⟨.inr ⟨rfl, h⟩, List.nodup_nil, (fun e he => by cases he)⟩, rfl, kt, rfl⟩, (fun u z => by unfold dget at z; cases z), fun _ => rfl⟩
      | cons p kvs =>
        exfalso
        subst e1
        rw [List.map_cons, List.all_cons, Bool.and_eq_true] at f2
        obtain ⟨p1, p2⟩ := p
        cases p1 <;> cases f2.1
  · rcases f with ⟨f1, f2⟩ | ⟨f1, f2⟩
    · exfalso
      subst e1
      cases es with
      | nil => exact n rfl
      | cons p es => rw [List.map_cons, List.all_cons, Bool.and_eq_true] at f2; cases f2.1
    · subst e1 e2
      cases k <;> first | (cases f1; done) | skip
      rename_i kk
      obtain ⟨b, rfl, kt⟩ := kt_of f1 hk
      exact ⟨_, .inr ⟨es, kk, b, h, rfl, kt, rfl⟩, (dget_n r).1, (dget_n r).2⟩
end
end L2
end
section
set_option Elab.async false
set_option linter.all false
set_option maxRecDepth 100000
set_option maxHeartbeats 4000000
namespace L2
open PySem PySem.Spec PyProof.Rows
section
variable {K : PySem.W.Frag} {H : Hp} {A : Addr → Prop}
theorem Rps.snoc {us : List U} {vs : List V} {u : U} {v : V} (h : Rps K H A us vs) (p : Rp K H A u v) : Rps K H A (us ++ [u]) (vs ++ [v]) := h.append (Rps.cons p Rps.nil)
/-! ### keys and values behind d[k] = v -/
theorem anyK {k : Key} (kvs : List (Key × V)) : (kvs.any fun kv => decide (kv.1 = k)) = decide (kU k ∈ kvs.map fun p => kU p.1) := by
  rw [Bool.eq_iff_iff, List.any_eq_true, decide_eq_true_eq, List.mem_map]
  constructor
  · rintro ⟨p, h1, h2⟩
    exact ⟨p, h1, by rw [of_decide_eq_true h2]⟩
  · rintro ⟨p, h1, h2⟩
    exact ⟨p, h1, decide_eq_true (kU_inj h2)⟩
theorem putK_eq {k : Key} (kvs : List (Key × V)) (v : V) : putK kvs k v = if (kvs.any fun kv => decide (kv.1 = k)) = true then kvs.map (fun kv => if kv.1 = k then (kv.1, v) else kv) else kvs ++ [(k, v)] := by
  unfold putK; rfl
theorem putK_keys {k : Key} (kvs : List (Key × V)) (v : V) : (putK kvs k v).map (fun p => kU p.1) = dputK (kvs.map fun p => kU p.1) (kU k) := by
  rw [putK_eq, anyK]
  unfold dputK
  by_cases c : kU k ∈ kvs.map fun p => kU p.1
  · rw [decide_eq_true c, if_pos rfl, if_pos c, List.map_map]
    refine List.map_congr_left fun p _ => ?_
    show kU (if p.1 = k then (p.1, v) else p).1 = kU p.1
    split <;> rfl
  · rw [decide_eq_false c, if_neg Bool.false_ne_true, if_neg c, List.map_append]; rfl
theorem putK_vals {k : Key} {u : U} {v : V} (p : Rp K H A u v) {kvs : List (Key × V)} {us : List U} (r : Rps K H A us (kvs.map (·.2))) : Rps K H A (dputV (kvs.map fun p => kU p.1) us (kU k) u) ((putK kvs k v).map (·.2)) := by
  rw [putK_eq, anyK]
  unfold dputV
  by_cases c : kU k ∈ kvs.map fun p => kU p.1
  · rw [decide_eq_true c, if_pos rfl, if_pos c]
    clear c
    induction kvs generalizing us with
    | nil =>
      rw [List.map_nil] at r
      unfold Rps at r
      cases us with
      | nil => exact Rps.nil
      | cons => obtain ⟨_, _, e, _⟩ := r; cases e
    | cons q kvs ih =>
      cases us with
      | nil => unfold Rps at r; cases r
      | cons w us =>
        unfold Rps at r
        obtain ⟨x, rr, e, h1, h2⟩ := r
        cases e
        rw [List.map_cons, List.map_cons, List.map_cons, List.zipWith_cons_cons]
        refine Rps.cons ?_ (ih h2)
        by_cases c : q.1 = k
        · rw [if_pos (by rw [c]), if_pos c]; exact p
        · rw [if_neg (fun z => c (kU_inj z)), if_neg c]; exact h1
  · rw [decide_eq_false c, if_neg Bool.false_ne_true, if_neg c, List.map_append]
    exact r.snoc p
theorem valN_mem {k : List U} : ∀ (es : List (List U × Addr × V)), (valN es k).isSome = decide (U.tup k ∈ es.map fun p => U.tup p.1)
  | [] => by simp [valN]
  | e :: es => by
    have ih := valN_mem (k := k) es
    unfold valN at ih ⊢
    rw [List.find?_cons, List.map_cons]
    by_cases c : e.1 = k
    · rw [decide_eq_true c, decide_eq_true (by rw [c]; exact List.mem_cons_self)]; rfl
    · rw [decide_eq_false c]
      dsimp only
      rw [ih, Bool.eq_iff_iff, decide_eq_true_eq, decide_eq_true_eq, List.mem_cons]
      constructor
      · exact .inr
      · rintro (z | z)
        · exact absurd (tup_inj.mp z).symm c
        · exact z
theorem putN_keys {k : List U} {b : Addr} (es : List (List U × Addr × V)) (v : V) : (putN es k b v).map (fun p => U.tup p.1) = dputK (es.map fun p => .tup p.1) (.tup k) := by
  unfold putN dputK
  rw [valN_mem]
  by_cases c : U.tup k ∈ es.map fun p => U.tup p.1
  · rw [decide_eq_true c, if_pos rfl, if_pos c, List.map_map]
    refine List.map_congr_left fun p _ => ?_
    show U.tup (if p.1 = k then (p.1, p.2.1, v) else p).1 = .tup p.1
    split <;> rfl
  · rw [decide_eq_false c, if_neg Bool.false_ne_true, if_neg c, List.map_append]; rfl
theorem putN_vals {k : List U} {b : Addr} {u : U} {v : V} (p : Rp K H A u v) {es : List (List U × Addr × V)} {us : List U} (r : Rps K H A us (es.map (·.2.2))) : Rps K H A (dputV (es.map fun p => .tup p.1) us (.tup k) u) ((putN es k b v).map (·.2.2)) := by
  unfold putN dputV
  rw [valN_mem]
  by_cases c : U.tup k ∈ es.map fun p => U.tup p.1
  · rw [decide_eq_true c, if_pos rfl, if_pos c]
    clear c
    induction es generalizing us with
    | nil =>
      rw [List.map_nil] at r
      unfold Rps at r
      cases us with
      | nil => exact Rps.nil
      | cons => obtain ⟨_, _, e, _⟩ := r; cases e
    | cons q es ih =>
      cases us with
      | nil => unfold Rps at r; cases r
      | cons w us =>
        unfold Rps at r
        obtain ⟨x, rr, e, h1, h2⟩ := r
        cases e
        rw [List.map_cons, List.map_cons, List.map_cons, List.zipWith_cons_cons]
        refine Rps.cons ?_ (ih h2)
        by_cases c : q.1 = k
        · rw [if_pos (by rw [c]), if_pos c]; exact p
        · rw [if_neg (fun z => c (tup_inj.mp z)), if_neg c]; exact h1
  · rw [decide_eq_false c, if_neg Bool.false_ne_true, if_neg c, List.map_append]
    exact r.snoc p
theorem putN_nd {k : List U} {b : Addr} {v : V} {es : List (List U × Addr × V)} (h : (es.map (·.1)).Nodup) : ((putN es k b v).map (·.1)).Nodup := by
  unfold putN
  split
  · rw [List.map_map]
    have : es.map ((fun x => x.1) ∘ fun e => if e.1 = k then (e.1, e.2.1, v) else e) = es.map (·.1) := List.map_congr_left fun e _ => by
      show (if e.1 = k then (e.1, e.2.1, v) else e).1 = e.1
      split <;> rfl
    rw [this]; exact h
  · rename_i c
    rw [List.map_append, List.map_cons, List.map_nil]
    refine List.nodup_append.mpr ⟨h, by simp, ?_⟩
    intro x hx y hy e
    rw [List.mem_singleton.mp hy] at e
    subst e
    rw [valN_mem] at c
    apply c
    rw [decide_eq_true_eq]
    obtain ⟨e, he, rfl⟩ := List.mem_map.mp hx
    exact List.mem_map.mpr ⟨e, he, rfl⟩
theorem putN_key {k : List U} {b : Addr} {v : V} {es : List (List U × Addr × V)} {H : Hp} (h : ∀ e ∈ es, KT' H e.1 e.2.1) (kb : KT' H k b) : ∀ e ∈ putN es k b v, KT' H e.1 e.2.1 := by
  unfold putN
  split
  · intro e he
    obtain ⟨e', h1, rfl⟩ := List.mem_map.mp he
    split
    · exact h e' h1
    · exact h e' h1
  · intro e he
    rcases List.mem_append.mp he with z | z
    · exact h e z
    · rw [List.mem_singleton.mp z]; exact kb
theorem putN_ne {k : List U} {b : Addr} {v : V} {es : List (List U × Addr × V)} : putN es k b v ≠ [] := by
  unfold putN
  split
  · rename_i c
    intro z
    cases es with
    | nil => cases c
    | cons e es => cases z
  · simp
theorem dput_len {ks us : List U} {k v : U} (h : ks.length = us.length) : (dputV ks us k v).length ≤ us.length + 1 := by
  unfold dputV
  split
  · rw [List.length_zipWith]; omega
  · rw [List.length_append, List.length_singleton]; exact Nat.le_refl _
theorem DAt.len {a : Addr} {ks us : List U} {xs : List V} (d : DAt H a ks xs) (r : Rps K H A us xs) : ks.length = us.length := by
  rcases d with ⟨kvs, _, rfl, rfl⟩ | ⟨es, _, _, rfl, rfl⟩
  · rw [r.length, List.length_map, List.length_map]
  · rw [r.length, List.length_map, List.length_map]
/-- d[k] = v of one's own dict -/
theorem dpu_of {a : Addr} {ks us : List U} {xs : List V} {k w : U} {y v : V} (mu : ∀ a, A a → Mu (H a)) (ha : A a) (d : DAt H a ks xs) (r : Rps K H A us xs) (f : fitK ks k = true) (hk : Rp K H A k y) (hw : Rp K H A w v) (hl : us.length < sizeLine) :
    ∃ H', DPU H a y v H' ∧ (∀ b o, b ≠ a → H b = some o → H' b = some o) ∧ Top K H' A (.dct (dputK ks k) (dputV ks us k w)) a := by
  have ln := d.len r
  have l2 : (dputV ks us k w).length ≤ sizeLine := Nat.le_trans (dput_len ln) hl
  have nt : ∀ b ys, H b = some (.tup ys) → b ≠ a := fun b ys h e => by
    subst e
    have := mu b ha
    rw [h] at this; exact this
  have fin : ∀ (o : HO) (zs : List V), DAt (upd H a o) a (dputK ks k) zs → Rps K H A (dputV ks us k w) zs → Top K (upd H a o) A (.dct (dputK ks k) (dputV ks us k w)) a := fun o zs d' r' =>
    ⟨zs, d', l2, r'.re mu (fun b o' nb z => upd_em _ b o' (fun y => nb (y ▸ ha)) z) fun b z => .inl z⟩
  have nput : ∀ (es : List (List U × Addr × V)) (kk : List U) (b : Addr), DNat H a es → KT' H kk b → k = .tup kk → y = .ref b → ks = es.map (fun p => .tup p.1) → xs = es.map (·.2.2) →
      ∃ H', DPU H a y v H' ∧ (∀ b o, b ≠ a → H b = some o → H' b = some o) ∧ Top K H' A (.dct (dputK ks k) (dputV ks us k w)) a := by
    rintro es kk b h kt rfl rfl rfl rfl
    have le : es.length = us.length := by rw [r.length, List.length_map]
    refine ⟨_, .inr ⟨es, kk, b, h, rfl, kt, by omega, rfl⟩, upd_em _, fin _ _ (.inr ⟨putN es kk b v, putN_ne, ?_, (putN_keys es v).symm, rfl⟩) (putN_vals hw r)⟩
    have tp : ∀ c ys, H c = some (.tup ys) → upd H a (DN a (putN es kk b v)) c = some (.tup ys) := fun c ys hc => by rw [upd_ne (nt c ys hc)]; exact hc
    exact ⟨.inl upd_same, putN_nd h.nd, fun e he => (putN_key h.key kt e he).to tp⟩
  unfold fitK at f
  rw [Bool.or_eq_true, Bool.and_eq_true, Bool.and_eq_true] at f
  rcases d with ⟨kvs, h, e1, e2⟩ | ⟨es, n, h, e1, e2⟩
  · rcases f with ⟨f1, f2⟩ | ⟨f1, f2⟩
    · obtain ⟨q, rfl, rfl⟩ := kk_of f1 hk
      subst e1 e2
      have lk : kvs.length = us.length := by rw [r.length, List.length_map]
      exact ⟨_, .inl (.inl ⟨kvs, q, h, rfl, by omega, rfl⟩), upd_em _, fin _ _ (.inl ⟨_, upd_same, (putK_keys kvs v).symm, rfl⟩) (putK_vals hw r)⟩
    · cases kvs with
      | nil =>
        subst e1 e2
        cases k <;> first | (cases f1; done) | skip
        rename_i kk
        obtain ⟨b, rfl, kt⟩ := kt_of f1 hk
        exact nput [] kk b ⟨.inr ⟨rfl, h⟩, List.nodup_nil, (fun e he => by cases he)⟩ kt rfl rfl rfl rfl
      | cons p kvs =>
        exfalso
        subst e1
        rw [List.map_cons, List.all_cons, Bool.and_eq_true] at f2
        obtain ⟨p1, p2⟩ := p
        cases p1 <;> cases f2.1
  · rcases f with ⟨f1, f2⟩ | ⟨f1, f2⟩
    · exfalso
      subst e1
      cases es with
      | nil => exact n rfl
      | cons p es => rw [List.map_cons, List.all_cons, Bool.and_eq_true] at f2; cases f2.1
    · cases k <;> first | (cases f1; done) | skip
      rename_i kk
      obtain ⟨b, rfl, kt⟩ := kt_of f1 hk
      exact nput es kk b h kt rfl rfl e1 e2
end
/-! ### the rules -/
section
variable {X : Cx} {G : Gm} {o i e f value : Expr} {pos pos' apos cpos p1 p2 : Pos} {b1 b2 b3 : Bool} {m m1 m2 m3 : Md} {g1 g2 g3 : Ev → R (U × Ev)} {y : Str}
noncomputable def pDix : U → U → R U := fun u w => match u with
  | .dct ks us => if fitK ks w = true then (match dget ks us w with
    | some z => .ok z
    | none => .stk) else .stk
  | _ => .stk
/-- d.get(k, x), d a slot -/
noncomputable def gDget2 (i : Nat) (g2 g3 : Ev → R (U × Ev)) : Ev → R (U × Ev) := fun ρ => match ρ[i]? with
  | some (some (.dct _ _)) => (g2 ρ).bind fun k => (g3 k.2).bind fun x => match x.2[i]? with
    | some (some (.dct ks us)) => if fitK ks k.1 = true then .ok ((dget ks us k.1).getD x.1, x.2) else .stk
    | _ => .stk
  | _ => .stk
theorem isDU_of {K : PySem.W.Frag} {H : Hp} {a : Addr} {ks : List U} {xs : List V} (d : DAt H a ks xs) : IsDU H a := by
  rcases d with ⟨kvs, h, _⟩ | ⟨es, _, h, _⟩
  · exact .inl (.inl ⟨kvs, .inl h⟩)
  · exact .inr ⟨es, h⟩
theorem slot_dict {K : PySem.W.Frag} {Z : Pkg} {A : Addr → Prop} {ρ : Ev} {σ : St} {H : Hp} {j : Nat} {ks us : List U} (q : Rel K G Z A ρ σ H) (h : ρ[j]? = some (some (.dct ks us))) : ∃ a xs, σ[j]? = some (some (.ref a)) ∧ DAt H a ks xs ∧ us.length ≤ sizeLine ∧ Rps K H A us xs := by
  obtain ⟨v, h1, h2⟩ := q.slot j _ h
  by_cases c : G.is j = true
  · rw [if_pos c] at h2
    obtain ⟨a, rfl, _, _, _, t⟩ := h2
    obtain ⟨xs, d, l, r⟩ := t
    exact ⟨a, xs, h1, d, l, r⟩
  · rw [if_neg c] at h2
    unfold Rp at h2
    obtain ⟨a, xs, rfl, _, d, l, r⟩ := h2
    exact ⟨a, xs, h1, d, l, r⟩
theorem de_dget2 {j : Nat} (hu : X.A.units + 64 < cLine) (he : DE X G e b1 m1 g1) (hf : DE X G f b2 m2 g2) (n1 : m1 ≠ .P := by decide) (n2 : m2 ≠ .P := by decide) (hN : X.N[j]? = some y := by rfl) (hv : Vis X.env.scope y := by first | exact Or.inl rfl | exact Or.inr (Or.inl rfl) | exact Or.inr (Or.inr rfl))
    (hd : (y == ("__debug__" : Str)) = false := by decide) (hcd : (y == ("__classdict__" : Str)) = false := by decide) (M : M2 X (.Name y p1) "get" apos e f cpos := by exact ⟨rfl, rfl, rfl, rfl⟩) : DE X G (.Call (.Attribute (.Name y p1) "get" apos) [e, f] [] cpos) (b1 || b2) .S (gDget2 j g1 g2) := ⟨(pe_uget2 hu (pe_var hN hv hd hcd) he.un hf.un M).to fun σ H Q h => by
  obtain ⟨Z, A, ρ, q, f⟩ := h
  unfold gDget2 at f
  split at f
  · rename_i ks0 us0 h0
    obtain ⟨a, xs0, s0, d0, _, _⟩ := slot_dict q h0
    obtain ⟨⟨k, ρ1⟩, e1, f⟩ := f.bind
    obtain ⟨⟨x, ρ2⟩, e2, f⟩ := f.bind
    dsimp only at e2 f
    split at f
    · rename_i ks us h2
      split at f
      · rename_i fk
        refine ⟨.ref a, s0, a, rfl, isDU_of (K := X.K) d0, Z, A, ρ, q, ?_⟩
        rw [e1]
        intro v1 H1 q1 x1 s1 vm1
        refine ⟨Z, A, ρ1, q1, ?_⟩
        rw [e2]
        intro v2 H2 q2 x2 s2 vm2
        obtain ⟨a', xs, s0', d, _, r⟩ := slot_dict q2 h2
        rw [s0] at s0'; cases s0'
        obtain ⟨ov, g, z1, z2⟩ := dgu_of d r fk (vm1.laterS q1 x2 n1)
        refine ⟨ov, g, f _ H2 q2 (x1.trans x2) (two s1 s2) ?_⟩
        cases hz : dget ks us k with
        | none => rw [z2 hz]; exact vm2.rp n2
        | some w => obtain ⟨v, rfl, rp⟩ := z1 _ hz; exact rp
      · exact f.elim
    · exact f.elim
  · exact f.elim⟩
/-- d[k] = v, d a slot of one's own -/
noncomputable def sDPutU (i : Nat) (gv gk : Ev → R (U × Ev)) : Ev → SR := fun ρ => SR.of (gv ρ) fun x => if live x.2 i = true then SR.of (gk x.2) fun y => match y.2[i]? with
  | some (some (.dct ks us)) => if fitK ks y.1 = true ∧ us.length < sizeLine then .nx (y.2.set i (some (.dct (dputK ks y.1) (dputV ks us y.1 x.1)))) else .stk
  | _ => .stk
  else .stk
theorem ds_dput {j : Nat} (hu : X.A.units + 64 < cLine) (hv : DE X G value b1 m1 g1) (hk : DE X G i b2 m2 g2) (n1 : m1 ≠ .P := by decide) (n2 : m2 ≠ .P := by decide) (hN : X.N[j]? = some y := by rfl) (hvi : Vis X.env.scope y := by first | exact Or.inl rfl | exact Or.inr (Or.inl rfl) | exact Or.inr (Or.inr rfl)) (c : G.is j = true := by rfl)
    (hd : (y == ("__debug__" : Str)) = false := by decide) (hcd : (y == ("__classdict__" : Str)) = false := by decide) (hs : swapsWith value (some (.Subscript (.Name y p1) i pos')) pos.line X.env = pure false := by rfl) : DS X G m (.Assign [.Subscript (.Name y p1) i pos'] value pos) (sDPutU j g1 g2) := ⟨(ps_uput hu (pe_var hN hvi hd hcd) hk.un hv.un hs).to fun D σ H ⟨Z, A, ρ, q, f⟩ => by
  obtain ⟨⟨w, ρ1⟩, e1, f⟩ := f.of
  refine ⟨Z, A, ρ, q, ?_⟩
  rw [e1]
  intro v H1 q1 x1 s1 vm
  dsimp only at f
  split at f
  · rename_i hl
    obtain ⟨u00, hu0⟩ := live_ex hl
    obtain ⟨a0, h0, _⟩ := q1.own c hu0
    obtain ⟨⟨k, ρ2⟩, e2, f⟩ := f.of
    refine ⟨.ref a0, h0, Z, A, ρ1, q1, ?_⟩
    rw [e2]
    intro v2 H2 q2 x2 s2 vm2
    dsimp only at f
    split at f
    · rename_i ks us hus
      split at f
      · rename_i fk
        obtain ⟨a0', k1, k2, _, _, k5⟩ := q2.own c hus
        rw [h0] at k1; cases k1
        obtain ⟨xs, d, _, r⟩ := k5
        obtain ⟨H', dp, em, t⟩ := dpu_of q2.mu k2 d r fk.1 (vm2.rp n2) ((vm.rp n1).re q1.mu x2 fun b z => .inl z) fk.2
        exact ⟨a0, H', rfl, dp, f A σ H' (q2.put c hus h0 em t)⟩
      · exact f.elim
    · exact f.elim
  · exact f.elim⟩
end
end L2
end
section
set_option Elab.async false
set_option linter.all false
set_option maxRecDepth 100000
set_option maxHeartbeats 4000000
namespace Hc.Zp
open PySem
/-! ### zip of two, each a list or a tuple -/
def IsSq (l : Bool) (h : Heap) (a : Addr) (xs : Array Value) : Prop := if l = true then h.IsList a xs else h.IsTuple a xs
def IsIt (l : Bool) (h : Heap) (it a : Addr) (i : Nat) : Prop := if l = true then h.IsListIter it a i else h.IsTupleIter it a i
def itNm (l : Bool) : String := if l = true then "list_iterator" else "tuple_iterator"
theorem IsSq.at {l : Bool} {h h' : Heap} {a : Addr} {xs : Array Value} (x : IsSq l h a xs) (e : ∀ o, h.get? a = some o → h'.get? a = some o) : IsSq l h' a xs := by
  cases l with
  | true => exact Heap.IsList.at x e
  | false => exact Heap.IsTuple.at x e
theorem IsIt.at {l : Bool} {h h' : Heap} {it a : Addr} {i : Nat} (x : IsIt l h it a i) (e : ∀ o, h.get? it = some o → h'.get? it = some o) : IsIt l h' it a i := by
  cases l with
  | true => exact Heap.IsListIter.at x e
  | false => exact Heap.IsTupleIter.at x e
theorem IsIt.obj {l : Bool} {h : Heap} {it a : Addr} {i : Nat} (x : IsIt l h it a i) : ∃ o, h.get? it = some o ∧ o.data = .fields #[.ref a, .int i 0] ∧ o.cls = .type (itNm l) := by
  cases l with
  | true => obtain ⟨o, e, c, d⟩ := x; exact ⟨o, e, d, c⟩
  | false => obtain ⟨o, e, c, d⟩ := x; exact ⟨o, e, d, c⟩
section
variable {prog : Program} {w : World} {A : Around} {E : Value → Shared → Prop} {s : Shared}
theorem nextT_item {it a : Addr} {i : Nat} {xs : Array Value} {x : Value} {Q : Value → Shared → Prop} (hi : s.heap.IsTupleIter it a i) (ha : s.heap.IsTuple a xs) (hx : xs[i]? = some x)
    (q : ∀ h', h'.IsTupleIter it a (i + 1) → Heap.SameBut it s.heap h' → Q x { s with heap := h' }) : wpAny (model prog w) A (Builtin.SmallTypes.nextOf (.ref it)) Q E s := by
  obtain ⟨o, ho, hc, hd⟩ := id hi
  obtain ⟨oa, hoa, _, na, hda⟩ := ha
  unfold Builtin.SmallTypes.nextOf
  refine wpAny_bind (wpAny_callSpecial?_slot (name := Str.ofString "__next__") hi.typeIs F.slot_tuple_iterator_next (wpAny_call_entry F.slot_tuple_iterator_next hi.typeIs F.entry_tuple_iterator_next ?_ (F.args_tuple_iterator_next_1 _)))
  show wpAny _ _ (field (Value.ref it) 0 >>= _) _ _ s
  refine wpAny_bind (wpAny_field ho hd (x := .ref a) rfl ?_)
  show wpAny _ _ (if (Value.ref a == Value.none) = true then _ else _) _ _ s
  rw [if_neg (show ¬ ((Value.ref a == Value.none) = true) from Bool.false_ne_true)]
  show wpAny _ _ (field (Value.ref it) 1 >>= _) _ _ s
  refine wpAny_bind (wpAny_field ho hd (x := .int i 0) rfl ?_)
  show wpAny _ _ (seqItems? (Value.ref a) >>= _) _ _ s
  refine wpAny_bind (wpAny_seqItems hoa hda ?_)
  simp only [Int.toNat_natCast, hx]
  refine wpAny_bind (wpAny_setField ho hd (by simp) (wpAny_pure ⟨x, rfl, wpAny_pure (q _ ⟨_, Heap.get?_update_self _ ho (Obj.isFreed_of_fields (Obj.data_mapFields hd _)), (Obj.cls_mapFields ..).trans hc, ?_⟩ (Heap.SameBut.update ..))⟩))
  rw [Obj.data_mapFields hd]; simp [rawInt]
theorem nextT_end {it a : Addr} {i : Nat} {xs : Array Value} {Q : Value → Shared → Prop} (hh : A.handled = none) (hi : s.heap.IsTupleIter it a i) (ha : s.heap.IsTuple a xs) (hx : xs[i]? = none)
    (q : ∀ h' e, Heap.ExtBut it s.heap h' → (∃ o, h'.get? e = some o ∧ o.cls = .type "StopIteration") → E (.ref e) { s with heap := h' }) : wpAny (model prog w) A (Builtin.SmallTypes.nextOf (.ref it)) Q E s := by
  obtain ⟨o, ho, hc, hd⟩ := id hi
  obtain ⟨oa, hoa, _, na, hda⟩ := ha
  unfold Builtin.SmallTypes.nextOf
  refine wpAny_bind (wpAny_callSpecial?_slot (name := Str.ofString "__next__") hi.typeIs F.slot_tuple_iterator_next (wpAny_call_entry F.slot_tuple_iterator_next hi.typeIs F.entry_tuple_iterator_next ?_ (F.args_tuple_iterator_next_1 _)))
  show wpAny _ _ (field (Value.ref it) 0 >>= _) _ _ s
  refine wpAny_bind (wpAny_field ho hd (x := .ref a) rfl ?_)
  show wpAny _ _ (if (Value.ref a == Value.none) = true then _ else _) _ _ s
  rw [if_neg (show ¬ ((Value.ref a == Value.none) = true) from Bool.false_ne_true)]
  show wpAny _ _ (field (Value.ref it) 1 >>= _) _ _ s
  refine wpAny_bind (wpAny_field ho hd (x := .int i 0) rfl ?_)
  show wpAny _ _ (seqItems? (Value.ref a) >>= _) _ _ s
  refine wpAny_bind (wpAny_seqItems hoa hda ?_)
  simp only [Int.toNat_natCast, hx]
  refine wpAny_bind (wpAny_rule (wpAny_bind (wpAny_setField ho hd (by simp) ?_)))
  show wpAny _ _ (newExc (Value.type "StopIteration") [] >>= _) _ _ _
  refine wpAny_bind ?_
  simp only [newExc, newTuple]
  refine wpAny_bind (wpAny_newObj_type ?_ (by size_fits))
  refine wpAny_bind (m := firstArgMember _ _) (wpAny_of_eq (a := Value.none) (by first | rfl | (simp only [firstArgMember]; rfl)) ?_)
  refine wpAny_newObj_type ?_ (by size_fits)
  simp only [raiseNew]
  refine wpAny_bind (wpAny_handled ?_)
  first | rw [show A.in1.handled = none from hh] | rw [hh]
  exact wpAny_bind (wpAny_pure (wpAny_throw (q _ _ (((Heap.SameBut.update ..).extBut.push _).push _) ⟨_, Heap.get?_push_size _ rfl, rfl⟩)))
theorem next_item {l : Bool} {it a : Addr} {i : Nat} {xs : Array Value} {x : Value} {Q : Value → Shared → Prop} (hi : IsIt l s.heap it a i) (ha : IsSq l s.heap a xs) (hx : xs[i]? = some x)
    (q : ∀ h', IsIt l h' it a (i + 1) → Heap.SameBut it s.heap h' → Q x { s with heap := h' }) : wpAny (model prog w) A (Builtin.SmallTypes.nextOf (.ref it)) Q E s := by
  cases l with
  | true => exact wpAny_nextOf_list_item hi ha hx q
  | false => exact nextT_item hi ha hx q
theorem next_end {l : Bool} {it a : Addr} {i : Nat} {xs : Array Value} {Q : Value → Shared → Prop} (hh : A.handled = none) (hi : IsIt l s.heap it a i) (ha : IsSq l s.heap a xs) (hx : xs[i]? = none)
    (q : ∀ h' e, Heap.ExtBut it s.heap h' → (∃ o, h'.get? e = some o ∧ o.cls = .type "StopIteration") → E (.ref e) { s with heap := h' }) : wpAny (model prog w) A (Builtin.SmallTypes.nextOf (.ref it)) Q E s := by
  cases l with
  | true => exact wpAny_nextOf_list_end hh hi ha hx q
  | false => exact nextT_end hh hi ha hx q
theorem iter_sq {l : Bool} {a : Addr} {xs : Array Value} {Q : Value → Shared → Prop} (ha : IsSq l s.heap a xs) (q : Q (.ref s.heap.objs.size) { s with heap := s.heap.push { cls := .type (itNm l), data := .fields #[.ref a, .int 0 0] } }) : wpAny (model prog w) A (pyIter (.ref a)) Q E s := by
  cases l with
  | true => exact wpAny_pyIter_list ha q
  | false => exact wpAny_pyIter_tuple ha q
/-- one turn -/
theorem zipG_item {l1 l2 : Bool} {z TI TO i1 i2 a1 a2 : Addr} {k : Nat} {xs ys : Array Value} {x y p q : Value} {Q : Value → Shared → Prop} (D : ZipApart z TI TO i1 i2 a1 a2)
    (hz : IsZip s.heap z TI TO .none) (hTI : IsPair s.heap TI (.ref i1) (.ref i2)) (hTO : IsPair s.heap TO p q) (h1 : IsIt l1 s.heap i1 a1 k) (h2 : IsIt l2 s.heap i2 a2 k) (g1 : IsSq l1 s.heap a1 xs) (g2 : IsSq l2 s.heap a2 ys) (hx : xs[k]? = some x) (hy : ys[k]? = some y)
    (hQ : ∀ h', IsZip h' z TI TO (rawInt s.heap.objs.size) → IsPair h' TO x y → IsIt l1 h' i1 a1 (k + 1) → IsIt l2 h' i2 a2 (k + 1) → IsPair h' s.heap.objs.size x y → (∀ c o, c ≠ z → c ≠ TO → c ≠ i1 → c ≠ i2 → s.heap.get? c = some o → h'.get? c = some o) → Q (.ref s.heap.objs.size) { s with heap := h' }) :
    wpAny (model prog w) A (Builtin.«zip.__next__» ⟨[.ref z], []⟩) (fun fin s' => ∃ v, fin = .done (.ret v) ∧ Q v s') E s := by
  show wpAny _ _ (field (Value.ref z) 2 >>= _) _ _ _
  refine wpAny_bind (wpAny_field hz rfl (x := .bool false) rfl ?_)
  show wpAny _ _ (field (Value.ref z) 3 >>= _) _ _ _
  refine wpAny_bind (wpAny_field hz rfl (x := .ref TI) rfl (wpAny_bind (wpAny_seqItems hTI rfl ?_)))
  show wpAny _ _ (Builtin.SmallTypes.ownedTupleIsFree (Value.ref z) >>= _) _ _ _
  refine wpAny_bind ?_
  unfold Builtin.SmallTypes.ownedTupleIsFree
  refine wpAny_bind (wpAny_field hz rfl (x := .none) rfl (wpAny_pure ?_))
  simp only [if_true]
  refine wpAny_bind (wpAny_rule (wpAny_bind (wpAny_field hz rfl (x := .ref TO) rfl (wpAny_bind (wpAny_setField_rec hz (by simp) fun w1 z1 b1 => ?_)))))
  replace z1 : IsZip w1 z TI TO .ellipsis := z1
  refine wpAny_bind ?_
  simp only [List.zipIdx_cons, List.zipIdx_nil, List.forIn_cons, List.forIn_nil]
  refine wpAny_bind (wpAny_bind (wpAny_onRaise ?_))
  show wpAny _ _ (Builtin.SmallTypes.nextOf (Value.ref i1) >>= _) _ _ _
  refine wpAny_bind (next_item (h1.at fun o e => b1.extBut _ _ D.i1z e) (g1.at fun o e => b1.extBut _ _ D.l1z e) hx fun w2 n2 b2 => wpAny_pure ?_)
  have t2 : IsPair w2 TO p q := b2.extBut _ _ D.TOi1 (b1.extBut _ _ D.TOz hTO)
  refine wpAny_bind (wpAny_seqItems t2 rfl (wpAny_bind (wpAny_updateSeq_pair t2 fun w3 t3 b3 => ?_)))
  replace t3 : IsPair w3 TO x q := t3
  refine wpAny_bind (wpAny_letGo (wpAny_pure ?_))
  refine wpAny_bind (wpAny_bind (wpAny_onRaise ?_))
  show wpAny _ _ (Builtin.SmallTypes.nextOf (Value.ref i2) >>= _) _ _ _
  refine wpAny_bind (next_item (h2.at fun o e => b3.extBut _ _ D.TOi2.symm (b2.extBut _ _ D.i12.symm (b1.extBut _ _ D.i2z e))) (g2.at fun o e => b3.extBut _ _ D.l2TO (b2.extBut _ _ D.l2i1 (b1.extBut _ _ D.l2z e))) hy fun w4 n4 b4 => wpAny_pure ?_)
  have t4 : IsPair w4 TO x q := b4.extBut _ _ D.TOi2 t3
  refine wpAny_bind (wpAny_seqItems t4 rfl (wpAny_bind (wpAny_updateSeq_pair t4 fun w5 t5 b5 => ?_)))
  replace t5 : IsPair w5 TO x y := t5
  refine wpAny_bind (wpAny_letGo (wpAny_pure (wpAny_pure ?_)))
  refine wpAny_bind (wpAny_seqItems t5 rfl (wpAny_bind (wpAny_newTuple ?_)))
  have sz : w5.objs.size = s.heap.objs.size := by rw [b5.1, b4.1, b3.1, b2.1, b1.1]
  have z5 : IsZip w5 z TI TO .ellipsis := b5.extBut _ _ D.TOz.symm (b4.extBut _ _ D.i2z.symm (b3.extBut _ _ D.TOz.symm (b2.extBut _ _ D.i1z.symm z1)))
  have kp : ∀ c o, c ≠ z → c ≠ TO → c ≠ i1 → c ≠ i2 → s.heap.get? c = some o → w5.get? c = some o := fun c o c1 c2 c3 c4 e => b5.extBut _ _ c2 (b4.extBut _ _ c4 (b3.extBut _ _ c2 (b2.extBut _ _ c3 (b1.extBut _ _ c1 e))))
  have n5 : IsIt l1 w5 i1 a1 (k + 1) := n2.at fun o e => b5.extBut _ _ D.TOi1.symm (b4.extBut _ _ D.i12 (b3.extBut _ _ D.TOi1.symm e))
  have m5 : IsIt l2 w5 i2 a2 (k + 1) := n4.at fun o e => b5.extBut _ _ D.TOi2.symm e
  have lz : z < w5.objs.size := Heap.lt_size z5
  show wpAny _ _ (Builtin.SmallTypes.ownedTupleHandOut (Value.ref z) (Value.ref w5.objs.size) >>= _) _ _ _
  refine wpAny_bind ?_
  unfold Builtin.SmallTypes.ownedTupleHandOut
  have z6 : IsZip (w5.push { cls := .type "tuple", data := .seq #[x, y] }) z TI TO .ellipsis := Heap.get?_push_of_some _ z5
  refine wpAny_bind (wpAny_setField_rec z6 (by simp) fun w7 z7 b7 => ?_)
  replace z7 : IsZip w7 z TI TO (rawInt w5.objs.size) := z7
  refine wpAny_setField_rec z7 (by simp) fun w8 z8 b8 => ?_
  replace z8 : IsZip w8 z TI TO (rawInt w5.objs.size) := z8
  have up : ∀ c o, c ≠ z → w5.get? c = some o → w8.get? c = some o := fun c o c1 e => b8.extBut _ _ c1 (b7.extBut _ _ c1 (Heap.get?_push_of_some _ e))
  have t8 : IsPair w8 w5.objs.size x y := b8.extBut _ _ (Nat.ne_of_gt lz) (b7.extBut _ _ (Nat.ne_of_gt lz) (Heap.get?_push_size _ rfl))
  rw [sz] at z8 t8
  refine wpAny_pure ⟨_, rfl, ?_⟩
  show Q (.ref w5.objs.size) _
  rw [sz]
  exact hQ w8 z8 (up _ _ D.TOz t5) (n5.at fun o e => up _ o D.i1z e) (m5.at fun o e => up _ o D.i2z e) t8 fun c o c1 c2 c3 c4 e => up c o c1 (kp c o c1 c2 c3 c4 e)
/-- the end -/
theorem zipG_end {l1 l2 : Bool} {z TI TO i1 i2 a1 a2 : Addr} {k : Nat} {xs ys : Array Value} {p q : Value} {Q : Fin → Shared → Prop} (hh : A.handled = none) (D : ZipApart z TI TO i1 i2 a1 a2)
    (hz : IsZip s.heap z TI TO .none) (hTI : IsPair s.heap TI (.ref i1) (.ref i2)) (hTO : IsPair s.heap TO p q) (h1 : IsIt l1 s.heap i1 a1 k) (h2 : IsIt l2 s.heap i2 a2 k) (g1 : IsSq l1 s.heap a1 xs) (g2 : IsSq l2 s.heap a2 ys) (hend : xs[k]? = none ∨ ys[k]? = none)
    (hE : ∀ h' e, (∀ c o, c ≠ z → c ≠ TO → c ≠ i1 → c ≠ i2 → s.heap.get? c = some o → h'.get? c = some o) → (∃ o, h'.get? e = some o ∧ o.cls = .type "StopIteration") → E (.ref e) { s with heap := h' }) :
    wpAny (model prog w) A (Builtin.«zip.__next__» ⟨[.ref z], []⟩) Q E s := by
  show wpAny _ _ (field (Value.ref z) 2 >>= _) _ _ _
  refine wpAny_bind (wpAny_field hz rfl (x := .bool false) rfl ?_)
  show wpAny _ _ (field (Value.ref z) 3 >>= _) _ _ _
  refine wpAny_bind (wpAny_field hz rfl (x := .ref TI) rfl (wpAny_bind (wpAny_seqItems hTI rfl ?_)))
  show wpAny _ _ (Builtin.SmallTypes.ownedTupleIsFree (Value.ref z) >>= _) _ _ _
  refine wpAny_bind ?_
  unfold Builtin.SmallTypes.ownedTupleIsFree
  refine wpAny_bind (wpAny_field hz rfl (x := .none) rfl (wpAny_pure ?_))
  simp only [if_true]
  refine wpAny_bind (wpAny_rule (wpAny_bind (wpAny_field hz rfl (x := .ref TO) rfl (wpAny_bind (wpAny_setField_rec hz (by simp) fun w1 z1 b1 => ?_)))))
  replace z1 : IsZip w1 z TI TO .ellipsis := z1
  refine wpAny_bind ?_
  simp only [List.zipIdx_cons, List.zipIdx_nil, List.forIn_cons, List.forIn_nil]
  refine wpAny_bind (wpAny_bind (wpAny_onRaise ?_))
  show wpAny _ _ (Builtin.SmallTypes.nextOf (Value.ref i1) >>= _) _ _ _
  cases hx : xs[k]? with
  | none =>
    refine wpAny_bind (next_end hh (h1.at fun o e => b1.extBut _ _ D.i1z e) (g1.at fun o e => b1.extBut _ _ D.l1z e) hx fun w2 e b2 he => ?_)
    obtain ⟨oe, hoe, hce⟩ := he
    have z2 : IsZip w2 z TI TO .ellipsis := b2 _ _ D.i1z.symm z1
    have nz : e ≠ z := fun x => by subst x; rw [z2] at hoe; cases hoe; simp at hce
    exact wpAny_setField_rec z2 (by simp) fun w3 _ b3 => hE w3 e (fun c o c1 _ c3 _ x => b3.extBut _ _ c1 (b2 _ _ c3 (b1.extBut _ _ c1 x))) ⟨oe, b3.extBut _ _ nz hoe, hce⟩
  | some x =>
    have hy : ys[k]? = none := by rcases hend with h | h; rw [hx] at h; cases h; exact h
    refine wpAny_bind (next_item (h1.at fun o e => b1.extBut _ _ D.i1z e) (g1.at fun o e => b1.extBut _ _ D.l1z e) hx fun w2 n2 b2 => wpAny_pure ?_)
    have t2 : IsPair w2 TO p q := b2.extBut _ _ D.TOi1 (b1.extBut _ _ D.TOz hTO)
    refine wpAny_bind (wpAny_seqItems t2 rfl (wpAny_bind (wpAny_updateSeq_pair t2 fun w3 t3 b3 => ?_)))
    refine wpAny_bind (wpAny_letGo (wpAny_pure ?_))
    refine wpAny_bind (wpAny_bind (wpAny_onRaise ?_))
    show wpAny _ _ (Builtin.SmallTypes.nextOf (Value.ref i2) >>= _) _ _ _
    refine wpAny_bind (next_end hh (h2.at fun o e => b3.extBut _ _ D.TOi2.symm (b2.extBut _ _ D.i12.symm (b1.extBut _ _ D.i2z e))) (g2.at fun o e => b3.extBut _ _ D.l2TO (b2.extBut _ _ D.l2i1 (b1.extBut _ _ D.l2z e))) hy fun w4 e b4 he => ?_)
    obtain ⟨oe, hoe, hce⟩ := he
    have z4 : IsZip w4 z TI TO .ellipsis := b4 _ _ D.i2z.symm (b3.extBut _ _ D.TOz.symm (b2.extBut _ _ D.i1z.symm z1))
    have nz : e ≠ z := fun x => by subst x; rw [z4] at hoe; cases hoe; simp at hce
    exact wpAny_setField_rec z4 (by simp) fun w5 _ b5 => hE w5 e (fun c o c1 c2 c3 c4 x => b5.extBut _ _ c1 (b4 _ _ c4 (b3.extBut _ _ c2 (b2.extBut _ _ c3 (b1.extBut _ _ c1 x))))) ⟨oe, b5.extBut _ _ nz hoe, hce⟩
theorem zipG_next {l1 l2 : Bool} {z TI TO i1 i2 a1 a2 : Addr} {k : Nat} {xs ys : Array Value} {x y p q : Value} {Q : Option Value → Shared → Prop} (D : ZipApart z TI TO i1 i2 a1 a2)
    (hz : IsZip s.heap z TI TO .none) (hTI : IsPair s.heap TI (.ref i1) (.ref i2)) (hTO : IsPair s.heap TO p q) (h1 : IsIt l1 s.heap i1 a1 k) (h2 : IsIt l2 s.heap i2 a2 k) (g1 : IsSq l1 s.heap a1 xs) (g2 : IsSq l2 s.heap a2 ys) (hx : xs[k]? = some x) (hy : ys[k]? = some y)
    (hQ : ∀ h', IsZip h' z TI TO (rawInt s.heap.objs.size) → IsPair h' TO x y → IsIt l1 h' i1 a1 (k + 1) → IsIt l2 h' i2 a2 (k + 1) → IsPair h' s.heap.objs.size x y → (∀ c o, c ≠ z → c ≠ TO → c ≠ i1 → c ≠ i2 → s.heap.get? c = some o → h'.get? c = some o) → Q (some (.ref s.heap.objs.size)) { s with heap := h' }) :
    wpAny (model prog w) A (pyNext (.ref z)) Q E s := by
  have hT : s.TypeIs (.ref z) "zip" := ⟨_, hz, rfl⟩
  unfold pyNext
  exact wpAny_bind (wpAny_attempt (wpAny_callSpecial?_slot (name := Str.ofString "__next__") hT F.slot_zip_next (wpAny_call_entry F.slot_zip_next hT F.entry_zip_next (zipG_item D hz hTI hTO h1 h2 g1 g2 hx hy fun h' c1 c2 c3 c4 c5 c6 => wpAny_pure (hQ h' c1 c2 c3 c4 c5 c6)) (F.args_zip_next_1 _))))
theorem zipG_stop {l1 l2 : Bool} {z TI TO i1 i2 a1 a2 : Addr} {k : Nat} {xs ys : Array Value} {p q : Value} {Q : Option Value → Shared → Prop} (hh : A.handled = none) (D : ZipApart z TI TO i1 i2 a1 a2)
    (hz : IsZip s.heap z TI TO .none) (hTI : IsPair s.heap TI (.ref i1) (.ref i2)) (hTO : IsPair s.heap TO p q) (h1 : IsIt l1 s.heap i1 a1 k) (h2 : IsIt l2 s.heap i2 a2 k) (g1 : IsSq l1 s.heap a1 xs) (g2 : IsSq l2 s.heap a2 ys) (hend : xs[k]? = none ∨ ys[k]? = none)
    (hQ : ∀ h', (∀ c o, c ≠ z → c ≠ TO → c ≠ i1 → c ≠ i2 → s.heap.get? c = some o → h'.get? c = some o) → Q none { s with heap := h' }) : wpAny (model prog w) A (pyNext (.ref z)) Q E s := by
  have hT : s.TypeIs (.ref z) "zip" := ⟨_, hz, rfl⟩
  unfold pyNext
  refine wpAny_bind (wpAny_attempt (wpAny_callSpecial?_slot (name := Str.ofString "__next__") hT F.slot_zip_next (wpAny_call_entry F.slot_zip_next hT F.entry_zip_next (zipG_end hh D hz hTI hTO h1 h2 g1 g2 hend fun h' e hk ⟨o, ho, hc⟩ => ?_) (F.args_zip_next_1 _))))
  exact wpAny_bind (wpAny_isInstance (T := "StopIteration") (b := true) ⟨o, ho, hc⟩ isSubtype_stop (wpAny_pure (hQ _ hk)))
end
abbrev zh1 (l1 : Bool) (h : Heap) (a1 : Addr) : Heap := h.push { cls := .type (itNm l1), data := .fields #[.ref a1, .int 0 0] }
abbrev zh2 (l1 l2 : Bool) (h : Heap) (a1 a2 : Addr) : Heap := (zh1 l1 h a1).push { cls := .type (itNm l2), data := .fields #[.ref a2, .int 0 0] }
abbrev zh3 (l1 l2 : Bool) (h : Heap) (a1 a2 : Addr) : Heap := (zh2 l1 l2 h a1 a2).push { cls := .type "tuple", data := .seq #[.ref h.objs.size, .ref (zh1 l1 h a1).objs.size] }
abbrev zh4 (l1 l2 : Bool) (h : Heap) (a1 a2 : Addr) : Heap := (zh3 l1 l2 h a1 a2).push { cls := .type "tuple", data := .seq #[.none, .none] }
abbrev zh5 (l1 l2 : Bool) (h : Heap) (a1 a2 : Addr) : Heap := (zh4 l1 l2 h a1 a2).push { cls := .type "zip", data := .fields #[.none, .bool false, .bool false, .ref (zh2 l1 l2 h a1 a2).objs.size, .ref (zh3 l1 l2 h a1 a2).objs.size] }
theorem zipG_new (l1 l2 : Bool) (a1 a2 : Addr) (xs ys : Array Value) : Meets (Builtin.«zip.__new__» ⟨[.type "zip", .ref a1, .ref a2], []⟩) (fun _ R s => IsSq l1 s.heap a1 xs ∧ IsSq l2 s.heap a2 ys ∧ R (.ok (.ret (.ref (zh4 l1 l2 s.heap a1 a2).objs.size))) { s with heap := zh5 l1 l2 s.heap a1 a2 }) :=
  .of_wp fun prog w A R s h => by
    obtain ⟨hp, g, d, tk, os⟩ := s; obtain ⟨g1, g2, h⟩ := h
    have sb := sub_zip
    have q1 : IsSq l1 (Shared.heap ⟨hp, g, d, tk, os⟩) a1 xs := g1
    have q2 : IsSq l2 (Shared.heap ⟨hp.push { cls := .type (itNm l1), data := .fields #[.ref a1, .int 0 0] }, g, d, tk, os⟩) a2 ys := g2.at fun o e => Heap.get?_push_of_some _ e
    wp_walk using iter_sq q1, iter_sq q2
    exact ⟨_, rfl, h⟩
section
variable {prog : Program} {w : World} {A : Around} {E : Value → Shared → Prop} {s : Shared}
theorem zipG_call {l1 l2 : Bool} {a1 a2 : Addr} {xs ys : Array Value} {Q : Value → Shared → Prop} (g1 : IsSq l1 s.heap a1 xs) (g2 : IsSq l2 s.heap a2 ys)
    (h : ∀ h', IsZip h' (s.heap.objs.size + 4) (s.heap.objs.size + 2) (s.heap.objs.size + 3) .none → IsPair h' (s.heap.objs.size + 2) (.ref s.heap.objs.size) (.ref (s.heap.objs.size + 1)) → IsPair h' (s.heap.objs.size + 3) .none .none →
      IsIt l1 h' s.heap.objs.size a1 0 → IsIt l2 h' (s.heap.objs.size + 1) a2 0 → (∀ c o, s.heap.get? c = some o → h'.get? c = some o) → Q (.ref (s.heap.objs.size + 4)) { s with heap := h' }) : wpAny (model prog w) A (call (.type "zip") [.ref a1, .ref a2]) Q E s := by
  refine callType_new F.called_zip (by decide) (F.typeCall_zip_2 _ _) (F.newCall_zip_2 _ _) (fun obj => F.args_object_init_3 obj _ _) F.entry_zip_new (zipG_new l1 l2 a1 a2 xs ys) ⟨g1, g2, ?_⟩
  have z1 : (zh1 l1 s.heap a1).objs.size = s.heap.objs.size + 1 := Heap.size_push ..
  have z2 : (zh2 l1 l2 s.heap a1 a2).objs.size = s.heap.objs.size + 2 := by rw [Heap.size_push, z1]
  have z3 : (zh3 l1 l2 s.heap a1 a2).objs.size = s.heap.objs.size + 3 := by rw [Heap.size_push, z2]
  have z4 : (zh4 l1 l2 s.heap a1 a2).objs.size = s.heap.objs.size + 4 := by rw [Heap.size_push, z3]
  have e5 : (zh5 l1 l2 s.heap a1 a2).get? (zh4 l1 l2 s.heap a1 a2).objs.size = some _ := Heap.get?_push_size _ rfl
  have e4 : (zh5 l1 l2 s.heap a1 a2).get? (zh3 l1 l2 s.heap a1 a2).objs.size = some _ := Heap.get?_push_of_some _ (Heap.get?_push_size _ rfl)
  have e3 : (zh5 l1 l2 s.heap a1 a2).get? (zh2 l1 l2 s.heap a1 a2).objs.size = some _ := Heap.get?_push_of_some _ (Heap.get?_push_of_some _ (Heap.get?_push_size _ rfl))
  have e2 : (zh5 l1 l2 s.heap a1 a2).get? (zh1 l1 s.heap a1).objs.size = some _ := Heap.get?_push_of_some _ (Heap.get?_push_of_some _ (Heap.get?_push_of_some _ (Heap.get?_push_size _ rfl)))
  have e1 : (zh5 l1 l2 s.heap a1 a2).get? s.heap.objs.size = some _ := Heap.get?_push_of_some _ (Heap.get?_push_of_some _ (Heap.get?_push_of_some _ (Heap.get?_push_of_some _ (Heap.get?_push_size _ rfl))))
  show _ ∧ _
  rw [z2, z3, z4] at e5
  rw [z1, z2] at e3
  rw [z3] at e4
  rw [z1] at e2
  rw [z4]
  have mk : ∀ (l : Bool) (hp : Heap) (it a : Addr) (_ : hp.get? it = some { cls := .type (itNm l), data := .fields #[.ref a, .int 0 0] }), IsIt l hp it a 0 := fun l hp it a e => by
    cases l with
    | true => exact ⟨_, e, rfl, rfl⟩
    | false => exact ⟨_, e, rfl, rfl⟩
  exact ⟨⟨_, e5, rfl⟩, h _ e5 e3 e4 (mk l1 _ _ _ e1) (mk l2 _ _ _ e2) fun c o x => Heap.get?_push_of_some _ (Heap.get?_push_of_some _ (Heap.get?_push_of_some _ (Heap.get?_push_of_some _ (Heap.get?_push_of_some _ x))))⟩
end
end Hc.Zp
end
section
set_option Elab.async false
set_option linter.all false
set_option maxRecDepth 100000
set_option maxHeartbeats 4000000
namespace L2
open PySem PySem.Spec PyProof.Rows Hc.Zp
section
variable {X : Cx} {pins : List (Addr × Obj)} {σ : St} {H : Hp} {s : Shared} {h' : Heap} {fp : List Addr} {T : Addr} {o : HO}
/-- some records turn, and a new object is laid and tracked -/
theorem Inv.turnNew {t' : Nat} (I : Inv X pins σ H s) (hf : ∀ b ∈ fp, FpOk X pins H b) (k : ∀ b o, b ∉ fp → s.heap.get? b = some o → h'.get? b = some o) (hT : s.heap.objs.size ≤ T) (new : ObjOk X.prog X.w (upd H T o) h' T o) :
    Inv X pins σ (upd H T o) { s with heap := h', toks := t' } := by
  have hn : H T = none := I.hok.fresh hT
  have nf : ∀ b u, H b = some u → b ∉ fp := fun b u e z => by rw [(hf b z).1] at e; cases e
  have nT : ∀ b u, H b = some u → b ≠ T := fun b u e z => by rw [z, hn] at e; cases e
  refine I.step (g' := s.gens) (d' := s.drawn) (ch := fp) (fun b hb => ?_) (fun b o _ _ hc e _ => k b o hc e) (fun b o _ _ hc e _ => ⟨o.slots, k b o hc e⟩) (fun b o _ e n => ?_) (fun b o hc e => ⟨o, k b o hc e⟩)
    (fun b xs e => ?_) (fun b o u e => ?_) (fun b ps e => ⟨#[], ?_⟩) (fun m hm => ?_) (fun b u e => ?_) I.bare
  · obtain ⟨f0, f1, f2, f3, f4, f5⟩ := hf b hb
    exact ⟨f3, f1, f4, f5⟩
  · rw [upd_ne (Nat.ne_of_lt (Nat.lt_of_lt_of_le (Heap.lt_size e) hT))]; exact n
  · rw [upd_ne (nT b _ e)]; exact e
  · rw [upd_ne (nT b _ e)]; exact e
  · rw [upd_ne (nT b _ e), e]; simp
  · obtain ⟨o, es, ep, ho, r⟩ := hm
    exact ⟨o, es, ep, k _ o (fun z => (hf _ z).2.1 rfl) ho, r⟩
  · by_cases c : b = T
    · subst c; rw [upd_same] at e; cases e; exact new
    · rw [upd_ne c] at e
      refine (I.hok b u e).stay (fun c v hc q => k c v ?_ q) (fun c q => by rw [upd_ne (nT c _ q)]; exact q) fun c xs q => by rw [upd_ne (nT c _ q)]; exact q
      rcases hc with z | z
      · rw [z]; exact nf b u e
      · exact nf c _ z
/-- some records turn -/
theorem Inv.turneds {t' : Nat} (I : Inv X pins σ H s) (hf : ∀ b ∈ fp, FpOk X pins H b) (k : ∀ b o, b ∉ fp → s.heap.get? b = some o → h'.get? b = some o) : Inv X pins σ H { s with heap := h', toks := t' } := by
  have nf : ∀ b u, H b = some u → b ∉ fp := fun b u e z => by rw [(hf b z).1] at e; cases e
  refine I.step (g' := s.gens) (d' := s.drawn) (ch := fp) (fun b hb => ?_) (fun b o _ _ hc e _ => k b o hc e) (fun b o _ _ hc e _ => ⟨o.slots, k b o hc e⟩) (fun b o _ e n => n) (fun b o hc e => ⟨o, k b o hc e⟩)
    (fun b xs e => e) (fun b o u e => e) (fun b ps e => ⟨#[], by rw [e]; simp⟩) (fun m hm => ?_) (fun b u e => ?_) I.bare
  · obtain ⟨f0, f1, f2, f3, f4, f5⟩ := hf b hb
    exact ⟨f3, f1, f4, f5⟩
  · obtain ⟨o, es, ep, ho, r⟩ := hm
    exact ⟨o, es, ep, k _ o (fun z => (hf _ z).2.1 rfl) ho, r⟩
  · refine (I.hok b u e).stay (fun c v hc q => k c v ?_ q) (fun _ q => q) fun _ _ q => q
    rcases hc with z | z
    · rw [z]; exact nf b u e
    · exact nf c _ z
def SqK (l : Bool) (K : PySem.W.Frag) (H : Hp) (a : Addr) (xs : List V) : Prop := if l = true then SqL K H a xs else SqT K H a xs
theorem Inv.sq {l : Bool} {a : Addr} {xs : List V} (I : Inv X pins σ H s) (q : SqK l X.K H a xs) : ∃ its, Vals xs its ∧ IsSq l s.heap a its.toArray := by
  cases l with
  | true => obtain ⟨its, rv, p, _⟩ := I.list q; exact ⟨its, rv, p.isList⟩
  | false => obtain ⟨its, rv, p, _⟩ := I.tuple q; exact ⟨its, rv, p⟩
theorem Inv.sq_inj {l : Bool} {a : Addr} {xs ys : List V} (I : Inv X pins σ H s) (q : SqK l X.K H a xs) (q' : SqK l X.K H a ys) : xs = ys := by
  cases l with
  | true => exact I.list_inj q q'
  | false => exact I.tuple_inj q q'
end
def Itz (K : PySem.W.Frag) (l1 l2 : Bool) (a1 a2 : Addr) : It :=
  ⟨fun i H => ∃ xs ys x y, SqK l1 K H a1 xs ∧ SqK l2 K H a2 ys ∧ xs[i]? = some x ∧ ys[i]? = some y,
   fun i H v H' => ∃ T x y, v = .ref T ∧ H T = none ∧ H' = upd H T (.tup [x, y]) ∧ (∀ xs, SqK l1 K H a1 xs → xs[i]? = some x) ∧ (∀ ys, SqK l2 K H a2 ys → ys[i]? = some y),
   fun i H => ∃ xs ys, SqK l1 K H a1 xs ∧ SqK l2 K H a2 ys ∧ (xs.length ≤ i ∨ ys.length ≤ i)⟩
theorem turn_zip {P : Program} {w : World} {K : PySem.W.Frag} {elts : List Expr} {kt : Nat} {tp : Pos} {l1 l2 : Bool} {z TI TO i1 i2 a1 a2 : Addr} (D : ZipApart z TI TO i1 i2 a1 a2) :
    Turn P w K (.Tuple elts kt tp) (Itz K l1 l2 a1 a2) [z, TI, TO, i1, i2] z (fun i h => IsZip h z TI TO .none ∧ IsPair h TI (.ref i1) (.ref i2) ∧ (∃ p q, IsPair h TO p q) ∧ IsIt l1 h i1 a1 i ∧ IsIt l2 h i2 a2 i) where
  mem := by simp
  obj := fun i h ⟨hz, hI, ⟨p, q, hO⟩, h1, h2⟩ b hb => by
    obtain ⟨o1, e1, d1, _⟩ := h1.obj
    obtain ⟨o2, e2, d2, _⟩ := h2.obj
    simp only [List.mem_cons, List.mem_nil_iff, or_false] at hb
    rcases hb with rfl | rfl | rfl | rfl | rfl
    · exact ⟨_, hz, fun v e => by cases e⟩
    · exact ⟨_, hI, fun v e => by cases e⟩
    · exact ⟨_, hO, fun v e => by cases e⟩
    · exact ⟨o1, e1, fun v e => by rw [d1] at e; cases e⟩
    · exact ⟨o2, e2, fun v e => by rw [d2] at e; cases e⟩
  keep := fun i h h' ⟨hz, hI, ⟨p, q, hO⟩, h1, h2⟩ k => ⟨k z (by simp) _ hz, k TI (by simp) _ hI, ⟨p, q, k TO (by simp) _ hO⟩, h1.at fun o e => k i1 (by simp) o e, h2.at fun o e => k i2 (by simp) o e⟩
  item := by
    intro X hP hw hK hc i pins s σ H E I hf st hg
    subst hP hw hK
    obtain ⟨hz, hI, ⟨p, q, hO⟩, h1, h2⟩ := st
    obtain ⟨xs, ys, x, y, q1, q2, hx, hy⟩ := hg
    obtain ⟨is1, v1, g1⟩ := I.sq q1
    obtain ⟨is2, v2, g2⟩ := I.sq q2
    obtain ⟨u1, hu1, r1⟩ := v1.get hx
    obtain ⟨u2, hu2, r2⟩ := v2.get hy
    obtain ⟨o1, e1, _, _⟩ := h1.obj
    obtain ⟨o2, e2, _, _⟩ := h2.obj
    have lz := Heap.lt_size hz; have lI := Heap.lt_size hI; have lO := Heap.lt_size hO; have l1' := Heap.lt_size e1; have l2' := Heap.lt_size e2
    refine zipG_next D hz hI hO h1 h2 g1 g2 (x := u1) (y := u2) (by simpa using hu1) (by simpa using hu2) fun h' c1 c2 c3 c4 c5 kp => ⟨_, rfl, ?_⟩
    refine wpAny_letOwnedTupleGo_zip c1 fun h2' z2 sb => ?_
    have c5' : IsPair h2' s.heap.objs.size u1 u2 := sb.extBut _ _ (Nat.ne_of_gt lz) c5
    have kp2 : ∀ b o, b ∉ [z, TI, TO, i1, i2] → s.heap.get? b = some o → h2'.get? b = some o := fun b o hb e => by
      simp only [List.mem_cons, List.mem_nil_iff, or_false, not_or] at hb
      exact sb.extBut _ _ hb.1 (kp b o hb.1 hb.2.2.1 hb.2.2.2.1 hb.2.2.2.2 e)
    have I2 : Inv X pins σ (upd H s.heap.objs.size (.tup [x, y])) { s with heap := h2' } := I.turnNew (t' := s.toks) hf kp2 (Nat.le_refl _) ⟨by rw [sizeLine_eq]; simp, [u1, u2], .cons r1 (.cons r2 .nil), ⟨_, c5', rfl, _, rfl⟩, _, c5'⟩
    have fr : H s.heap.objs.size = none := I.hok.fresh (Nat.le_refl _)
    refine ⟨.ref s.heap.objs.size, _, I2, rfl, ⟨_, x, y, rfl, fr, rfl, fun zs hq => by rw [I.sq_inj hq q1]; exact hx, fun zs hq => by rw [I.sq_inj hq q2]; exact hy⟩, ⟨z2, ?_, ⟨u1, u2, ?_⟩, ?_, ?_⟩, fun b hb => ?_⟩
    · exact sb.extBut _ _ D.TIz (kp _ _ D.TIz D.TITO D.TIi1 D.TIi2 hI)
    · exact sb.extBut _ _ D.TOz c2
    · exact c3.at fun o e => sb.extBut _ _ D.i1z e
    · exact c4.at fun o e => sb.extBut _ _ D.i2z e
    · have hn : b ≠ s.heap.objs.size := by
        simp only [List.mem_cons, List.mem_nil_iff, or_false] at hb
        rcases hb with rfl | rfl | rfl | rfl | rfl
        · exact Nat.ne_of_lt lz
        · exact Nat.ne_of_lt lI
        · exact Nat.ne_of_lt lO
        · exact Nat.ne_of_lt l1'
        · exact Nat.ne_of_lt l2'
      rw [upd_ne hn]; exact (hf b hb).1
  done := by
    intro X hP hw hK hc i pins s σ H E I hf st hg
    subst hP hw hK
    obtain ⟨hz, hI, ⟨p, q, hO⟩, h1, h2⟩ := st
    obtain ⟨xs, ys, q1, q2, he⟩ := hg
    obtain ⟨is1, v1, g1⟩ := I.sq q1
    obtain ⟨is2, v2, g2⟩ := I.sq q2
    have n1 := v1.length; have n2 := v2.length
    refine zipG_stop (I.ok.hd hc) D hz hI hO h1 h2 g1 g2 (by
      rcases he with he | he
      · exact .inl (by simp; omega)
      · exact .inr (by simp; omega)) fun h' kp => ⟨rfl, I.turneds (t' := s.toks) hf fun b o hb e => ?_⟩
    simp only [List.mem_cons, List.mem_nil_iff, or_false, not_or] at hb
    exact kp b o hb.1 hb.2.2.1 hb.2.2.2.1 hb.2.2.2.2 e
  self := fun _ _ _ _ _ st h => wpAny_pyIter_zip st.1 h
section
variable {X : Cx} {elts : List Expr} {kt : Nat} {tp p pos : Pos} {a b : Expr}
theorem bt_zip : bootBuiltins "zip" = some (.type "zip") := by decide +kernel
def iZip (K : PySem.W.Frag) (ta : TA) : TI := fun σ H R => ta σ H fun vs H1 => ∃ l1 l2 a1 a2 xs ys, vs = [.ref a1, .ref a2] ∧ SqK l1 K H1 a1 xs ∧ SqK l2 K H1 a2 ys ∧ R (Itz K l1 l2 a1 a2) H1
theorem pi_zip {ta : TA} (hg : Gl X "zip") (hm : X.mg "zip" = none) (ha : PA X [a, b] ta) (hs : starEach [a, b] X.env = [(false, eval a X.env), (false, eval b X.env)] := by rfl) (hs2 : starEach [b] X.env = [(false, eval b X.env)] := by rfl) :
    PI X (.Tuple elts kt tp) (.Call (.Name "zip" p) [a, b] [] pos) (iZip X.K ta) := by
  intro pins s σ H R I h
  refine Call_ (ld_blt I hg hm bt_zip (PyProof.Rows.callWith_type1 (thn (ha pos pins s σ H _ I h) fun us s1 ⟨vs, H1, I1, r1, q1⟩ => ?_) (by rw [hs, hs2]) (by rw [hs2]; rfl)))
  obtain ⟨l1, l2, a1, a2, xs, ys, rfl, g1, g2, q⟩ := q1
  cases r1 with
  | cons r rr =>
    cases rr with
    | cons r' rr =>
      cases rr
      cases r
      cases r'
      obtain ⟨is1, v1, m1⟩ := I1.sq g1
      obtain ⟨is2, v2, m2⟩ := I1.sq g2
      have lt : ∀ (l : Bool) (c : Addr) (zs : Array Value), IsSq l s1.heap c zs → c < s1.heap.objs.size := fun l c zs hq => by
        cases l with
        | true => obtain ⟨_, e, _⟩ := hq; exact Heap.lt_size e
        | false => obtain ⟨_, e, _⟩ := hq; exact Heap.lt_size e
      refine zipG_call m1 m2 fun h' z1 z2 z3 z4 z5 kp => wpAny_pyIter_zip z1 ?_
      refine ⟨_, [s1.heap.objs.size + 4, s1.heap.objs.size + 2, s1.heap.objs.size + 3, s1.heap.objs.size, s1.heap.objs.size + 1], _, _, H1, rfl, I1.kept (t' := s1.toks) fun b o e => kp b o e, turn_zip (zipApart_new (lt l1 a1 _ m1) (lt l2 a2 _ m2)), ⟨z1, z2, ⟨_, _, z3⟩, z4, z5⟩, fun b hb => ?_, q⟩
      have hb : s1.heap.objs.size ≤ b := by
        simp only [List.mem_cons, List.mem_nil_iff, or_false] at hb
        rcases hb with rfl | rfl | rfl | rfl | rfl
        · exact Nat.le_add_right _ _
        · exact Nat.le_add_right _ _
        · exact Nat.le_add_right _ _
        · exact Nat.le_refl _
        · exact Nat.le_add_right _ _
      exact I1.fpOk hb (I1.hok.fresh hb)
end
/-! ### the pure side -/
def seqU : U → Option (List U)
  | .lst us => some us
  | .tup us => some us
  | _ => none
def gZip (ga : Ev → R (List U × Ev)) : Ev → R (List U × Ev) := fun ρ => (ga ρ).bind fun x => match x.1 with
  | [u, w] => match seqU u, seqU w with
    | some us, some ws => .ok (List.zipWith (fun a b => .tup [a, b]) us ws, x.2)
    | _, _ => .stk
  | _ => .stk
section
variable {X : Cx} {G : Gm} {elts : List Expr} {kt : Nat} {tp p1 pos : Pos} {a b : Expr} {b1 : Bool} {ga : Ev → R (List U × Ev)} {K : PySem.W.Frag}
theorem seq_of {H : Hp} {A : Addr → Prop} {u : U} {us : List U} {v : V} (e : seqU u = some us) (h : Rp K H A u v) : ∃ l a xs, v = .ref a ∧ us.length ≤ sizeLine ∧ Rps K H A us xs ∧ SqK l K H a xs ∧ ∀ H', Ext A H H' → (∀ b, A b → Mu (H b)) → SqK l K H' a xs := by
  cases u <;> first | (cases e; done) | skip
  · cases e
    unfold Rp at h
    obtain ⟨a, xs, rfl, q, l, z⟩ := h
    exact ⟨false, a, xs, rfl, l, z, SqT.of q, fun H' x mu => SqT.of (x a _ (fun y => by have := mu a y; rw [q] at this; exact this) q)⟩
  · cases e
    unfold Rp at h
    obtain ⟨a, xs, rfl, na, q, l, z⟩ := h
    exact ⟨true, a, xs, rfl, l, z, SqL.of q, fun H' x mu => SqL.of (x a _ na q)⟩
theorem di_zip (ha : DA X G [a, b] b1 false ga) (hm : X.mg "zip" = none) (hg : Gl X "zip" := by rfl) (hs : starEach [a, b] X.env = [(false, eval a X.env), (false, eval b X.env)] := by rfl) (hs2 : starEach [b] X.env = [(false, eval b X.env)] := by rfl) :
    DI X G (.Tuple elts kt tp) (.Call (.Name "zip" p1) [a, b] [] pos) b1 false (gZip ga) := ⟨(pi_zip hg hm ha.un hs hs2).to fun σ H RR ⟨Z, A, ρ, q, f⟩ => by
  unfold gZip at f
  cases e1 : ga ρ with
  | stk => rw [e1] at f; exact f.elim
  | exc => rw [e1] at f; exact f.elim
  | ok y =>
    obtain ⟨us, ρ1⟩ := y
    rw [e1] at f
    dsimp only [L2.R.bind] at f
    refine ⟨Z, A, ρ, q, ?_⟩
    rw [e1]
    intro vs H1 q1 x1 s1 vm
    split at f
    · rename_i us' ρ' e2
      split at e2
      · rename_i u w'
        split at e2
        · rename_i as bs ea eb
          cases e2
          have r := vm.rps
          unfold Rps at r
          obtain ⟨v, vr, rfl, r1, r2⟩ := r
          unfold Rps at r2
          obtain ⟨v', vr', rfl, r3, r4⟩ := r2
          unfold Rps at r4
          subst r4
          obtain ⟨l1, a1, xs, rfl, n1, z1, k1, st1⟩ := seq_of ea r1
          obtain ⟨l2, a2, ys, rfl, n2, z2, k2, st2⟩ := seq_of eb r3
          refine ⟨l1, l2, a1, a2, xs, ys, rfl, k1, k2, f _ H1 q1 x1 s1 ⟨?_, fun H2 A' hx ha' => ?_⟩⟩
          · rw [List.length_zipWith]; exact Nat.le_trans (Nat.min_le_left _ _) n1
          · rw [if_neg Bool.false_ne_true] at hx
            have s1' := st1 H2 hx q1.mu
            have s2' := st2 H2 hx q1.mu
            have w1 := z1.re q1.mu hx ha'
            have w2 := z2.re q1.mu hx ha'
            refine ⟨fun i u hu => ?_, ⟨xs, ys, s1', s2', ?_⟩⟩
            · rw [List.getElem?_zipWith] at hu
              cases hA : as[i]? with
              | none => rw [hA] at hu; cases hu
              | some ua => cases hB : bs[i]? with
                | none => rw [hA, hB] at hu; cases hu
                | some ub =>
                  rw [hA, hB] at hu
                  cases hu
                  obtain ⟨x, hx1, px⟩ := w1.get hA
                  obtain ⟨y, hy1, py⟩ := w2.get hB
                  refine ⟨⟨xs, ys, x, y, s1', s2', hx1, hy1⟩, fun x' H' yl => ?_⟩
                  obtain ⟨T, x2, y2, rfl, hT, rfl, g1, g2⟩ := yl
                  have ex : x2 = x := by have := g1 xs s1'; rw [hx1] at this; cases this; rfl
                  have ey : y2 = y := by have := g2 ys s2'; rw [hy1] at this; cases this; rfl
                  subst ex ey
                  have sm := upd_S hT (.tup [x2, y2])
                  refine ⟨sm, ?_⟩
                  unfold Rp
                  exact ⟨T, _, rfl, upd_same, by have : sizeLine = 16777216 := rfl; rw [this]; simp, Rps.cons (px.same sm) (Rps.cons (py.same sm) Rps.nil)⟩
            · rw [List.length_zipWith, ← z1.length, ← z2.length]
              rcases Nat.le_total as.length bs.length with z | z
              · exact .inl (by rw [Nat.min_eq_left z]; exact Nat.le_refl _)
              · exact .inr (by rw [Nat.min_eq_right z]; exact Nat.le_refl _)
        · cases e2
      · cases e2
    · exact f.elim⟩
end
end L2
end
section
set_option autoImplicit false
set_option Elab.async false
set_option linter.all false
set_option maxRecDepth 100000
set_option maxHeartbeats 4000000
namespace L2
open PySem PySem.Spec PyProof.Rows
section
variable {X : Cx} {pins : List (Addr × Obj)} {σ : St} {H : Hp} {s : Shared} {A : Around} {E : Value → Shared → Prop} {Q : Value → Shared → Prop} {b : Bool}
/-- isinstance(x, t), t a tuple of types -/
theorem isinst_okT {x : V} {u : Value} {n : String} {tp : Addr} {its : List Value} {k : Nat} (I : Inv X pins σ H s) (rx : RelV x u) (ty : TyD X.K H x n) (htp : s.heap.get? tp = some { cls := .type "tuple", data := .seq its.toArray k })
    (e : PySem.W.kitAny X.K (.type n) its = some b) (h : ∀ tk, Q (.bool b) { s with toks := tk }) :
    wpAny (model X.prog X.w) A (call (.builtin "isinstance") [u, .ref tp]) Q E s := by
  cases ty with
  | non => cases (show u = Value.none from rx); exact PySem.W.kia_tup PySem.W.kitx_none I.kIn True.intro htp e (fun z => nomatch z) h
  | bl y => cases (show u = Value.bool y from rx); exact PySem.W.kia_tup PySem.W.kitx_bool I.kIn True.intro htp e (fun z => nomatch z) h
  | int i => obtain ⟨t, q⟩ := (show ∃ t, u = Value.int i t from rx); cases q; exact PySem.W.kia_tup PySem.W.kitx_int I.kIn True.intro htp e (fun z => nomatch z) h
  | str y => obtain ⟨t, q⟩ := (show ∃ t, u = Value.str y t from rx); cases q; exact PySem.W.kia_tup PySem.W.kitx_str I.kIn True.intro htp e (fun z => nomatch z) h
  | @lst a xs ea =>
    cases (show u = Value.ref a from rx)
    obtain ⟨_, _, n, _, h1⟩ := (show ObjOk X.prog X.w H s.heap a (.lst xs) from I.hok a _ ea)
    exact PySem.W.kia_tup PySem.W.kitx_list I.kIn ⟨_, h1, rfl⟩ htp e (fun z => nomatch z) h
  | @frz a ob xs ea =>
    cases (show u = Value.ref a from rx)
    obtain ⟨_, _, _, n, _, h1⟩ := (show ObjOk X.prog X.w H s.heap a (.frz ob (.lst xs)) from I.hok a _ ea)
    exact PySem.W.kia_tup PySem.W.kitx_list I.kIn ⟨_, h1, rfl⟩ htp e (fun z => nomatch z) h
  | @tup a xs ea =>
    cases (show u = Value.ref a from rx)
    obtain ⟨_, _, _, p, _⟩ := (show ObjOk X.prog X.w H s.heap a (.tup xs) from I.hok a _ ea)
    obtain ⟨o, h1, h2, _⟩ := p
    exact PySem.W.kia_tup PySem.W.kitx_tuple I.kIn ⟨o, h1, h2⟩ htp e (fun z => nomatch z) h
  | @dK a kvs ea =>
    cases (show u = Value.ref a from rx)
    obtain ⟨_, _, vs, _, p⟩ := (show ObjOk X.prog X.w H s.heap a (.dK kvs) from I.hok a _ ea)
    obtain ⟨o, es, ep, h1, h2, _⟩ := p
    exact PySem.W.kia_tup PySem.W.kitx_dict I.kIn ⟨o, h1, h2.1⟩ htp e (fun z => nomatch z) h
  | @dT a kvs ea =>
    cases (show u = Value.ref a from rx)
    obtain ⟨_, _, xs, _, o, es, ep, h1, h2, _⟩ := (show ObjOk X.prog X.w H s.heap a (.dT kvs) from I.hok a _ ea)
    exact PySem.W.kia_tup PySem.W.kitx_dict I.kIn ⟨o, h1, h2.1⟩ htp e (fun z => nomatch z) h
theorem call_isinst2 {m1 m2 : String} (h1 : m1 ∈ ["bool", "int", "str", "list", "tuple", "dict"]) (h2 : m2 ∈ ["bool", "int", "str", "list", "tuple", "dict"]) :
    CallR X (.builtin "isinstance") (fun xs H Q => ∃ x n p, xs = [x, .ref p] ∧ H p = some (.tup [.ty m1, .ty m2]) ∧ TyD X.K H x n ∧ Q (.bl (isT n m1 || isT n m2)) H) := by
  intro pins s σ H xs us Q I r h
  obtain ⟨x, n, p, rfl, hp, ty, q⟩ := h
  obtain ⟨u, w', rfl, rx, rt⟩ := vals2 r
  cases rt
  obtain ⟨_, its, vs, _, k, hg⟩ := (show ObjOk X.prog X.w H s.heap p (.tup [.ty m1, .ty m2]) from I.hok p _ hp)
  obtain ⟨a, b, rfl, ra, rb⟩ := vals2 vs
  cases ra; cases rb
  refine isinst_okT I rx ty hg (b := isT n m1 || isT n m2) ?_ fun tk => ⟨.bl _, H, I.tok tk, rfl, q⟩
  unfold PySem.W.kitAny PySem.W.kitAny PySem.W.kitAny
  rw [kit_T X.K ty.mem h1, kit_T X.K ty.mem h2]
  cases isT n m1 <;> cases isT n m2 <;> rfl
end
section
variable {X : Cx} {G : Gm} {e : Expr} {pos p1 p2 p3 p4 : Pos} {b1 : Bool} {m1 m : Md} {g1 : Ev → R (U × Ev)} {v : Option Expr} {w : Option Expr}
def gInst2 (T1 T2 : String) (g : Ev → R (U × Ev)) : Ev → R (U × Ev) := fun ρ => (g ρ).bind fun x => if tyU x.1 = "script" then .stk else .ok (.bl (isT (tyU x.1) T1 || isT (tyU x.1) T2), x.2)
theorem TyD.re {K : PySem.W.Frag} {H H' : Hp} {x : V} {n : String} (h : TyD K H x n) (k : ∀ a o, H a = some o → H' a = some o) : TyD K H' x n := by
  cases h with
  | non => exact .non
  | bl => exact .bl _
  | int => exact .int _
  | str => exact .str _
  | lst e => exact .lst (k _ _ e)
  | frz e => exact .frz (k _ _ e)
  | tup e => exact .tup (k _ _ e)
  | dK e => exact .dK (k _ _ e)
  | dT e => exact .dT (k _ _ e)
theorem de_inst2 {T1 T2 : String} {x1 x2 : Str} {c : Nat} (hT1 : T1 ∈ ["bool", "int", "str", "list", "tuple", "dict"]) (hT2 : T2 ∈ ["bool", "int", "str", "list", "tuple", "dict"]) (he : DE X G e b1 m1 g1) (zi : X.mg "isinstance" = none) (zt1 : X.mg x1 = none) (bt1 : bootBuiltins x1 = some (.type T1)) (zt2 : X.mg x2 = none) (bt2 : bootBuiltins x2 = some (.type T2)) (hg : Gl X "isinstance" := by rfl) (ht1 : Gl X x1 := by rfl) (ht2 : Gl X x2 := by rfl)
    (hn1 : x1 ≠ "__name__" := by decide) (hd1 : (x1 == ("__debug__" : Str)) = false := by decide) (hn2 : x2 ≠ "__name__" := by decide) (hd2 : (x2 == ("__debug__" : Str)) = false := by decide)
    (hs : starEach [e, .Tuple [.Name x1 p2, .Name x2 p3] c p4] X.env = (false, eval e X.env) :: starEach [.Tuple [.Name x1 p2, .Name x2 p3] c p4] X.env := by rfl)
    (hs2 : starEach [.Tuple [.Name x1 p2, .Name x2 p3] c p4] X.env = (false, eval (.Tuple [.Name x1 p2, .Name x2 p3] c p4) X.env) :: starEach [] X.env := by rfl)
    (hs3 : starEach [.Name x1 p2, .Name x2 p3] X.env = (false, eval (.Name x1 p2) X.env) :: starEach [.Name x2 p3] X.env := by rfl)
    (hs4 : starEach [.Name x2 p3] X.env = (false, eval (.Name x2 p3) X.env) :: starEach [] X.env := by rfl)
    (hpl : (backTo pos (starEach [.Tuple [.Name x1 p2, .Name x2 p3] c p4] X.env)).any (·.1) = false := by rfl) :
    DE X G (.Call (.Name "isinstance" p1) [e, .Tuple [.Name x1 p2, .Name x2 p3] c p4] [] pos) b1 .S (gInst2 T1 T2 g1) :=
  ⟨(pe_callB (call_isinst2 (m1 := T1) (m2 := T2) hT1 hT2) hg zi bt_isinstance (pa_cons he.un (pa_cons (pe_tup (pa_cons (pe_bltn (v := .ty T1) ht1 zt1 bt1 rfl hn1 hd1) (pa_cons (pe_bltn (v := .ty T2) ht2 zt2 bt2 rfl hn2 hd2) pa_nil hs4) hs3)) pa_nil hs2) hs) (by decide) (by decide) hs hpl).to fun σ H Q h => by
  obtain ⟨Z, A, ρ, q, f⟩ := h
  obtain ⟨⟨u, ρ1⟩, e1, f⟩ := f.bind
  refine ⟨Z, A, ρ, q, ?_⟩
  rw [e1]
  intro v H1 q1 x1 s1 vm
  dsimp only at f
  split at f
  · exact f.elim
  · rename_i hn
    exact ⟨by show 2 ≤ sizeLine; decide, fun p hp => ⟨v, tyU u, p, rfl, upd_same, (ty_pk vm.pk hn).re fun a o z => by rw [upd_ne (ne_of_none z hp)]; exact z, f _ _ (q1.same (upd_S hp _)) (x1.trans (Ext.same (upd_S hp _))) (two1 s1 (upd_S hp _)) (VMe.ofS rp_bl)⟩⟩⟩
/-- raise: the calculus promises nothing there -/
theorem ds_exc {g : Ev → SR} (h : ∀ ρ, ∃ c u, g ρ = .exc c u) : DS X G m (.Raise v w pos) g := ⟨fun pins s σ H D I ⟨Z, A, ρ, q, f⟩ => by
  obtain ⟨c, u, e⟩ := h ρ
  rw [e] at f
  exact f.elim⟩
end
end L2
end
section
set_option autoImplicit false
set_option Elab.async false
set_option linter.all false
set_option maxRecDepth 100000
set_option maxHeartbeats 400000
namespace L2
open PySem PySem.Spec PyProof.Rows PySem.W
/-- a class of exceptions of the text's own, without a dict of its own hooks -/
structure ExcC (K : Frag) (C : Addr) : Prop where
  cls : (clsIn K C).isSome = true
  ga : findIn K (.ref C) "__getattribute__" = some (some (.builtin "BaseException.__getattribute__"))
  gn : findIn K (.ref C) "__getattr__" = some none
  cl : findIn K (.ref C) "__class__" = some (some (.builtin "object.__class__"))
  gt : specialIn K (.builtin "object.__class__") "__get__" = some (some (.builtin "getset_descriptor.__get__"))
  tk : takesIn K (.builtin "object.__class__") = some true
  ob : mroIn K C (.type "object") = some true
  be : mroIn K C (.type "BaseException") = some true
def ExcAt (x C : Addr) (h : Heap) : Prop := ∃ ox, h.get? x = some ox ∧ ox.cls = .ref C
theorem ExcAt.ty {x C : Addr} {h : Heap} (I : ExcAt x C h) (M : Model) : Looks M h (typeOf (.ref x)) (.ref C) := by
  obtain ⟨ox, at1, e⟩ := I
  exact e ▸ (Looks.ld at1).andThen .now
section
variable {prog : Program} {w : World} {A : Around} {E : Value → Shared → Prop} {s : Shared} {K : Frag} {x C : Addr}
theorem exc_find {M : Model} {h : Heap} (Z : ExcC K C) (X : K.In h) : Looks M h (Builtin.ObjectAttr.find (.ref x) (.ref C) "__class__") (.bind (.builtin "getset_descriptor.__get__") (.builtin "object.__class__")) := by
  have m1 := looks_findIn (M := M) X Z.cl
  have m2 : Looks M h (Builtin.ObjectAttr.getOf (some (.builtin "object.__class__"))) (some (.builtin "getset_descriptor.__get__")) := looks_specialIn X Z.gt
  have m3 : Looks M h (Builtin.ObjectAttr.dataDescriptor? (some (.builtin "object.__class__")) (some (.builtin "getset_descriptor.__get__"))) (some (.builtin "getset_descriptor.__get__", .builtin "object.__class__")) := (looks_takesIn (M := M) X Z.tk).andThen .now
  exact m1.andThen (m2.andThen (m3.andThen (Looks.tag .now)))
open Builtin Builtin.ObjectAttr Builtin.Getset_descriptor in
theorem exc_get {tp : Value} {R : Result → Shared → Prop} (Z : ExcC K C) (X : K.In s.heap) (I : ExcAt x C s.heap) (h : R (.ok (.ret (.ref C))) s) : codeAny (model prog w) A (.call (.builtin "getset_descriptor.__get__") ⟨[.builtin "object.__class__", .ref x, tp], []⟩) R s := by
  have m0 := I.ty (model prog w)
  have m1 := looks_mroIn (M := model prog w) X Z.ob
  obtain ⟨hp, gs, dn, tt, oo⟩ := s
  have tIs : (⟨hp, gs, dn, tt, oo⟩ : Shared).TypeIs (.builtin "object.__class__") "getset_descriptor" := KF.type_class
  refine codeAny_call_builtin KF.slot_gs.plain KF.entry_gs ?_
  refine KF.slot_gs.check _ _ _ _ _ _ _ _ tIs (KF.args_gs _ _ _) ?_
  unfold Builtin.«getset_descriptor.__get__» descrGet
  rw [dga_obj]
  refine wpAny_bind ?_
  refine wpAny_pure ?_
  unfold descrGetter descrCheckInstance
  unfold descrNameAndClass isInstance
  simp only [KF.owner_class]
  repeat lk
  refine ⟨Code.quiet_builtin _ (by decide +kernel), ?_⟩
  refine codeAny_builtin KF.entry_class ?_
  unfold Builtin.«object.__class__»
  unfold shownTypeOf
  repeat lk
  exact h
theorem exc_entry {tk : Tok} {Q : Fin → Shared → Prop} (Z : ExcC K C) (X : K.In s.heap) (I : ExcAt x C s.heap) (h : Q (.done (.ret (.ref C))) s) :
    wpAny (model prog w) A (Builtin.«object.__getattribute__» ⟨[.ref x, .str "__class__" tk], []⟩) Q E s := by
  have CG := exc_get (prog := prog) (w := w) (A := A) (tp := .ref C) (R := fun r s' => r = .ok (.ret (.ref C)) ∧ s' = s) Z X I ⟨rfl, rfl⟩
  have L0 := I.ty (model prog w)
  obtain ⟨hh, g, d, t, os⟩ := s
  have L1 := exc_find (M := model prog w) (x := x) Z X
  unfold Builtin.«object.__getattribute__»
  refine wpAny_bind (m := slotArgs "__getattribute__" 1 ⟨[.ref x, .str "__class__" tk], []⟩) (wpAny_of_eq (a := (.ref x, [.str "__class__" tk])) rfl ?_)
  refine wpAny_bind (wpAny_of_eq (a := ("__class__" : Str)) rfl ?_)
  refine wpAny_bind (L0.at (wpAny_bind (L1.at ?_)))
  show wpAny _ _ (do ret (← holding [Value.builtin "object.__class__"] (call (.builtin "getset_descriptor.__get__") [.builtin "object.__class__", .ref x, .ref C]))) _ _ _
  refine wpAny_bind (wpAny_holding (wpAny_call (codeAny_mono CG fun r s' hr => ?_)))
  obtain ⟨rfl, rfl⟩ := hr
  exact wpAny_pure h
theorem exc_check {M : Model} {nameV : Value} {Q : Unit → Shared → Prop} (Z : ExcC K C) (X : K.In s.heap) (I : ExcAt x C s.heap) (hq : Q () s) : wpAny M A (checkBuiltinCall "BaseException.__getattribute__" ⟨[.ref x, nameV], []⟩) Q E s := by
  have hk : builtinKind "BaseException.__getattribute__" = some .slot := by decide +kernel
  have hsplit : splitId "BaseException.__getattribute__" = some ("BaseException", "__getattribute__") := by decide +kernel
  have ha := F.args_bexc_ga (.ref x) nameV
  have LI : Looks M s.heap (isInstance (.ref x) (.type "BaseException")) true := (I.ty M).andThen (looks_mroIn (M := M) X Z.be)
  obtain ⟨hh, g, d, t, os⟩ := s
  simp only [checkBuiltinCall, hk, hsplit]
  refine wpAny_bind (LI.at ?_)
  repeat (first | assumption | wp_step)
theorem exc_class {Q : Option Value → Shared → Prop} (Z : ExcC K C) (X : K.In s.heap) (I : ExcAt x C s.heap) (h : Q (some (.ref C)) { s with toks := s.toks + 1 }) : wpAny (model prog w) A (getAttr? (.ref x) "__class__") Q E s := by
  obtain ⟨hh, g, d, t, os⟩ := s
  have L0 := I.ty (model prog w)
  have L1 := looks_findIn (M := model prog w) X Z.ga
  have L2 := looks_findIn (M := model prog w) X Z.gn
  unfold getAttr? getAttrBy? getAttrBy
  refine wpAny_bind (wpAny_mkText (wpAny_bind (wpAny_attempt (wpAny_holding (wpAny_bind (L0.at (wpAny_bind (L1.at ?_))))))))
  have hx1 : (onTheHeap (Value.ref C) && Value.builtin "BaseException.__getattribute__" == Value.builtin "object.__getattribute__") = false := by
    have hx2 : (Value.builtin "BaseException.__getattribute__" == Value.builtin "object.__getattribute__") = false := by decide +kernel
    rw [hx2]; rfl
  dsimp only
  rw [if_neg (by rw [hx1]; exact Bool.false_ne_true)]
  unfold getAttrByItsOwn hookBefore
  refine wpAny_bind (L2.at ?_)
  refine wpAny_bind (wpAny_attempt (wpAny_holding ?_))
  show wpAny _ _ (boundAndCalled (.builtin "BaseException.__getattribute__") (.ref x) (.str "__class__" t)) _ _ _
  unfold boundAndCalled
  have FX := F.attr_ValueError
  refine wpAny_bind (wpAny_of_eq (FX.ga.bind (.ref x)) ?_)
  refine wpAny_call (codeAny_call_builtin FX.ga.plain F.entry_bexc_ga (exc_check Z X I (exc_entry (s := ⟨hh, g, d, t + 1, os⟩) Z X I ?_)))
  exact handed_on rfl (wpAny_pure h)
theorem kitx_exc (Z : ExcC K C) : KitX K (.ref x) (.ref C) (ExcAt x C) where
  ty := fun M h X I => I.ty M
  it := fun M h X _ => by
    obtain ⟨cdD, hcD⟩ := Option.isSome_iff_exists.mp Z.cls
    unfold clsIn at hcD
    split at hcD
    · rename_i c' d' cd' sl' ho
      intro A' Q' E' s' k q
      unfold isType loadHead
      exact wpAny_bind (wpAny_loadPart (k _ _ (X _ _ ho)) (wpAny_pure q))
    · cases hcD
  ne := fun h tp dd its n sl X htp => by
    obtain ⟨cdD, hcD⟩ := Option.isSome_iff_exists.mp Z.cls
    refine Bool.eq_false_iff.mpr fun q => ?_
    have e : C = tp := Value.ref.inj (beq_iff_eq.mp q)
    subst e
    unfold clsIn at hcD
    split at hcD
    · rename_i c' d' cd' sl' ho
      have z := (X _ _ ho).symm.trans htp
      cases z
    · cases hcD
  ca := fun X I k => exc_class Z X I k
end
end L2
end
section
set_option autoImplicit false
set_option Elab.async false
set_option linter.all false
set_option maxRecDepth 100000
set_option maxHeartbeats 400000
namespace L2
open PySem PySem.Spec PyProof.Rows PySem.W
/-- what a raise left behind, seen from the state s of the call (H) : the heap r of the raise, its tracked things H1, the frame L of the raiser; B: all of r but the frames -/
structure Fly (P : Program) (w : World) (outer : List Env) (H : Hp) (s : Shared) (B : Heap) (H1 : Hp) (r : Heap) (L : Addr) : Prop where
  un : Un (frs outer) [] H H1 s.heap r
  hok : HOk P w H1 r
  kB : ∀ b o, r.get? b = some o → b ∉ frs outer → b ≠ L → B.get? b = some o
  nL : s.heap.get? L = none
  hL : H1 L = none
  fr : ∀ b ∈ frs outer, H b = none ∧ ∃ o, s.heap.get? b = some o ∧ ∀ vs, o.data ≠ .fields vs
/-- an exception of the class at C comes out -/
def CXF (P : Program) (w : World) (C : Addr) : CXT := fun outer H s E e s' => ∃ (ea t L : Addr) (B r : Heap) (H1 : Hp), e = .ref ea ∧ s'.os = s.os ∧ AllBare s'.gens ∧ Fly P w outer H s B H1 r L ∧ Heap.FlyingW B outer ea (.ref C) (.ref t) s'.heap ∧ r.UpToSlots s'.heap ∧ r.get? ea = none ∧ E (.ref C) none H1
theorem HOk.keptT {P : Program} {w : World} {H : Hp} {h h' : Heap} (x : HOk P w H h) (k : ∀ b u o, H b = some o → h.get? b = some u → h'.get? b = some u) : HOk P w H h' := fun a o e =>
  (x a o e).stay (fun b u hb q => by
    rcases hb with rfl | hb
    · exact k _ _ _ e q
    · exact k _ _ _ hb q) (fun _ q => q) fun _ _ q => q
section
variable {P : Program} {w : World} {outer : List Env} {H H1 : Hp} {s : Shared} {B r h : Heap} {L : Addr}
theorem Fly.there (F : Fly P w outer H s B H1 r L) (k : B.StaysIn h) (u : r.UpToSlots h) : Un (frs outer) [] H H1 s.heap h ∧ HOk P w H1 h := by
  have neL : ∀ b o, s.heap.get? b = some o → b ≠ L := fun b o e z => by rw [z, F.nL] at e; cases e
  have slt : ∀ b o, s.heap.get? b = some o → b ∈ frs outer → ∃ sl, h.get? b = some { o with slots := sl } := fun b o e hb => by
    obtain ⟨hn, o', e', nf⟩ := F.fr b hb
    rw [e] at e'; cases e'
    obtain ⟨sl, q⟩ := F.un.slot b o e hn hb (by simp)
    obtain ⟨sl', q'⟩ := u b _ q (fun vs z => nf vs z)
    exact ⟨sl', q'⟩
  refine ⟨⟨fun b o e n hb hx => k b o (F.kB b o (F.un.keep b o e n hb hx) hb (neL b o e)), fun b o e n hb hx => slt b o e hb, F.un.free, fun b o e hx => ?_, F.un.tups, F.un.frzs, F.un.tbls⟩, F.hok.keptT fun b v o e q => ?_⟩
  · by_cases hb : b ∈ frs outer
    · obtain ⟨sl, q⟩ := slt b o e hb
      exact ⟨_, q⟩
    · obtain ⟨o', q⟩ := F.un.there b o e hx
      exact ⟨o', k b o' (F.kB b o' q hb (neL b o e))⟩
  · refine k b v (F.kB b v q (fun hb => ?_) fun z => by rw [z, F.hL] at e; cases e)
    obtain ⟨hn, o', e', _⟩ := F.fr b hb
    rw [F.un.free b o' e' hn (by simp)] at e; cases e
end
section
variable {X : Cx} {pins : List (Addr × Obj)} {σ : St} {H H1 : Hp} {s : Shared} {B r h : Heap} {L : Addr}
/-- behind the exception, in the frame that catches it -/
theorem Inv.fly {g' : Array GenState} {t' : Nat} {d' : Drawn} (I : Inv X pins σ H s) (F : Fly X.prog X.w X.stack H s B H1 r L) (k : B.StaysIn h) (u : r.UpToSlots h) (hg : AllBare g') : Inv X pins σ H1 { s with heap := h, gens := g', drawn := d', toks := t' } := by
  obtain ⟨a, b⟩ := F.there k u
  exact I.call (h' := h) (g' := g') (d' := d') (t' := t') (ch := []) a b hg fun _ z => absurd z (by simp)
end
/-! ### a text with one number in it -/
section
variable {X : Cx} {a b : Str} {e : Expr} {te : TE} {pos p1 p2 p3 : Pos} {j1 j2 : Nat}
def tFs (te : TE) : TE := fun σ H Q => te σ H fun x H1 => ∃ i : Int, x = .int i ∧ i.natAbs.log2 < 1920 ∧ (Str.ofString (toString i)).length ≤ 1000 ∧ ∀ y : Str, Q (.str y) H1
theorem pe_fs (he : PE X e te) (ha : (Str.empty ++ a).length ≤ 1000 := by decide +kernel) (hb : b.length ≤ 1000 := by decide +kernel) (hs : (evalEach [Expr.Constant (.str b) j2 p3] X.env) = [eval (.Constant (.str b) j2 p3) X.env] := by rfl) : PE X (.JoinedStr [.Constant (.str a) j1 p1, .FormattedValue e (-1) none p2, .Constant (.str b) j2 p3] pos) (tFs te) := by
  intro pins s σ H Q I h
  have big : (3000 : Nat) ≤ sizeLine := by decide
  refine JoinedStr_many ?_
  rw [hs]
  refine joinParts_cons (Calls.Constant_str ?_)
  refine ⟨Nat.le_trans ha (Nat.le_trans (by decide) big), joinParts_cons (FormattedValue_plain ?_)⟩
  refine thn (he pins _ σ H _ (I.tok _) h) fun v s1 ⟨x, H1, I1, rx, i, ex, sm, li, q⟩ => ?_
  subst ex
  obtain ⟨tk, rfl⟩ := rx
  refine formatField_int_small sm ?_
  refine ⟨?_, joinParts_cons (Calls.Constant_str ?_)⟩
  · rw [strLen_append]
    exact Nat.le_trans (Nat.add_le_add ha li) (Nat.le_trans (by decide) big)
  · refine ⟨?_, joinParts_nil ?_ ?_⟩
    · rw [strLen_append, strLen_append]
      exact Nat.le_trans (Nat.add_le_add (Nat.add_le_add ha li) hb) (Nat.le_trans (by decide) big)
    · exact ⟨.str _, H1, I1.tok _, ⟨_, rfl⟩, q _⟩
    · rw [strLen_append, strLen_append]
      exact Nat.le_trans (Nat.add_le_add (Nat.add_le_add ha li) hb) (Nat.le_trans (by decide) big)
end
end L2
end
section
set_option autoImplicit false
set_option Elab.async false
set_option linter.all false
set_option maxRecDepth 100000
set_option maxHeartbeats 400000
namespace L2
open PySem PySem.Spec PyProof.Rows PySem.W
abbrev veMro : List Value := [.type "ValueError", .type "Exception", .type "BaseException", .type "object"]
theorem exc_obj {K : Frag} {h : Heap} {C : Addr} {bmB : List Value} {newId : String} (X : K.In h) (q : excIn K C bmB newId = true) :
    ∃ bm N nm qn bs hdct sn sub ab col dd k0 k1 k2 k3 k5 mN, h.get? C = some (excClassObj nm qn C N bs bm hdct sn sub ab col dd k0 k1 k2 k3 k5 newId) ∧ h.Ns N mN ∧ mN "__init__" = none ∧ OwnTail h bmB bm := by
  unfold excIn at q
  split at q
  · rename_i d1 cd sl ho
    split at q
    · rename_i C' bm k0 k1 k2 k3 n k5 hm hs
      simp only [Bool.and_eq_true, beq_iff_eq, Bool.not_eq_true'] at q
      obtain ⟨⟨⟨⟨⟨e1, e2⟩, hdel⟩, ht⟩, hok⟩, hni⟩ := q
      subst e1; subst e2
      obtain ⟨nm, bs, mro, ns, qn, hd, sn, sub, ab, col, del⟩ := cd
      dsimp only at hm hdel hok hni
      subst hm; subst hdel
      have hsl : sl = #[k0, k1, k2, k3, some (.builtin n), k5] := by
        obtain ⟨l⟩ := sl
        simp only at hs
        rw [hs]
      subst hsl
      exact ⟨bm, ns, nm, qn, bs, hd, sn, sub, ab, col, d1, k0, k1, k2, k3, k5, _, X _ _ ho, .of_isNs (isNs_of_in X hok), nsMap_none_of_in X hok hni, tail_of_in X ht⟩
    · cases q
  · cases q
section
variable {P : Program} {w : World} {K : Frag} {mg : Str → Option Value} {base : Heap} {N : List Str} {qual : Str} {scope : Scope} {f : Addr} {cdv : Value} {A : Around} {outer : List Env} {s0 : Shared} {H0 : Hp} {E : XK} {C : Addr}
/-- an exception just made leaves the frame -/
theorem left_made {pins : List (Addr × Obj)} {σ : St} {H : Hp} {s : Shared} {h' : Heap} {e : Addr} {vs : List Value} (I : Inv (cxOf (CXF P w C) P w K mg base N qual scope f cdv A outer s0 H0 E) pins σ H s) (hm : Heap.MadeExcOf s.heap h' e (.ref C) vs) (hE : E (.ref C) none H)
    (nL : s0.heap.get? s0.heap.objs.size = none := by exact Heap.get?_none_of_le (Nat.le_refl _)) : (cxOf (CXF P w C) P w K mg base N qual scope f cdv A outer s0 H0 E).xe (.ref e) { s with heap := h' } := by
  let env := envOfC qual scope s0.heap.objs.size f cdv
  have hst : s.heap.FunFrames base (env :: outer) := I.stack
  have hin : ∀ en ∈ (env :: outer), ∀ a, en.frame = some a → a ∈ frs (env :: outer) := fun en he a ha => List.mem_filterMap.mpr ⟨en, he, ha⟩
  refine wpAny_leaves_madeW (base := hideAll s.heap (frs (env :: outer))) (h := s.heap) (L := s0.heap.objs.size) (outer := outer) I.ok.frames rfl (fun b o q => of_hideAll _ q) (funFrames_hide hst hin) hm fun h2 t fl tp nt up => ?_
  refine ⟨e, t, s0.heap.objs.size, _, s.heap, H, rfl, I.os, I.bare, ⟨I.base, I.hok, fun b o q nb nl => hideAll_get _ q fun z => ?_, nL, I.free, fun b hb => ⟨I.ok.frf b hb, ?_⟩⟩, fl, (Heap.UpToSlots.of_keeps hm.keeps).trans up, hm.new, hE⟩
  · unfold frs at z
    rw [List.filterMap_cons] at z
    rcases List.mem_cons.mp z with z | z
    · exact nl z
    · exact nb z
  · exact (I.ok.funs.mem hb).2
variable {x : Str} {np cpos pos : Pos} {e0 : Expr} {t : TA}
def tRaise (C : Addr) (E : XK) (t : TA) : TS := fun _ σ H => t σ H fun xs H1 => xs.length ≤ sizeLine ∧ E (.ref C) none H1
theorem ps_raise (hx : mg x = some (.ref C)) (hq : excIn K C veMro "ValueError.__new__" = true) (hh : A.handled = none)
    (ha : PA (cxOf (CXF P w C) P w K mg base N qual scope f cdv A outer s0 H0 E) [e0] t) (hg : Gl (cxOf (CXF P w C) P w K mg base N qual scope f cdv A outer s0 H0 E) x := by rfl) (hd : (x == ("__debug__" : Str)) = false := by decide)
    (he : starEach [e0] (envOfC qual scope s0.heap.objs.size f cdv) = (false, eval e0 (envOfC qual scope s0.heap.objs.size f cdv)) :: starEach [] (envOfC qual scope s0.heap.objs.size f cdv) := by rfl) :
    PS (cxOf (CXF P w C) P w K mg base N qual scope f cdv A outer s0 H0 E) (.Raise (some (.Call (.Name x np) [e0] [] cpos)) none pos) (tRaise C E t) := by
  intro pins s σ H D I h
  obtain ⟨tl, NN, nm, q, bs, hdct, sn, sub, ab, col, dd, k0, k1, k2, k3, k5, mN, hC, hN, hni, T⟩ := exc_obj I.ok.mod.kin hq
  have FB := F.excBase_ValueError
  refine wpAny_Raise_call_subU (C := C) (nm := nm) (q := q) (N := NN) (bs := bs) (bm := tl) (hdct := hdct) (sn := sn) (sub := sub) (ab := ab) (col := col) (dd := dd) (k0 := k0) (k1 := k1) (k2 := k2) (k3 := k3) (k5 := k5) FB FB.hasB FB (mN := mN) (T.hasType FB.hasBase) hh ?_ hni (ld_glob I hg hx ⟨rfl, ?_⟩ hd)
  · show (backTo cpos (starEach [e0] (envOfC qual scope s0.heap.objs.size f cdv))).any (·.1) = false
    rw [he]; rfl
  · show wpAny _ _ (evalArgs (.ref C) true (backTo cpos (starEach [e0] (envOfC qual scope s0.heap.objs.size f cdv))) []) _ _ _
    have h1 := ha cpos pins s σ H _ I h
    have he2 : starEach [e0] (cxOf (CXF P w C) P w K mg base N qual scope f cdv A outer s0 H0 E).env = (false, eval e0 (envOfC qual scope s0.heap.objs.size f cdv)) :: starEach [] (envOfC qual scope s0.heap.objs.size f cdv) := he
    rw [he2] at h1
    rw [he]
    refine Calls.evalArgs_plain (thn h1 fun us s2 ⟨xs, H2, I2, r2, l2, hE⟩ => ?_)
    have kk : ∀ b o, base.get? b = some o → s2.heap.get? b = some o := fun b o z => (I2.bs b o z).1
    exact ⟨rfl, by rw [← r2.length]; exact l2, kk _ _ hC, hN.keeps kk, T.keeps kk, fun h' e hm => left_made I2 hm hE⟩
end
end L2
end
section
set_option autoImplicit false
set_option Elab.async false
set_option linter.all false
set_option maxRecDepth 100000
set_option maxHeartbeats 400000
namespace L2
open PySem PySem.Spec PyProof.Rows
/-! ### where an exception is being handled -/
structure RoomH (k : Nat) (A : Around) : Prop where
  dp : A.depth + 3 * k + 5 < recursionLimit
  un : A.units + 16 * k + 200 < cLine
theorem RoomH.deeper {k : Nat} {A : Around} (r : RoomH (k + 1) A) (env : Env) : RoomH k (A.deeper env) :=
  ⟨by have := r.dp; show A.depth + 1 + 3 * k + 5 < _; omega, by have := r.un; show A.units + 3 + 16 * k + 200 < _; omega⟩
theorem RoomH.depth {k : Nat} {A : Around} (r : RoomH k A) : A.depth < recursionLimit := by have := r.dp; omega
structure FnOkH (P : Program) (w : World) (K : PySem.W.Frag) (mg : Str → Option Value) (base : Heap) (CX : CXT) (k : Nat) (f : Addr) (fd : FuncData) (ps : List Str) (sp : Sp) : Prop where
  len : ∀ vs H Q E, sp vs H Q E → vs.length = ps.length
  run : ∀ (A : Around) (outer : List Env) (s : Shared) (H : Hp) (args : Args) (us : List Value) (vs : List V) (Q : VK) (E : XK), RoomH k A → Env0 P w K mg base A outer s H → BindsTo s fd args (ps.zip us) → Vals vs us → sp vs H Q E →
    codeAny (model P w) A (.call (.ref f) args) (CR CX outer P w H s Q E) s
/-- the context of a def's body, at its entry; an exception leaves the frame, then lies as CX says -/
def cxOfH (CX : CXT) (P : Program) (w : World) (K : PySem.W.Frag) (mg : Str → Option Value) (base : Heap) (N : List Str) (qual : Str) (scope : Scope) (f : Addr) (cd : Value) (A : Around) (outer : List Env) (s : Shared) (H : Hp) (E : XK) : Cx where
  prog := P
  w := w
  K := K
  mg := mg
  base := base
  A := A.deeper (envOfC qual scope s.heap.objs.size f cd)
  N := N
  s₀ := s
  H₀ := H
  env := envOfC qual scope s.heap.objs.size f cd
  outer := outer
  stack := envOfC qual scope s.heap.objs.size f cd :: outer
  ex := []
  calm := false
  fn := fun _ => true
  pn := []
  xe := fun e s' => wpAny (model P w) (A.deeper (envOfC qual scope s.heap.objs.size f cd)) (leaving (envOfC qual scope s.heap.objs.size f cd) e) (fun _ s'' => CX outer H s E e s'') (fun e' s'' => CX outer H s E e' s'') s'
theorem inv_startH {CX : CXT} {P : Program} {w : World} {K : PySem.W.Frag} {mg : Str → Option Value} {base : Heap} {N ps : List Str} {qual : Str} {scope : Scope} {f : Addr} {cd : Value} {A : Around} {outer : List Env} {s s1 : Shared} {H : Hp} {E : XK} {us : List Value} {vs : List V}
    (S : FnScope N ps scope) (e0 : Env0 P w K mg base A outer s H) (hl : vs.length = ps.length) (r : Vals vs us)
    (x : InCallC s s.heap.objs.size (bindL (envOfC qual scope s.heap.objs.size f cd).kindOf (ps.zip us) fun _ => none) (cellsFrom (s.heap.objs.size + 1) scope.names []) (bindC (envOfC qual scope s.heap.objs.size f cd).kindOf (ps.zip us) fun _ => none) s1) :
    Inv (cxOfH CX P w K mg base N qual scope f cd A outer s H E) [] (start N vs) H s1 := by
  have hpl : ps.length ≤ N.length := by have := congrArg List.length S.pre; rw [List.length_take] at this; omega
  obtain ⟨h1, tk, rfl, hk⟩ := x.done
  have noA : ∀ b : Addr, b ∉ (cxOfH CX P w K mg base N qual scope f cd A outer s H E).ex := fun b z => absurd (show b ∈ ([] : List Addr) from z) (by simp)
  refine ⟨⟨e0.mod, S.kind, rfl, rfl, Nat.le_refl _, fun y z c h1 h2 => ?_, fun y hy => ?_, fun y c _ h => ?_, fun z => absurd z Bool.false_ne_true, Around.frames_deeper e0.frames, .inr ⟨rfl, rfl⟩, fun b z => absurd z (noA b), e0.bs, e0.bsz, fun b _ _ => noA b, fun b z => absurd z (noA b), e0.funs, e0.frf⟩,
    rfl, e0.bare, Un.kept hk, ⟨_, x.toInCall.ns, fun i y v h1 h2 h3 => ?_⟩, fun y c h => ⟨_, x.cell y c h⟩, e0.hok.fresh (Nat.le_refl _), fun y c h => ?_, fun p hp => absurd (show p ∈ ([] : List (Addr × Obj)) from hp) (by simp), e0.hok.kept hk, ?_⟩
  · exact name_of_addr x.apart (PySem.mem_of_lookup h1) (PySem.mem_of_lookup h2)
  · have hy : scope.names.lookup y = some .cell ∨ scope.names.lookup y = some .free := hy
    rcases hy with hy | hy
    · exact cell_has hy
    · exact absurd rfl (S.nofree _ (PySem.mem_of_lookup hy))
  · exact Nat.le_of_lt (x.above y c (PySem.mem_of_lookup h))
  · have hi : i < vs.length := by
      unfold start at h2
      by_cases hi : i < vs.length
      · exact hi
      · rw [List.getElem?_append_right (by simpa using hi)] at h2
        rw [List.getElem?_replicate] at h2
        split at h2 <;> cases h2
    have ha : vs[i]? = some v := by
      unfold start at h2
      rw [List.getElem?_append_left (by simpa using hi), List.getElem?_map] at h2
      cases e : vs[i]? with
      | none => rw [e] at h2; cases h2
      | some a => rw [e] at h2; cases h2; rfl
    obtain ⟨u, hu, rv⟩ := r.get ha
    have hp : ps[i]? = some y := by
      rw [← S.pre, List.getElem?_take_of_lt (by omega)]; exact h1
    have ndP : ps.Nodup := by rw [← S.pre]; exact S.nd.sublist (List.take_sublist _ _)
    refine ⟨u, rv, ?_⟩
    rcases S.par y (List.mem_of_getElem? hp) with k | k
    · exact .inl ⟨k, bindL_get ndP hp hu k⟩
    · obtain ⟨c, e⟩ := cell_has (n := s.heap.objs.size + 1) k
      refine .inr ⟨.inl k, c, e, ?_⟩
      have q := x.cell y c e
      rw [bindC_get ndP hp hu (by show scope.names.lookup y ≠ _; rw [k]; decide)] at q
      exact q
  · exact e0.hok.fresh (Nat.le_of_lt (x.above y c (PySem.mem_of_lookup h)))
  · unfold start
    show _ = N.length
    rw [List.length_append, List.length_map, List.length_replicate]
    omega
/-- THE RULE: a def (or a method) of the text, by its body. The body's reading t is chosen for each entry; it is run at the parameters' values -/
theorem fn_ofH {CX : CXT} {P : Program} {w : World} {K : PySem.W.Frag} {mg : Str → Option Value} {base : Heap} {k : Nat} {f : Addr} {name qual : Str} {params : Arguments} {body : List Stmt} {scope : Scope} {dV kV doc pm cdv ct oc : Value} {an od : Option Addr}
    {osl : Array (Option Value)} {N ps : List Str} {sp : Sp} (lk : K.lookup f = some ⟨oc, od, .func (PySem.W.fnOf name qual params body scope dV kV doc pm an cdv ct), osl⟩) (hcd : PySem.W.codeIn K cdv qual = true) (S : FnScope N ps scope)
    (len : ∀ vs H Q E, sp vs H Q E → vs.length = ps.length)
    (hbody : ∀ (A : Around) (outer : List Env) (s : Shared) (H : Hp) (vs : List V) (Q : VK) (E : XK), RoomH k (A.deeper (envOfC qual scope s.heap.objs.size f cdv)) → sp vs H Q E →
      ∃ t, PSs (cxOfH CX P w K mg base N qual scope f cdv A outer s H E) body t ∧ t { nx := fun _ H' => Q .non H', rt := Q } (start N vs) H) :
    FnOkH P w K mg base CX (k + 1) f (PySem.W.fnOf name qual params body scope dV kV doc pm an cdv ct) ps sp := by
  refine ⟨len, fun A outer s H args us vs Q E hr e0 hb r hsp => ?_⟩
  have hl := len _ _ _ _ hsp
  have KX : K.In s.heap := e0.mod.kin.keeps fun b o e => (e0.bs b o e).1
  have lim : s.heap.NoLimit := e0.mod.nolimit.keeps fun b o e => (e0.bs b o e).1
  have hkind : ∀ y ∈ ps.zip us, scope.names.lookup y.1 = some .local ∨ (scope.names.lookup y.1 = some .cell ∧ ((cellsFrom (s.heap.objs.size + 1) scope.names []).lookup y.1).isSome = true) := fun ⟨n, v⟩ hy => by
    rcases S.par n (List.of_mem_zip hy).1 with q | q
    · exact .inl q
    · exact .inr ⟨q, PySem.W.cellsFrom_some _ _ _ (.inl q)⟩
  refine codeAny_call_function hr.depth (KX _ _ lk) rfl S.co S.gen rfl (PySem.W.codeRec_of KX hcd) (hb _ _ _ _ ?_)
  refine wpAny_newFunctionEnv_cells S.kind hkind fun env he s1 x => ?_
  subst he
  refine ⟨lim.keeps x.toInCall.keep, codeAny_func ?_⟩
  obtain ⟨t, ht, hq⟩ := hbody A outer s H vs Q E (hr.deeper _) hsp
  have I : Inv (cxOfH CX P w K mg base N qual scope f cdv A outer s H E) [] (start N vs) H s1 := inv_startH S e0 hl r x
  refine wpAny_mono (ht [] s1 (start N vs) H _ I hq) (fun fl s' hs => ?_) fun e s' hs => hs
  have fin : ∀ {σ' : St} {H' : Hp} {v : V} {u : Value}, Inv (cxOfH CX P w K mg base N qual scope f cdv A outer s H E) [] σ' H' s' → RelV v u → Q v H' → CE outer P w H s Q u s' :=
    fun {σ' H' v u} J rv q => ⟨v, H', J.os, J.bare, J.base, J.hok, rv, q⟩
  cases fl with
  | ret u =>
    obtain ⟨v, σ', H', J, rv, q⟩ := hs
    exact fin J rv q
  | next =>
    obtain ⟨σ', H', J, q⟩ := hs
    exact fin (v := V.non) (u := Value.none) J rfl q
  | brk =>
    obtain ⟨_, _, _, q⟩ := hs
    exact False.elim q
  | cont =>
    obtain ⟨_, _, _, q⟩ := hs
    exact False.elim q
/-! ### xs.count(y), xs.index(y) of plain things -/
section
variable {X : Cx}
def rCountL : V → List V → Hp → VK → Prop := fun x vs H Q => ∃ a xs y, x = .ref a ∧ vs = [y] ∧ H a = some (.lst xs) ∧ flatV y = true ∧ xs.all flatV = true ∧ Q (.int (xs.countP fun z => eqV z y : Nat)) H
def rIndexL : V → List V → Hp → VK → Prop := fun x vs H Q => ∃ a xs y j, x = .ref a ∧ vs = [y] ∧ H a = some (.lst xs) ∧ flatV y = true ∧ xs.all flatV = true ∧ j < 1000 ∧ xs[j]?.map (fun z => eqV z y) = some true ∧
  (∀ m, m < j → xs[m]?.map (fun z => eqV z y) = some false) ∧ Q (.int (j : Nat)) H
theorem countP_eq : ∀ {xs : List V} {its : List Value} {y : V}, Vals xs its → xs.all flatV = true → its.countP (eqU y) = xs.countP fun z => eqV z y
  | _, _, _, .nil, _ => rfl
  | x :: xs, u :: us, y, .cons r t, f => by
    rw [List.all_cons, Bool.and_eq_true] at f
    rw [List.countP_cons, List.countP_cons, countP_eq t f.2, eqU_of r f.1]
theorem mt_countL : MtR X "list.count" rCountL := by
  intro pins s σ H x vs v us Q I rx rv h
  obtain ⟨a, xs, y, rfl, rfl, hs, fy, fx, q⟩ := h
  cases rx
  obtain ⟨u, rfl, ru⟩ := rv.one
  obtain ⟨its, n, r, ho, hz⟩ := I.lst hs
  refine call_meets F.slot_list_count ⟨_, ho, rfl⟩ F.entry_list_count (F.args_list_count_2 _ _) (PySem.SeqAt.list_countAt a its.toArray n none #[] u (eqU y)) ⟨ho, fun w' hw => mem_eqAt ru fy r fx w' (by simpa using hw), ?_⟩
  have e : its.toArray.toList.countP (eqU y) = xs.countP fun z => eqV z y := by rw [List.toList_toArray]; exact countP_eq r fx
  rw [e]
  exact ⟨.int _, H, I.tok _, ⟨_, rfl⟩, q⟩
theorem mt_indexL : MtR X "list.index" rIndexL := by
  intro pins s σ H x vs v us Q I rx rv h
  obtain ⟨a, xs, y, j, rfl, rfl, hs, fy, fx, jl, hj, hno, q⟩ := h
  cases rx
  obtain ⟨u, rfl, ru⟩ := rv.one
  obtain ⟨its, n, r, ho, hz⟩ := I.lst hs
  have get : ∀ {m : Nat} {b : Bool}, xs[m]?.map (fun z => eqV z y) = some b → ∃ hm : m < its.toArray.size, eqU y its.toArray[m] = b := fun {m b} e => by
    cases hx : xs[m]? with
    | none => rw [hx] at e; cases e
    | some z =>
      rw [hx] at e
      obtain ⟨w', e1, e2⟩ := r.get hx
      obtain ⟨hm, e3⟩ := List.getElem?_eq_some_iff.mp e1
      refine ⟨by simpa using hm, ?_⟩
      have fz : flatV z = true := List.all_eq_true.mp fx z (List.mem_of_getElem? hx)
      have : its.toArray[m] = w' := by simpa using e3
      rw [this, eqU_of e2 fz]
      exact Option.some.inj e
  obtain ⟨hm, hit⟩ := get hj
  refine call_meets F.slot_list_index ⟨_, ho, rfl⟩ F.entry_list_index (F.args_list_index_2 _ _) (PySem.SeqAt.list_indexAt a its.toArray n none #[] u (eqU y) j hm (by omega) hit fun m hm' hlt => (get (hno m hlt)).2) ⟨ho, fun w' hw => mem_eqAt ru fy r fx w' (by simpa using hw), ?_⟩
  exact ⟨.int j, H, I.tok _, ⟨_, rfl⟩, q⟩
end
/-! ### isinstance(e, D), e an exception that is tracked -/
def excO (ea C : Addr) : HO := .ext (ExcAt ea C)
theorem excO_ok {P : Program} {w : World} {H : Hp} {h : Heap} {ea C : Addr} (x : ExcAt ea C h) : ObjOk P w H h ea (excO ea C) := by
  obtain ⟨ox, e, c⟩ := id x
  exact ⟨x, ⟨ox, e⟩, fun h1 h2 ⟨o, e1, c1⟩ k => ⟨o, k o e1, c1⟩⟩
section
variable {X : Cx} {ea C : Addr}
def rInstE (ea C : Addr) (D : V) (b : Bool) : List V → Hp → VK → Prop := fun xs H Q => xs = [.ref ea, D] ∧ H ea = some (excO ea C) ∧ Q (.bl b) H
theorem call_instE {D : V} {d : Value} {b : Bool} (h : ExcC X.K C) (rd : ∀ u, RelV D u → u = d) (e : PySem.W.kitOne X.K (.ref C) d = some b) : CallR X (.builtin "isinstance") (rInstE ea C D b) := by
  intro pins s σ H xs us Q I r q
  obtain ⟨rfl, hx, q⟩ := q
  obtain ⟨u, w', rfl, rx, rt⟩ := vals2 r
  cases rx
  rw [rd _ rt]
  obtain ⟨at1, _⟩ := (show ObjOk X.prog X.w H s.heap ea (excO ea C) from I.hok ea _ hx)
  exact PySem.W.kia_one (kitx_exc h) I.kIn at1 e (fun z => nomatch z) fun tk => ⟨.bl b, H, I.tok tk, rfl, q⟩
end
end L2
end
section
set_option autoImplicit false
set_option Elab.async false
set_option linter.all false
set_option maxRecDepth 100000
set_option maxHeartbeats 400000
namespace L2
open PySem PySem.Spec PyProof.Rows PySem.W
theorem objOk_ex {P : Program} {w : World} {H : Hp} {h : Heap} {a : Addr} {o : HO} (x : ObjOk P w H h a o) : ∃ ob, h.get? a = some ob := by
  cases o with
  | lst xs => obtain ⟨_, _, _, _, e⟩ := x; exact ⟨_, e⟩
  | tup xs => obtain ⟨_, _, _, _, _, e⟩ := x; exact ⟨_, e⟩
  | dK kvs => obtain ⟨_, _, _, _, o, _, _, e, _⟩ := x; exact ⟨_, e⟩
  | dT kvs => obtain ⟨_, _, _, _, o, _, _, e, _⟩ := x; exact ⟨_, e⟩
  | set S n => obtain ⟨o, _, _, _, e, _⟩ := x; exact ⟨_, e⟩
  | ins C dx fs => obtain ⟨_, _, _, e, _⟩ := x; exact ⟨_, e⟩
  | own y => exact x
  | xd fs => obtain ⟨_, ⟨_, _, _, e, _⟩, _⟩ := x; exact ⟨_, e⟩
  | rng lo hi => obtain ⟨_, _, _, e⟩ := x; exact ⟨_, e⟩
  | frz ob u => obtain ⟨e, _⟩ := x; exact ⟨_, e⟩
  | tbl ps => exact ⟨_, (show h.get? a = some _ from x)⟩
  | met f y => exact ⟨_, (show h.get? a = some _ from x)⟩
  | ext φ => obtain ⟨_, e, _⟩ := x; exact e
section
variable {X : Cx} {pins : List (Addr × Obj)} {σ : St} {H H1 : Hp} {s s1 : Shared} {ea C : Addr}
/-- a new thing that nobody tracks is tracked from here on; s: a state ahead of it, of the same frame -/
theorem Inv.track {o : HO} (I0 : Inv X pins σ H s) (n0 : s.heap.get? ea = none) (I : Inv X pins σ H1 s1) (n1 : H1 ea = none) (x : ObjOk X.prog X.w (upd H1 ea o) s1.heap ea o) : Inv X pins σ (upd H1 ea o) s1 := by
  have ne : ∀ b ob, s.heap.get? b = some ob → b ≠ ea := fun b ob e z => by rw [z, n0] at e; cases e
  have ne0 : ∀ b ob, X.s₀.heap.get? b = some ob → b ∉ X.ex → b ≠ ea := fun b ob e hx => by
    obtain ⟨o', e'⟩ := I0.base.there b ob e hx
    exact ne b o' e'
  have neh : ∀ {b u}, H1 b = some u → b ≠ ea := fun {b u} e z => by rw [z, n1] at e; cases e
  refine ⟨I.ok, I.os, I.bare, ⟨I.base.keep, I.base.slot, fun b ob e n hx => ?_, I.base.there, fun b xs e => ?_, fun b ob u e => ?_, fun b ps e => ?_⟩, I.loc, I.cell, ?_, fun y c e => ?_, fun p hp => ?_, fun b u e => ?_, I.len⟩
  · rw [upd_ne (ne0 b ob e hx)]; exact I.base.free b ob e n hx
  · have q := I.base.tups b xs e
    rw [upd_ne (neh q)]; exact q
  · have q := I.base.frzs b ob u e
    rw [upd_ne (neh q)]; exact q
  · obtain ⟨m, q⟩ := I.base.tbls b ps e
    exact ⟨m, by rw [upd_ne (neh q)]; exact q⟩
  · obtain ⟨m, ⟨oL, _, _, hL, _⟩, _⟩ := I0.loc
    rw [upd_ne (ne _ _ hL)]; exact I.free
  · obtain ⟨v, oc, hc, _⟩ := I0.cell y c e
    rw [upd_ne (ne _ _ hc)]; exact I.freeC y c e
  · obtain ⟨e, n, r⟩ := I.pin p hp
    have e0 := (I0.pin p hp).1
    exact ⟨e, by rw [upd_ne (ne _ _ e0)]; exact n, r⟩
  · by_cases hb : b = ea
    · subst hb
      rw [upd_same] at e; cases e
      exact x
    · rw [upd_ne hb] at e
      exact (I.hok b u e).stay (fun c v _ q => q) (fun c q => by rw [upd_ne (neh q)]; exact q) fun c xs q => by rw [upd_ne (neh q)]; exact q
/-- the name of an except clause goes behind its suite -/
theorem gone_ok {M : Model} {A : Around} {E : Value → Shared → Prop} {i : Nat} {x : Str} {pos : Pos} {Q : Unit → Shared → Prop} (I : Inv X pins σ H s) (hN : X.N.Nodup) (hi : X.N[i]? = some x) (hk : X.env.kindOf x = some .local)
    (h : ∀ s', Inv X pins (σ.set i none) H s' → Q () s') : wpAny M A (do bindName X.env x .none; unbindBehindTheSuite X.env x pos) Q E s := by
  obtain ⟨m, hn, hl⟩ := id I.loc
  have hcls : (X.env.scope.kind == .class || (X.env.scope.kind == .module && X.env.locals != X.env.globals)) = false := by rw [I.ok.kind]; rfl
  have hiσ : i < σ.length := by rw [I.len]; exact (List.getElem?_eq_some_iff.mp hi).1
  obtain ⟨oL, _, _, hoL, _⟩ := id hn
  refine wpAny_nameGoes_keeps hk hn hcls fun h' v hn' hs => h _ ?_
  have neL : ∀ b ob, X.s₀.heap.get? b = some ob → b ≠ X.env.locals := fun b ob e => Nat.ne_of_lt (Nat.lt_of_lt_of_le (Heap.lt_size e) I.ok.above)
  refine ⟨I.ok, I.os, I.bare, ⟨fun b ob e n hb hx => (hs.2 b (neL b ob e)).trans (I.base.keep b ob e n hb hx), fun b ob e n hb hx => ?_, I.base.free, fun b ob e hx => ?_, I.base.tups, I.base.frzs, I.base.tbls⟩, ⟨_, hn', fun j y w e1 e2 e3 => ?_⟩, fun y c e => ?_, I.free, I.freeC, fun p hp => ?_, ?_, by simpa using I.len⟩
  · obtain ⟨sl, q⟩ := I.base.slot b ob e n hb hx
    exact ⟨sl, (hs.2 b (neL b ob e)).trans q⟩
  · obtain ⟨o', q⟩ := I.base.there b ob e hx
    exact ⟨o', (hs.2 b (neL b ob e)).trans q⟩
  · have hj : j ≠ i := fun z => by
      subst z
      rw [List.getElem?_set_self hiσ] at e2; cases e2
    rw [List.getElem?_set_ne (Ne.symm hj)] at e2
    obtain ⟨u, r, q⟩ := hl j y w e1 e2 e3
    refine ⟨u, r, ?_⟩
    rcases q with ⟨k, e⟩ | ⟨k, c, e, z⟩
    · have ny : y ≠ x := fun e => hj (nodup_ix hN e1 (e ▸ hi))
      exact .inl ⟨k, by simp [ny, e]⟩
    · exact .inr ⟨k, c, e, z.sameBut hs (I.cne y c e)⟩
  · obtain ⟨v', z⟩ := I.cell y c e
    exact ⟨v', z.sameBut hs (I.cne y c e)⟩
  · obtain ⟨e, n, ne, nf, d⟩ := I.pin p hp
    exact ⟨(hs.2 p.1 ne).trans e, n, ne, nf, d⟩
  · exact I.hok.keptT fun b u ob e q => (hs.2 b fun z => by rw [z, I.free] at e; cases e).trans q
/-! ### the suite of an except clause -/
abbrev Cx.hand (X : Cx) (e : Value) : Cx := { X with A := X.A.mark (some e), calm := false, xe := fun _ _ => False }
theorem Inv.hand (I : Inv X pins σ H s) (e : Value) : Inv (X.hand e) pins σ H s :=
  ⟨⟨I.ok.mod, I.ok.kind, I.ok.glob, I.ok.blt, I.ok.above, I.ok.inj, I.ok.has, I.ok.cab, fun z => absurd z Bool.false_ne_true, I.ok.frames, I.ok.stk, I.ok.exf, I.ok.bs, I.ok.bsz, I.ok.noex, I.ok.exfs, I.ok.funs, I.ok.frf⟩, I.os, I.bare, I.base, I.loc, I.cell, I.free, I.freeC, I.pin, I.hok, I.len⟩
theorem Inv.unhand {e : Value} (I0 : X.Ok) (I : Inv (X.hand e) pins σ H s) : Inv X pins σ H s := ⟨I0, I.os, I.bare, I.base, I.loc, I.cell, I.free, I.freeC, I.pin, I.hok, I.len⟩
/-- a def of one argument is called where an exception is being handled -/
theorem pe_callH {k : Nat} {f : Addr} {fd : FuncData} {ps : List Str} {sp : Sp} {x : Str} {p pos : Pos} {a : Expr} {t : TA} {e : Value} (F : FnOkH X.prog X.w X.K X.mg X.base CX0 k f fd ps sp) (hr : RoomH k (X.A.mark (some e))) (hm : X.mg x = some (.ref f)) (hk : PySem.W.keepIn X.K (.ref f) = true) (hb : Binds X.K fd ps [])
    (ha : PA (X.hand e) [a] t) (hg : Gl (X.hand e) x := by rfl) (hdb : (x == ("__debug__" : Str)) = false := by decide) (he : starEach [a] X.env = (false, eval a X.env) :: starEach [] X.env := by rfl) (hpl : (backTo pos (starEach [] X.env)).any (·.1) = false := by rfl) :
    PE (X.hand e) (.Call (.Name x p) [a] [] pos) (tCall sp [] E0 t) := by
  intro pins s σ H Q I h
  refine wpAny_Call_Name_kw (ld_glob I hg hm ?_ hdb)
  refine PySem.W.callWith_K (h₀ := X.base) I.ok.mod.kin hk (thn (ha pos pins s σ H _ I h) fun us s1 ⟨vs, H1, I1, r, q⟩ => ⟨I1.kIn, ?_⟩) he hpl
  have q : sp (vs ++ []) H1 Q E0 := q
  rw [List.append_nil] at q
  have hl : us.length = ps.length := by rw [← r.length]; exact F.len _ _ _ _ q
  have hb1 : BindsTo s1 fd ⟨us, []⟩ (ps.zip us) := by
    have z := hb s1 us I1.kIn (by rw [List.append_nil]; exact hl)
    rw [List.append_nil] at z
    exact z
  refine wpAny_call (codeAny_mono (F.run (X.A.mark (some e)) X.stack s1 H1 ⟨us, []⟩ us vs Q E0 hr I1.env0 hb1 r q) fun r s' hq => ?_)
  cases r with
  | error e => exact False.elim hq
  | ok fl =>
    cases fl with
    | ret u => exact I1.after hq
    | next => exact False.elim hq
    | brk => exact False.elim hq
    | cont => exact False.elim hq
end
/-! ### try: return g(a, b); except D as n: suite -- where g raises an exception of the class at C -/
def handE (D : Ends) (i : Nat) : Ends := { nx := fun σ H => D.nx (σ.set i none) H, rt := D.rt, bk := fun σ H => D.bk (σ.set i none) H, ct := fun σ H => D.ct (σ.set i none) H }
def XE (C : Addr) (i : Nat) (th : TS) (D : Ends) (σ : St) : XK := fun _ _ H2 => ∀ ea, H2 ea = none → th (handE D i) (σ.set i (some (.ref ea))) (upd H2 ea (excO ea C))
def tTryR (C : Addr) (i : Nat) (sp : Sp) (ta : TA) (th : TS) : TS := fun D σ H => ta σ H fun vs H1 => sp vs H1 (fun _ _ => False) (XE C i th D σ)
section
variable {X : Cx} {C cc f : Addr} {k i : Nat} {fd : FuncData} {ps : List Str} {sp : Sp} {g cn n : Str} {p cp rp np hpos pos : Pos} {a : Expr} {as : List Expr} {b0 : Stmt} {suite : List Stmt} {ta : TA} {th : TS}
theorem ps_tryR (F : FnOk X.prog X.w X.K X.mg X.base (CXF X.prog X.w C) k f fd ps sp) (hr : Room k X.A) (hm : X.mg g = some (.ref f)) (hkp : PySem.W.keepIn X.K (.ref f) = true) (hb : Binds X.K fd ps []) (hst : X.stack = X.env :: X.outer) (hfl : X.env.frame = some X.env.locals)
    (hc : X.mg cn = some (.ref cc)) (hex : exmOne X.K (.ref C) (.ref cc) = some true) (hN : X.N.Nodup) (ha : PA X.nox (a :: as) ta) (hs : ∀ ea, PSs (X.hand (.ref ea)) (b0 :: suite) th)
    (hi : X.N[i]? = some n := by rfl) (hkl : X.env.kindOf n = some .local := by rfl) (hg : Gl X g := by rfl) (hgc : Gl X cn := by rfl) (hdb : (g == ("__debug__" : Str)) = false := by decide) (hdc : (cn == ("__debug__" : Str)) = false := by decide)
    (he : starEach (a :: as) X.env = (false, eval a X.env) :: starEach as X.env := by rfl) (hpl : (backTo cp (starEach as X.env)).any (·.1) = false := by rfl) :
    PS X (.Try [.Return (some (.Call (.Name g p) (a :: as) [] cp)) rp] [.ExceptHandler (some (.Name cn np)) (some n) (b0 :: suite) hpos] [] [] pos) (tTryR C i sp ta th) := by
  intro pins s σ H D I h
  have hfr : X.A.frames = some (X.env :: X.outer) := by rw [← hst]; exact I.ok.frames
  refine wpAny_Try_except ?_
  refine wpAny_execs_cons (wpAny_Return_some ?_)
  refine wpAny_Call_Name_kw (ld_glob (X := X) I hg hm ?_ hdb)
  refine PySem.W.callWith_K (h₀ := X.base) I.ok.mod.kin hkp (wpAny_mono (ha cp pins s σ H _ (I.wish _) h) (fun us s1 ⟨vs, H1, J1, r, q⟩ => ⟨J1.unwish.kIn, ?_⟩) fun _ _ z => z.elim) he hpl
  have I1 := J1.unwish
  have hl : us.length = ps.length := by rw [← r.length]; exact F.len _ _ _ _ q
  have hb1 : BindsTo s1 fd ⟨us, []⟩ (ps.zip us) := by
    have z := hb s1 us I1.kIn (by rw [List.append_nil]; exact hl)
    rw [List.append_nil] at z
    exact z
  refine wpAny_call (codeAny_mono (F.run X.A X.stack s1 H1 ⟨us, []⟩ us vs _ _ hr I1.env0 hb1 r q) fun r s' hq => ?_)
  cases r with
  | ok fl =>
    cases fl with
    | ret u =>
      obtain ⟨v, H', _, _, _, _, _, z⟩ := hq
      exact False.elim z
    | next => exact False.elim hq
    | brk => exact False.elim hq
    | cont => exact False.elim hq
  | error e =>
    obtain ⟨ea, t, L, B, rh, H2, rfl, os, bare, Fl, fl, up, nr, hE⟩ := hq
    rw [hst] at fl
    have n0 : s1.heap.get? ea = none := by
      cases z : s1.heap.get? ea with
      | none => rfl
      | some ob =>
        obtain ⟨o', z'⟩ := Fl.un.there ea ob z (by simp)
        rw [nr] at z'; cases z'
    have n1 : H2 ea = none := by
      cases z : H2 ea with
      | none => rfl
      | some ob =>
        obtain ⟨o', z'⟩ := objOk_ex (Fl.hok ea ob z)
        rw [nr] at z'; cases z'
    obtain ⟨hh, gg, dd, tt, oo⟩ := s'
    have os : oo = s1.os := os
    subst os
    refine wpAny_looks_onW hfr hfl fl fun h4 held4 up4 => ?_
    refine wpAny_landsW held4 fun h5 fl5 up5 => ?_
    have I5 := I1.fly (h := h5) (g' := gg) (d' := dd) (t' := tt) Fl fl5.1 (up.trans (up4.trans up5)) bare
    refine wpAny_handleBy_cons (codeAny_handlers_test ?_) (by intro q; cases q)
    refine ld_glob (X := X.hand (.ref ea)) (I5.hand _) hgc hc ?_ hdc
    obtain ⟨ob, hob, hoc⟩ := fl5.there
    have LT : Looks (model X.prog X.w) h5 (typeOf (.ref ea)) (.ref C) := hoc ▸ (Looks.ld hob).andThen .now
    refine (exm_one (M := model X.prog X.w) I5.kIn LT hex).at ?_
    refine codeAny_handlers_suite_as ?_
    refine lands_againW fl5 fun h6 fl6 up6 => ?_
    have I6 := I1.fly (h := h6) (g' := gg) (d' := dd) (t' := tt) Fl fl6.1 ((up.trans (up4.trans up5)).trans up6) bare
    have I7 := Inv.track I1 n0 I6 n1 (excO_ok (C := C) fl6.there)
    refine store_ok (X := X.hand (.ref ea)) (I7.hand (.ref ea)) hN hi (.inl hkl) (show RelV (.ref ea) (.ref ea) from rfl) (fun s8 I8 => ?_) (.inr hkl)
    refine wpAny_mono (hs ea pins s8 _ _ _ I8 (hE ea n1)) (fun fl s9 hq => ?_) fun _ _ z => z.elim
    cases fl with
    | next =>
      obtain ⟨σ', H', J, z⟩ := hq
      exact gone_ok (Inv.unhand I.ok J) hN hi hkl fun s' K => ⟨_, _, K, z⟩
    | brk =>
      obtain ⟨σ', H', J, z⟩ := hq
      exact gone_ok (Inv.unhand I.ok J) hN hi hkl fun s' K => ⟨_, _, K, z⟩
    | cont =>
      obtain ⟨σ', H', J, z⟩ := hq
      exact gone_ok (Inv.unhand I.ok J) hN hi hkl fun s' K => ⟨_, _, K, z⟩
    | ret u =>
      obtain ⟨v, σ', H', J, rv, z⟩ := hq
      exact gone_ok (Inv.unhand I.ok J) hN hi hkl fun s' K => ⟨v, _, _, K, rv, z⟩
/-- .. where nothing is raised -/
theorem ps_tryN {body : List Stmt} {h0 : ExceptHandler} {hs : List ExceptHandler} {tb : TS} (hb : PSs X.nox body tb) : PS X (.Try body (h0 :: hs) [] [] pos) tb := by
  intro pins s σ H D I h
  refine wpAny_Try_except (wpAny_mono (hb pins s σ H D (I.wish _) h) (fun fl s1 q => ?_) fun _ _ z => z.elim)
  cases fl with
  | next => exact wpAny_execs_nil q.unwish
  | brk => exact q.unwish
  | cont => exact q.unwish
  | ret u => exact q.unwish
end
end L2
end
section
set_option autoImplicit false
set_option Elab.async false
set_option linter.all false
set_option maxRecDepth 100000
set_option maxHeartbeats 400000
namespace L2
open PySem PySem.Spec PyProof.Rows PySem.W
theorem cls_of {K : Frag} {C : Addr} {b : Value} {r : Bool} (h : mroIn K C b = some r) : (clsIn K C).isSome = true := by
  unfold mroIn at h
  cases e : clsIn K C with
  | none => rw [e] at h; cases h
  | some cd => rfl
/-- what the text's exceptions are: C the class that is raised, its name x -/
structure XTxt (K : Frag) (mg : Str → Option Value) (C : Addr) (x : Str) (ms : List (Str × Bool)) : Prop where
  cls : mg x = some (.ref C)
  exc : excIn K C veMro "ValueError.__new__" = true
  ec : ExcC K C
  card : ∃ c, mg "CardError" = some (.ref c) ∧ exmOne K (.ref C) (.ref c) = some true
  ve : kitOne K (.ref C) (.type "ValueError") = some true
  zve : mg "ValueError" = none
  marks : ∀ p ∈ ms, ∃ c, mg p.1 = some (.ref c) ∧ kitOne K (.ref C) (.ref c) = some p.2
/-- a def that raises: what is asked of its arguments -/
def spR (K : Frag) (n : Nat) (C : Addr) (p : List U → Prop) : Sp := fun vs H _ E => ∃ us A, Rps K H A us vs ∧ (∀ a, A a → Mu (H a)) ∧ us.length = n ∧ p us ∧ ∀ H', Same H H' → E (.ref C) none H'
def spMark (C : Addr) (word : Str) : Sp := fun vs H Q _ => ∃ ea, vs = [.ref ea] ∧ H ea = some (excO ea C) ∧ ∀ H', Same H H' → Q (.str word) H'
/-- the names at the entry of a def -/
theorem rel_start {K : Frag} {G : Gm} {N : List Str} {us : List U} {vs : List V} {A0 : Addr → Prop} {H : Hp} (r : Rps K H A0 us vs) (mu : ∀ a, A0 a → Mu (H a)) (hio : G.io = false) (hown : ∀ i, i < us.length → G.is i = false) : Rel K G ⟨A0, H, 0⟩ A0 (ev0 N.length us) (start N vs) H where
  slot := fun i u hu => by
    have hu := ev0_get hu
    obtain ⟨v, h1, h2⟩ := r.get hu
    refine ⟨v, start_get h1, ?_⟩
    rw [if_neg (by rw [hown i (List.getElem?_eq_some_iff.mp hu).1]; exact Bool.false_ne_true)]
    exact h2
  dis := fun i j u w a ci cj ne hi hj si sj => by
    rw [hown i (List.getElem?_eq_some_iff.mp (ev0_get hi)).1] at ci; cases ci
  mu := mu
  sup := fun a h => h
  out := fun a h => .inl h
  bas := fun a o h => h
  io0 := fun h => by rw [hio] at h; cases h
  len := ev0_len r.length
theorem Same.updN {H H' : Hp} {a : Addr} {o : HO} (h : Same H H') (n : H' a = none) : Same H (upd H' a o) := fun b ob e => by
  have q := h b ob e
  rw [upd_ne (ne_of_none q n)]; exact q
section
variable {X : Cx} {ea C : Addr} {x y : Str} {i : Nat} {b : Bool} {pos p1 p2 p3 : Pos}
/-- isinstance(e, D), D a class of the text -/
def tInstE (i : Nat) (C : Addr) (b : Bool) : TE := fun σ H Q => ∃ ea, σ[i]? = some (some (.ref ea)) ∧ H ea = some (excO ea C) ∧ Q (.bl b) H
theorem pe_instE (h : ExcC X.K C) (zi : X.mg "isinstance" = none) (hc : ∃ c, X.mg y = some (.ref c) ∧ kitOne X.K (.ref C) (.ref c) = some b) (hN : X.N[i]? = some x := by rfl) (hv : Vis X.env.scope x := by first | exact Or.inl rfl | exact Or.inr (Or.inl rfl) | exact Or.inr (Or.inr rfl)) (hg : Gl X "isinstance" := by rfl) (hy : Gl X y := by rfl)
    (hd : (x == ("__debug__" : Str)) = false := by decide) (hcd : (x == ("__classdict__" : Str)) = false := by decide) (hd2 : (y == ("__debug__" : Str)) = false := by decide)
    (hs : starEach [.Name x p2, .Name y p3] X.env = (false, eval (.Name x p2) X.env) :: starEach [.Name y p3] X.env := by rfl) (hs2 : starEach [.Name y p3] X.env = (false, eval (.Name y p3) X.env) :: starEach [] X.env := by rfl)
    (hpl : (backTo pos (starEach [.Name y p3] X.env)).any (·.1) = false := by rfl) : PE X (.Call (.Name "isinstance" p1) [.Name x p2, .Name y p3] [] pos) (tInstE i C b) := by
  obtain ⟨c, hm, hk⟩ := hc
  intro pins s σ H Q I hq
  obtain ⟨ea, e1, e2, q⟩ := hq
  exact pe_callB (call_instE (ea := ea) (D := .ref c) h (fun u hu => hu) hk) hg zi bt_isinstance (pa_cons (pe_var hN hv hd hcd) (pa_cons (pe_glob (v := .ref c) hy hm rfl hd2) pa_nil hs2) hs) (by decide) (by decide) hs hpl pins s σ H Q I ⟨_, e1, rfl, e2, q⟩
theorem pe_instV (h : ExcC X.K C) (zi : X.mg "isinstance" = none) (zv : X.mg "ValueError" = none) (hk : kitOne X.K (.ref C) (.type "ValueError") = some b) (hN : X.N[i]? = some x := by rfl) (hv : Vis X.env.scope x := by first | exact Or.inl rfl | exact Or.inr (Or.inl rfl) | exact Or.inr (Or.inr rfl)) (hg : Gl X "isinstance" := by rfl) (hy : Gl X "ValueError" := by rfl)
    (hd : (x == ("__debug__" : Str)) = false := by decide) (hcd : (x == ("__classdict__" : Str)) = false := by decide)
    (hs : starEach [.Name x p2, .Name "ValueError" p3] X.env = (false, eval (.Name x p2) X.env) :: starEach [.Name "ValueError" p3] X.env := by rfl) (hs2 : starEach [.Name "ValueError" p3] X.env = (false, eval (.Name "ValueError" p3) X.env) :: starEach [] X.env := by rfl)
    (hpl : (backTo pos (starEach [.Name "ValueError" p3] X.env)).any (·.1) = false := by rfl) : PE X (.Call (.Name "isinstance" p1) [.Name x p2, .Name "ValueError" p3] [] pos) (tInstE i C b) := by
  intro pins s σ H Q I hq
  obtain ⟨ea, e1, e2, q⟩ := hq
  have bt : bootBuiltins "ValueError" = some (.type "ValueError") := by decide +kernel
  exact pe_callB (call_instE (ea := ea) (D := .ty "ValueError") h (fun u hu => hu) hk) hg zi bt_isinstance (pa_cons (pe_var hN hv hd hcd) (pa_cons (pe_bltn (v := .ty "ValueError") hy zv bt rfl (by decide) (by decide)) pa_nil hs2) hs) (by decide) (by decide) hs hpl pins s σ H Q I ⟨_, e1, rfl, e2, q⟩
end
theorem ps_ifD {X : Cx} (G : Gm) {c : Expr} {a b : List Stmt} {pos : Pos} {b1 : Bool} {h1 : Ev → R (Bool × Ev)} {t u : TS} (hc : DT X G c b1 h1) (ha : PSs X a t) (hb : PSs X b u) : PS X (.If c a b pos) (tIfS (tDT X.K G b1 h1) t u) := ps_if hc.un ha hb
/-- try: body; except ..: where the body is a calculus block that raises nothing -/
theorem ds_tryN {X : Cx} {G : Gm} {m : Md} {body : List Stmt} {h0 : ExceptHandler} {hs : List ExceptHandler} {pos : Pos} {g : Ev → SR} (h : DSs X.nox G m body g) : DS X G m (.Try body (h0 :: hs) [] [] pos) g := ⟨ps_tryN h.un⟩
end L2
end
section
set_option Elab.async false
set_option linter.all false
set_option maxRecDepth 100000
set_option maxHeartbeats 4000000
namespace L2
open PySem
theorem nr {α : Sort _} {a b : α} (h : a = b) : a = b := h
/-! ### how the pure defs are told step by step -/
def look (o : Option (Option U)) (ρ : Ev) : R (U × Ev) := match o with
  | some (some u) => .ok (u, ρ)
  | _ => .stk
def asB (u : U) (ρ : Ev) : R (Bool × Ev) := match u with
  | .bl c => .ok (c, ρ)
  | _ => .stk
def ofO (o : Option U) : R U := match o with
  | some u => .ok u
  | none => .stk
def SR.seq (r : SR) (g : Ev → SR) : SR := match r with
  | .nx ρ => g ρ
  | r => r
def SR.turn (r : SR) (g : Ev → SR) : SR := match r with
  | .nx ρ => g ρ
  | .ct ρ => g ρ
  | .bk ρ => .nx ρ
  | r => r
def finF (m : Md) (r : SR) : R U := match r with
  | .rt u _ => .ok u
  | .nx _ => if m = .S then .ok .non else .stk
  | .exc c u => .exc c u
  | _ => .stk
def io0 (u : U) (o : Option (Option U)) : R (U × U) := match o with
  | some (some w) => .ok (u, w)
  | _ => .stk
def finI (r : SR) : R (U × U) := match r with
  | .rt u ρ => io0 u ρ[0]?
  | .nx ρ => io0 .non ρ[0]?
  | .exc c u => .exc c u
  | _ => .stk
section
variable {ρ : Ev} {u w : U} {i j n : Nat} {α β : Type} {g g1 g2 g3 : Ev → R (U × Ev)} {h h1 h2 : Ev → R (Bool × Ev)} {s s1 s2 : Ev → SR} {ga : Ev → R (List U × Ev)} {m : Md} {us ws : List U}
theorem e_var : gVar i ρ = look ρ[i]? ρ := nr rfl
theorem look_s : look (some (some u)) ρ = .ok (u, ρ) := nr rfl
theorem e_c : gC u ρ = .ok (u, ρ) := nr rfl
theorem b_ok {a : α} {f : α → R β} : (R.ok a).bind f = f a := nr rfl
theorem b_stk {f : α → R β} : (R.stk : R α).bind f = .stk := nr rfl
theorem of_ok {a : α} {f : α → SR} : SR.of (R.ok a) f = f a := nr rfl
theorem e_op {p : U → U → R U} : gOp p g1 g2 ρ = (g1 ρ).bind fun x => (g2 x.2).bind fun y => (p x.1 y.1).bind fun z => .ok (z, y.2) := nr rfl
theorem e_B : gB g ρ = (g ρ).bind fun x => asB x.1 x.2 := nr rfl
theorem asB_b {c : Bool} : asB (.bl c) ρ = .ok (c, ρ) := nr rfl
theorem e_hAnd : hAnd h1 h2 ρ = (h1 ρ).bind fun x => if x.1 = true then h2 x.2 else .ok (false, x.2) := nr rfl
theorem e_hOr : hOr h1 h2 ρ = (h1 ρ).bind fun x => if x.1 = true then .ok (true, x.2) else h2 x.2 := nr rfl
theorem e_hNot : hNot h ρ = (h ρ).bind fun x => .ok (!x.1, x.2) := nr rfl
theorem e_And : gAnd g1 g2 ρ = (gB g1 ρ).bind fun x => if x.1 = true then g2 x.2 else .ok (.bl false, x.2) := nr rfl
theorem e_Or : gOr g1 g2 ρ = (gB g1 ρ).bind fun x => if x.1 = true then .ok (.bl true, x.2) else g2 x.2 := nr rfl
theorem e_Not : gNot g ρ = (gB g ρ).bind fun x => .ok (.bl (!x.1), x.2) := nr rfl
theorem e_If : gIf h g1 g2 ρ = (h ρ).bind fun x => if x.1 = true then g1 x.2 else g2 x.2 := nr rfl
def chB (p' : U → U → R U) (g3 : Ev → R (U × Ev)) (y : U × Ev) (z : U) : R (U × Ev) := match z with
  | .bl k => if k = true then (g3 y.2).bind fun w => (p' y.1 w.1).bind fun z' => .ok (z', w.2) else .ok (.bl false, y.2)
  | _ => .stk
theorem e_Chain {p p' : U → U → R U} : gChain p p' g1 g2 g3 ρ = (g1 ρ).bind fun x => (g2 x.2).bind fun y => (p x.1 y.1).bind fun z => chB p' g3 y z := nr rfl
theorem chB_b {p' : U → U → R U} {y : U × Ev} {k : Bool} : chB p' g3 y (.bl k) = if k = true then (g3 y.2).bind fun w => (p' y.1 w.1).bind fun z' => .ok (z', w.2) else .ok (.bl false, y.2) := nr rfl
theorem e_Un {p : U → R U} : gUn p g ρ = (g ρ).bind fun x => (p x.1).bind fun z => .ok (z, x.2) := nr rfl
theorem e_aNil : aNil ρ = .ok ([], ρ) := nr rfl
theorem e_aCons : aCons g ga ρ = (g ρ).bind fun x => (ga x.2).bind fun y => .ok (x.1 :: y.1, y.2) := nr rfl
theorem e_TupD : gTupD ga ρ = (ga ρ).bind fun x => if x.1.length ≤ sizeLine then .ok (.tup x.1, x.2) else .stk := nr rfl
theorem e_LstD : gLstD ga ρ = (ga ρ).bind fun x => if x.1.length ≤ sizeLine then .ok (.lst x.1, x.2) else .stk := nr rfl
theorem e_CB {p : List U → R U} : gCB p ga ρ = (ga ρ).bind fun x => (p x.1).bind fun z => .ok (z, x.2) := nr rfl
theorem e_CF {f : List U → R U} : gCF n f ga ρ = (ga ρ).bind fun x => (fnN n f x.1).bind fun z => .ok (z, x.2) := nr rfl
theorem e_fnN {f : List U → R α} (h : us.length = n) : fnN n f us = f us := if_pos h
def ciB (n : Nat) (f : List U → R (U × U)) (us : List U) (i : Nat) (ρ : Ev) (o : Option (Option U)) : R (U × Ev) := match o with
  | some (some u0) => (fnN n f (u0 :: us)).bind fun z => .ok (z.1, ρ.set i (some z.2))
  | _ => .stk
theorem ciB_s {f : List U → R (U × U)} : ciB n f us i ρ (some (some u)) = (fnN n f (u :: us)).bind fun z => .ok (z.1, ρ.set i (some z.2)) := nr rfl
def liveO (o : Option (Option U)) : Bool := match o with
  | some (some _) => true
  | _ => false
theorem liveO_s : liveO (some (some u)) = true := nr rfl
theorem e_CI {f : List U → R (U × U)} : gCI n i f ga ρ = if liveO ρ[i]? = true then (ga ρ).bind fun x => ciB n f x.1 i x.2 x.2[i]? else .stk := nr rfl
def gmB (i : Nat) (p : U → List U → R (U × U)) (us : List U) (ρ : Ev) (o : Option (Option U)) : R (U × Ev) := match o with
  | some (some u0) => (p u0 us).bind fun z => .ok (z.1, ρ.set i (some z.2))
  | _ => .stk
theorem gmB_s {p : U → List U → R (U × U)} : gmB i p us ρ (some (some u)) = (p u us).bind fun z => .ok (z.1, ρ.set i (some z.2)) := nr rfl
def gmA (T : String) (i : Nat) (p : U → List U → R (U × U)) (ga : Ev → R (List U × Ev)) (ρ : Ev) (o : Option (Option U)) : R (U × Ev) := match o with
  | some (some u1) => if isTy u1 T = true then (ga ρ).bind fun x => gmB i p x.1 x.2 x.2[i]? else .stk
  | _ => .stk
theorem gmA_s {T : String} {p : U → List U → R (U × U)} : gmA T i p ga ρ (some (some u)) = if isTy u T = true then (ga ρ).bind fun x => gmB i p x.1 x.2 x.2[i]? else .stk := nr rfl
theorem e_M {T : String} {p : U → List U → R (U × U)} : gM T i p ga ρ = gmA T i p ga ρ ρ[i]? := nr rfl
theorem isTy_l : isTy (.lst us) "list" = true := nr rfl
theorem e_oNone : oNone ρ = .ok (none, ρ) := nr rfl
def asI (u : U) (ρ : Ev) : R (Option Int × Ev) := match u with
  | .int i => .ok (some i, ρ)
  | _ => .stk
theorem asI_i {k : Int} : asI (.int k) ρ = .ok (some k, ρ) := nr rfl
theorem e_oSome : oSome g ρ = (g ρ).bind fun x => asI x.1 x.2 := nr rfl
theorem e_Sl {p : U → Option Int → Option Int → R U} {lo hi : Ev → R (Option Int × Ev)} : gSl p g lo hi ρ = (g ρ).bind fun x => (lo x.2).bind fun l => (hi l.2).bind fun h => (p x.1 l.1 h.1).bind fun z => .ok (z, h.2) := nr rfl
def inB (T : String) (u : U) (ρ : Ev) : R (U × Ev) := if tyU u = "script" then .stk else .ok (.bl (isT (tyU u) T), ρ)
theorem e_Inst {T : String} : gInst T g ρ = (g ρ).bind fun x => inB T x.1 x.2 := nr rfl
/-! statements -/
theorem e_Next : sNext ρ = .nx ρ := nr rfl
theorem e_Break : sBreak ρ = .bk ρ := nr rfl
theorem e_Cont : sCont ρ = .ct ρ := nr rfl
theorem e_Seq : sSeq s1 s2 ρ = (s1 ρ).seq s2 := nr rfl
theorem seq_nx : (SR.nx ρ).seq s = s ρ := nr rfl
theorem seq_rt : (SR.rt u ρ).seq s = .rt u ρ := nr rfl
theorem seq_bk : (SR.bk ρ).seq s = .bk ρ := nr rfl
theorem seq_ct : (SR.ct ρ).seq s = .ct ρ := nr rfl
theorem e_Expr : sExpr g ρ = SR.of (g ρ) fun x => .nx x.2 := nr rfl
theorem e_Ret : sRet g ρ = SR.of (g ρ) fun x => .rt x.1 x.2 := nr rfl
theorem e_Set : sSet i g ρ = SR.of (g ρ) fun x => .nx (x.2.set i (some x.1)) := nr rfl
theorem e_Asg {sg : U → Ev → R Ev} : sAsg sg g ρ = SR.of (g ρ) fun x => SR.of (sg x.1 x.2) .nx := nr rfl
theorem e_IfS : sIf h s1 s2 ρ = SR.of (h ρ) fun x => if x.1 = true then s1 x.2 else s2 x.2 := nr rfl
def mvB (i j : Nat) (ρ : Ev) (o : Option (Option U)) : SR := match o with
  | some (some u) => .nx ((ρ.set j none).set i (some u))
  | _ => .stk
theorem e_Move : sMove i j ρ = mvB i j ρ ρ[j]? := nr rfl
theorem mvB_s : mvB i j ρ (some (some u)) = .nx ((ρ.set j none).set i (some u)) := nr rfl
def parB (i j : Nat) (us : List U) (ρ : Ev) : SR := match us with
  | [u, w] => .nx ((ρ.set i (some u)).set j (some w))
  | _ => .stk
theorem e_Par : sPar i j ga ρ = SR.of (ga ρ) fun x => parB i j x.1 x.2 := nr rfl
theorem parB_2 : parB i j [u, w] ρ = .nx ((ρ.set i (some u)).set j (some w)) := nr rfl
def siB (i : Nat) (v k : U) (ρ : Ev) (o : Option (Option U)) : SR := match k with
  | .int k => match o with
    | some (some (.lst us)) => match ixN us.length k with
      | some j => .nx (ρ.set i (some (.lst (us.set j v))))
      | none => .stk
    | _ => .stk
  | _ => .stk
theorem e_SetI : sSetI i g1 g2 ρ = SR.of (g1 ρ) fun x => if liveO x.2[i]? = true then SR.of (g2 x.2) fun y => siB i x.1 y.1 y.2 y.2[i]? else .stk := nr rfl
theorem siB_s {k : Int} (h : ixN us.length k = some j) : siB i w (.int k) ρ (some (some (.lst us))) = .nx (ρ.set i (some (.lst (us.set j w)))) := by
  unfold siB; dsimp only; rw [h]
def augB (i : Nat) (p : U → U → R U) (g : Ev → R (U × Ev)) (ρ : Ev) (o : Option (Option U)) : SR := match o with
  | some (some u) => SR.of (g ρ) fun y => SR.of (p u y.1) fun z => .nx (y.2.set i (some z))
  | _ => .stk
theorem e_Aug {p : U → U → R U} : sAug i p g ρ = augB i p g ρ ρ[i]? := nr rfl
theorem augB_s {p : U → U → R U} : augB i p g ρ (some (some u)) = SR.of (g ρ) fun y => SR.of (p u y.1) fun z => .nx (y.2.set i (some z)) := nr rfl
theorem e_For {gi : Ev → R (List U × Ev)} {sg : U → Ev → R Ev} : sFor gi sg s ρ = SR.of (gi ρ) fun x => forGo sg s x.1 x.2 := nr rfl
theorem for_nil {sg : U → Ev → R Ev} : forGo sg s [] ρ = .nx ρ := nr rfl
theorem for_cons {sg : U → Ev → R Ev} : forGo sg s (u :: us) ρ = SR.of (sg u ρ) fun ρ1 => (s ρ1).turn (forGo sg s us) := nr rfl
theorem turn_nx : (SR.nx ρ).turn s = s ρ := nr rfl
theorem turn_ct : (SR.ct ρ).turn s = s ρ := nr rfl
theorem turn_bk : (SR.bk ρ).turn s = .nx ρ := nr rfl
theorem turn_rt : (SR.rt u ρ).turn s = .rt u ρ := nr rfl
def seqB (u : U) (ρ : Ev) : R (List U × Ev) := match u with
  | .lst us => .ok (us, ρ)
  | .tup us => .ok (us, ρ)
  | .scr us => .ok (us, ρ)
  | _ => .stk
theorem e_gSeq : gSeq g ρ = (g ρ).bind fun x => seqB x.1 x.2 := nr rfl
theorem seqB_l : seqB (.lst us) ρ = .ok (us, ρ) := nr rfl
theorem seqB_t : seqB (.tup us) ρ = .ok (us, ρ) := nr rfl
theorem seqB_s : seqB (.scr us) ρ = .ok (us, ρ) := nr rfl
def rngB (us : List U) (ρ : Ev) : R (List U × Ev) := match us with
  | [.int j] => if -1000000 ≤ j ∧ j ≤ 1000000 then .ok (rangeU 0 j.toNat, ρ) else .stk
  | _ => .stk
theorem e_Rng1 : gRng1 ga ρ = (ga ρ).bind fun x => rngB x.1 x.2 := nr rfl
theorem rngB_1 {k : Int} : rngB [.int k] ρ = if -1000000 ≤ k ∧ k ≤ 1000000 then .ok (rangeU 0 k.toNat, ρ) else .stk := nr rfl
def rngLB (us : List U) (ρ : Ev) : R (U × Ev) := match us with
  | [.int j] => if cRng 0 j = true then .ok (.lst (rangeU 0 (j - 0).toNat), ρ) else .stk
  | _ => .stk
def rngTB (us : List U) (ρ : Ev) : R (U × Ev) := match us with
  | [.int j] => if cRng 0 j = true then .ok (.tup (rangeU 0 (j - 0).toNat), ρ) else .stk
  | _ => .stk
theorem e_RngL : gRngL ga ρ = (ga ρ).bind fun x => rngLB x.1 x.2 := nr rfl
theorem e_RngT : gRngT ga ρ = (ga ρ).bind fun x => rngTB x.1 x.2 := nr rfl
theorem cRng0 {k : Int} (h0 : 0 ≤ k) (h1 : k ≤ 1000000) : cRng 0 k = true := by
  unfold cRng; simp only [Bool.and_eq_true, decide_eq_true_eq]; omega
theorem rngLB_n (n : Nat) (h : n ≤ 1000000) : rngLB [.int n] ρ = .ok (.lst (rangeU 0 n), ρ) := by
  unfold rngLB; dsimp only; rw [if_pos (cRng0 (by omega) (by omega)), show ((n : Int) - 0).toNat = n by omega]
theorem rngTB_n (n : Nat) (h : n ≤ 1000000) : rngTB [.int n] ρ = .ok (.tup (rangeU 0 n), ρ) := by
  unfold rngTB; dsimp only; rw [if_pos (cRng0 (by omega) (by omega)), show ((n : Int) - 0).toNat = n by omega]
theorem rngB_n (n : Nat) (h : n ≤ 1000000) : rngB [.int n] ρ = .ok (rangeU 0 n, ρ) := by
  rw [rngB_1, if_pos (by omega)]; rfl
theorem e_LCp {gi : Ev → R (List U × Ev)} {js : List (Option Nat)} {sg : U → Ev → R Ev} : gLCp gi js sg h g ρ = (gi ρ).bind fun x => (lcP (lcF js sg h g x.2) x.1).bind fun ys => .ok (.lst ys, x.2) := nr rfl
theorem e_LCx {G : Gm} {gi : Ev → R (List U × Ev)} {js : List (Option Nat)} {sg : U → Ev → R Ev} : gLCx G gi js sg h g ρ = (gi ρ).bind fun x => (lcGo G js sg h g x.1 x.2).bind fun y => .ok (.lst y.1, y.2) := nr rfl
theorem lcF_e {js : List (Option Nat)} {sg : U → Ev → R Ev} : lcF js sg h g ρ u = (sg u (selE js ρ)).bind fun ρi => (h ρi).bind fun c => if c.1 = true then (g ρi).bind fun y => .ok (some y.1) else .ok none := nr rfl
theorem lcGo_n {G : Gm} {js : List (Option Nat)} {sg : U → Ev → R Ev} : lcGo G js sg h g [] ρ = .ok ([], ρ) := nr rfl
theorem lcGo_c {G : Gm} {js : List (Option Nat)} {sg : U → Ev → R Ev} : lcGo G js sg h g (u :: us) ρ = (sg u (selE js ρ)).bind fun ρi => (h ρi).bind fun c => if c.1 = true then (g c.2).bind fun y => (lcGo G js sg h g us (wb G js y.2 ρ)).bind fun r => .ok (y.1 :: r.1, r.2) else lcGo G js sg h g us (wb G js c.2 ρ) := nr rfl
theorem e_Yes : hYes ρ = .ok (true, ρ) := nr rfl
theorem e_sgN : sgN i u ρ = .ok (ρ.set i (some u)) := nr rfl
theorem e_D0 : gD0 ρ = .ok (.dct [] [], ρ) := nr rfl
theorem e_runF : runF m n s us = finF m (s (ev0 n us)) := nr rfl
theorem finF_rt : finF m (.rt u ρ) = .ok u := nr rfl
theorem e_runI : runI n s us = finI (s (ev0 n us)) := nr rfl
theorem finI_rt : finI (.rt u ρ) = io0 u ρ[0]? := nr rfl
theorem io0_s : io0 u (some (some w)) = .ok (u, w) := nr rfl
theorem selE_nil {ρ : Ev} : selE [] ρ = [] := nr rfl
theorem selE_none {js : List (Option Nat)} : selE (none :: js) ρ = none :: selE js ρ := nr rfl
theorem selE_some {js : List (Option Nat)} : selE (some j :: js) ρ = (ρ[j]?).getD none :: selE js ρ := by
  unfold selE
  rw [List.map_cons]
  congr 1
  dsimp only
  cases ρ[j]? <;> rfl
end
/-! ### the operations -/
section
variable {i j k : Int} {us ws : List U} {u w : U} {lo hi : Option Int}
theorem p_addI : pAdd (.int i) (.int j) = .ok (.int (i + j)) := nr rfl
theorem p_addT : pAdd (.tup us) (.tup ws) = if us.length + ws.length ≤ sizeLine then .ok (.tup (us ++ ws)) else .stk := nr rfl
theorem p_addL : pAdd (.lst us) (.lst ws) = if us.length + ws.length ≤ sizeLine then .ok (.lst (us ++ ws)) else .stk := nr rfl
theorem p_sub : pSub (.int i) (.int j) = .ok (.int (i - j)) := nr rfl
theorem p_mul : pMulI (.int i) (.int j) = if cMul i j = true then .ok (.int (i * j)) else .stk := nr rfl
theorem p_fdiv : pFdiv (.int i) (.int j) = if cDiv i j = true then .ok (.int (i / j)) else .stk := nr rfl
theorem p_mod : pMod (.int i) (.int j) = if decide (0 < j) = true then .ok (.int (i % j)) else .stk := nr rfl
theorem p_pow : pPow (.int i) (.int j) = if cPow i j = true then .ok (.int (i ^ j.toNat)) else .stk := nr rfl
theorem p_neg : pNeg (.int i) = .ok (.int (-i)) := nr rfl
theorem p_lt : pLt (.int i) (.int j) = .ok (.bl (decide (i < j))) := nr rfl
theorem p_le : pLe (.int i) (.int j) = .ok (.bl (decide (i ≤ j))) := nr rfl
theorem p_gt : pGt (.int i) (.int j) = .ok (.bl (decide (j < i))) := nr rfl
theorem p_ge : pGe (.int i) (.int j) = .ok (.bl (decide (j ≤ i))) := nr rfl
theorem p_ixL : pIx (.lst us) (.int i) = ofO (atI us i) := by show (match atI us i with | some z => R.ok z | none => .stk) = _; cases atI us i <;> rfl
theorem p_ixT : pIx (.tup us) (.int i) = ofO (atI us i) := by show (match atI us i with | some z => R.ok z | none => .stk) = _; cases atI us i <;> rfl
theorem p_ixS : pIx (.scr us) (.int i) = ofO (atI us i) := by show (match atI us i with | some z => R.ok z | none => .stk) = _; cases atI us i <;> rfl
theorem ofO_s : ofO (some u) = .ok u := nr rfl
theorem p_slL : pSl (.lst us) lo hi = .ok (.lst (cutL us lo hi)) := nr rfl
theorem p_slT : pSl (.tup us) lo hi = .ok (.tup (cutL us lo hi)) := nr rfl
theorem p_slS : pSl (.scr us) lo hi = .ok (.lst (cutL us lo hi)) := nr rfl
theorem p_lenL : pLen [.lst us] = .ok (.int us.length) := nr rfl
theorem p_lenT : pLen [.tup us] = .ok (.int us.length) := nr rfl
theorem p_lenS : pLen [.scr us] = .ok (.int us.length) := nr rfl
theorem p_tupL : pTuple [.lst us] = .ok (.tup us) := nr rfl
theorem p_tupT : pTuple [.tup us] = .ok (.tup us) := nr rfl
theorem p_lstL : pList [.lst us] = .ok (.lst us) := nr rfl
theorem p_lstT : pList [.tup us] = .ok (.lst us) := nr rfl
theorem p_isB {a b : Bool} {f : Bool → Bool} : pIsB f (.bl a) (.bl b) = .ok (.bl (f (decide (a = b)))) := nr rfl
theorem p_isN {f : Bool → Bool} : pIsN f u .non = .ok (.bl (f (isNon u))) := nr rfl
theorem p_min2 : pMin2 [.int i, .int j] = .ok (.int (if j < i then j else i)) := nr rfl
theorem p_max2 : pMax2 [.int i, .int j] = .ok (.int (if j > i then j else i)) := nr rfl
theorem p_eq {f : Bool → Bool} : pEq f u w = (eqUU u w).bind fun b => .ok (.bl (f b)) := nr rfl
theorem atI_n (n : Nat) : atI us (n : Int) = us[n]? := by
  unfold atI ixN
  by_cases h : n < us.length
  · rw [if_pos (by omega), if_pos (by omega)]; rfl
  · rw [if_pos (by omega), if_neg (by omega)]; rw [List.getElem?_eq_none_iff.mpr (by omega)]; rfl
theorem atI_0 : atI us 0 = us[0]? := atI_n 0
theorem atI_1 : atI us 1 = us[1]? := atI_n 1
theorem atI_2 : atI us 2 = us[2]? := atI_n 2
theorem ixN_0 (h : 0 < us.length) : ixN us.length 0 = some 0 := by unfold ixN; rw [if_pos (by omega), if_pos (by omega)]; rfl
theorem cDiv_of (h0 : 0 < j) (h1 : j < 18446744073709551616) : cDiv i j = true := by unfold cDiv; simp [h0, h1]
theorem cMul_l (h0 : 0 ≤ i) (h1 : i < 18446744073709551616) : cMul i j = true := by
  unfold cMul
  simp only [Bool.or_eq_true, Bool.and_eq_true, decide_eq_true_eq]
  exact .inl ⟨by omega, by omega⟩
theorem cMul_r (h0 : 0 ≤ j) (h1 : j < 18446744073709551616) : cMul i j = true := by
  unfold cMul
  simp only [Bool.or_eq_true, Bool.and_eq_true, decide_eq_true_eq]
  exact .inr ⟨by omega, by omega⟩
end
end L2
end
section
set_option Elab.async false
set_option linter.all false
set_option maxRecDepth 100000
set_option maxHeartbeats 4000000
namespace L2
open PySem
theorem siB_0 {i : Nat} {w u : U} {us : List U} {ρ : Ev} : siB i w (.int 0) ρ (some (some (.lst (u :: us)))) = .nx (ρ.set i (some (.lst (w :: us)))) := by
  rw [siB_s (j := 0) (ixN_0 (by rw [List.length_cons]; omega))]; rfl
theorem finI_nx {ρ : Ev} : finI (.nx ρ) = io0 .non ρ[0]? := rfl
/-! ### a block that draws -/
theorem lcGo_inv {G : Gm} {js : List (Option Nat)} {sg : U → Ev → R Ev} {ge : Ev → R (U × Ev)} {σ : Type} (ev : σ → Ev) (N : Nat) (I : List U → σ → Prop)
    (step : ∀ done u s, done.length < N → I done s → ∃ ρi y ρi' s', sg u (selE js (ev s)) = .ok ρi ∧ ge ρi = .ok (y, ρi') ∧ wb G js ρi' (ev s) = ev s' ∧ I (done ++ [y]) s') :
    ∀ (us done : List U) (s : σ), done.length + us.length ≤ N → I done s → ∃ ys s', lcGo G js sg hYes ge us (ev s) = .ok (ys, ev s') ∧ ys.length = us.length ∧ I (done ++ ys) s'
  | [], done, s, _, h => ⟨[], s, rfl, rfl, by rw [List.append_nil]; exact h⟩
  | u :: us, done, s, hl, h => by
    rw [List.length_cons] at hl
    obtain ⟨ρi, y, ρi', s', e1, e2, e3, h'⟩ := step done u s (by omega) h
    obtain ⟨ys, s'', e4, e5, h''⟩ := lcGo_inv ev N I step us (done ++ [y]) s' (by rw [List.length_append, List.length_singleton]; omega) h'
    refine ⟨y :: ys, s'', ?_, by rw [List.length_cons, List.length_cons, e5], by rw [List.append_assoc] at h''; exact h''⟩
    rw [lcGo_c, e1, b_ok, e_Yes, b_ok, if_pos rfl, e2, b_ok, e3, e4, b_ok]
theorem forGo_inv {sg : U → Ev → R Ev} {s : Ev → SR} (I : Nat → Ev → Prop) {us : List U} (step : ∀ (i : Nat) (u : U) (ρ : Ev), us[i]? = some u → I i ρ → ∃ ρ1 ρ2, sg u ρ = .ok ρ1 ∧ (s ρ1 = .nx ρ2 ∨ s ρ1 = .ct ρ2) ∧ I (i + 1) ρ2) {ρ : Ev} (h : I 0 ρ) :
    ∃ ρ', forGo sg s us ρ = .nx ρ' ∧ I us.length ρ' := by
  have gen : ∀ (n i : Nat) (ρ : Ev), i + n = us.length → I i ρ → ∃ ρ', forGo sg s (us.drop i) ρ = .nx ρ' ∧ I us.length ρ' := by
    intro n
    induction n with
    | zero =>
      intro i ρ hi h
      have : i = us.length := by omega
      subst this
      rw [List.drop_length]
      exact ⟨ρ, rfl, h⟩
    | succ n ih =>
      intro i ρ hi h
      have hlt : i < us.length := by omega
      obtain ⟨ρ1, ρ2, e1, e2, h2⟩ := step i us[i] ρ (List.getElem?_eq_getElem hlt) h
      obtain ⟨ρ', e3, h3⟩ := ih (i + 1) ρ2 (by omega) h2
      refine ⟨ρ', ?_, h3⟩
      rw [List.drop_eq_getElem_cons hlt, for_cons, e1, of_ok]
      rcases e2 with e2 | e2 <;> (rw [e2]; exact e3)
  have := gen us.length 0 ρ (by omega) h
  rwa [List.drop_zero] at this
theorem lcP_map {f : U → R (Option U)} {g : U → U} : ∀ {us : List U}, (∀ u ∈ us, f u = .ok (some (g u))) → lcP f us = .ok (us.map g)
  | [], _ => rfl
  | u :: us, h => by
    unfold lcP
    rw [h u List.mem_cons_self, b_ok, lcP_map fun w hw => h w (List.mem_cons_of_mem _ hw)]
    rfl
/-! ### an index within -/
/-! ### equality -/
theorem eq_bl (a b : Bool) : eqUU (.bl a) (.bl b) = .ok (a == b) := by
  unfold eqUU toD
  dsimp only
  rw [if_pos (by unfold depD; omega)]
  unfold eqD; rfl
theorem eq_int (a b : Int) : eqUU (.int a) (.int b) = .ok (a == b) := by
  unfold eqUU toD
  dsimp only
  rw [if_pos (by unfold depD; omega)]
  unfold eqD; rfl
theorem eq_str (a b : Str) : eqUU (.str a) (.str b) = .ok (a == b) := by
  unfold eqUU toD
  dsimp only
  rw [if_pos (by unfold depD; omega)]
  unfold eqD; rfl
def rangeI (n : Nat) : List Int := (List.range n).map fun i => (i : Nat)
theorem rangeU_I (n : Nat) : rangeU 0 n = (rangeI n).map .int := by
  unfold rangeU rangeI
  rw [List.map_map]
  exact List.map_congr_left fun i _ => by show U.int (0 + (i : Int)) = .int _; rw [Int.zero_add]
theorem rangeI_len (n : Nat) : (rangeI n).length = n := by unfold rangeI; rw [List.length_map, List.length_range]
theorem mem_rangeI {n : Nat} {x : Int} : x ∈ rangeI n ↔ 0 ≤ x ∧ x < n := by
  unfold rangeI
  rw [List.mem_map]
  constructor
  · rintro ⟨i, h, rfl⟩
    have := List.mem_range.mp h
    omega
  · intro h
    exact ⟨x.toNat, List.mem_range.mpr (by omega), by omega⟩
theorem all_map_bl (us : List U) (c : U → Bool) : pAll [.lst (us.map fun u => .bl (c u))] = .ok (.bl (us.all c)) := by
  have e : us.map (fun u => U.bl (c u)) = (us.map c).map .bl := by rw [List.map_map]; rfl
  unfold pAll
  dsimp only
  rw [e, bools_map]
  dsimp only
  rw [List.all_map]
  rfl
end L2
end
section
set_option Elab.async false
set_option linter.all false
set_option autoImplicit false
set_option maxRecDepth 100000
set_option maxHeartbeats 4000000
namespace L2
open PySem
theorem in_non_bool {ρ : Ev} : inB "bool" (.non) ρ = .ok (.bl false, ρ) := (if_neg (show ¬ ("NoneType" = "script") by decide)).trans (congrArg (fun z => R.ok (U.bl z, ρ)) (show isT "NoneType" "bool" = false by decide))
theorem in_non_int {ρ : Ev} : inB "int" (.non) ρ = .ok (.bl false, ρ) := (if_neg (show ¬ ("NoneType" = "script") by decide)).trans (congrArg (fun z => R.ok (U.bl z, ρ)) (show isT "NoneType" "int" = false by decide))
theorem in_non_str {ρ : Ev} : inB "str" (.non) ρ = .ok (.bl false, ρ) := (if_neg (show ¬ ("NoneType" = "script") by decide)).trans (congrArg (fun z => R.ok (U.bl z, ρ)) (show isT "NoneType" "str" = false by decide))
theorem in_non_list {ρ : Ev} : inB "list" (.non) ρ = .ok (.bl false, ρ) := (if_neg (show ¬ ("NoneType" = "script") by decide)).trans (congrArg (fun z => R.ok (U.bl z, ρ)) (show isT "NoneType" "list" = false by decide))
theorem in_non_tuple {ρ : Ev} : inB "tuple" (.non) ρ = .ok (.bl false, ρ) := (if_neg (show ¬ ("NoneType" = "script") by decide)).trans (congrArg (fun z => R.ok (U.bl z, ρ)) (show isT "NoneType" "tuple" = false by decide))
theorem in_non_dict {ρ : Ev} : inB "dict" (.non) ρ = .ok (.bl false, ρ) := (if_neg (show ¬ ("NoneType" = "script") by decide)).trans (congrArg (fun z => R.ok (U.bl z, ρ)) (show isT "NoneType" "dict" = false by decide))
theorem in_bl_bool {b : Bool} {ρ : Ev} : inB "bool" (.bl b) ρ = .ok (.bl true, ρ) := (if_neg (show ¬ ("bool" = "script") by decide)).trans (congrArg (fun z => R.ok (U.bl z, ρ)) (show isT "bool" "bool" = true by decide))
theorem in_bl_int {b : Bool} {ρ : Ev} : inB "int" (.bl b) ρ = .ok (.bl true, ρ) := (if_neg (show ¬ ("bool" = "script") by decide)).trans (congrArg (fun z => R.ok (U.bl z, ρ)) (show isT "bool" "int" = true by decide))
theorem in_bl_str {b : Bool} {ρ : Ev} : inB "str" (.bl b) ρ = .ok (.bl false, ρ) := (if_neg (show ¬ ("bool" = "script") by decide)).trans (congrArg (fun z => R.ok (U.bl z, ρ)) (show isT "bool" "str" = false by decide))
theorem in_bl_list {b : Bool} {ρ : Ev} : inB "list" (.bl b) ρ = .ok (.bl false, ρ) := (if_neg (show ¬ ("bool" = "script") by decide)).trans (congrArg (fun z => R.ok (U.bl z, ρ)) (show isT "bool" "list" = false by decide))
theorem in_bl_tuple {b : Bool} {ρ : Ev} : inB "tuple" (.bl b) ρ = .ok (.bl false, ρ) := (if_neg (show ¬ ("bool" = "script") by decide)).trans (congrArg (fun z => R.ok (U.bl z, ρ)) (show isT "bool" "tuple" = false by decide))
theorem in_bl_dict {b : Bool} {ρ : Ev} : inB "dict" (.bl b) ρ = .ok (.bl false, ρ) := (if_neg (show ¬ ("bool" = "script") by decide)).trans (congrArg (fun z => R.ok (U.bl z, ρ)) (show isT "bool" "dict" = false by decide))
theorem in_int_bool {i : Int} {ρ : Ev} : inB "bool" (.int i) ρ = .ok (.bl false, ρ) := (if_neg (show ¬ ("int" = "script") by decide)).trans (congrArg (fun z => R.ok (U.bl z, ρ)) (show isT "int" "bool" = false by decide))
theorem in_int_int {i : Int} {ρ : Ev} : inB "int" (.int i) ρ = .ok (.bl true, ρ) := (if_neg (show ¬ ("int" = "script") by decide)).trans (congrArg (fun z => R.ok (U.bl z, ρ)) (show isT "int" "int" = true by decide))
theorem in_int_str {i : Int} {ρ : Ev} : inB "str" (.int i) ρ = .ok (.bl false, ρ) := (if_neg (show ¬ ("int" = "script") by decide)).trans (congrArg (fun z => R.ok (U.bl z, ρ)) (show isT "int" "str" = false by decide))
theorem in_int_list {i : Int} {ρ : Ev} : inB "list" (.int i) ρ = .ok (.bl false, ρ) := (if_neg (show ¬ ("int" = "script") by decide)).trans (congrArg (fun z => R.ok (U.bl z, ρ)) (show isT "int" "list" = false by decide))
theorem in_int_tuple {i : Int} {ρ : Ev} : inB "tuple" (.int i) ρ = .ok (.bl false, ρ) := (if_neg (show ¬ ("int" = "script") by decide)).trans (congrArg (fun z => R.ok (U.bl z, ρ)) (show isT "int" "tuple" = false by decide))
theorem in_int_dict {i : Int} {ρ : Ev} : inB "dict" (.int i) ρ = .ok (.bl false, ρ) := (if_neg (show ¬ ("int" = "script") by decide)).trans (congrArg (fun z => R.ok (U.bl z, ρ)) (show isT "int" "dict" = false by decide))
theorem in_str_bool {x : Str} {ρ : Ev} : inB "bool" (.str x) ρ = .ok (.bl false, ρ) := (if_neg (show ¬ ("str" = "script") by decide)).trans (congrArg (fun z => R.ok (U.bl z, ρ)) (show isT "str" "bool" = false by decide))
theorem in_str_int {x : Str} {ρ : Ev} : inB "int" (.str x) ρ = .ok (.bl false, ρ) := (if_neg (show ¬ ("str" = "script") by decide)).trans (congrArg (fun z => R.ok (U.bl z, ρ)) (show isT "str" "int" = false by decide))
theorem in_str_str {x : Str} {ρ : Ev} : inB "str" (.str x) ρ = .ok (.bl true, ρ) := (if_neg (show ¬ ("str" = "script") by decide)).trans (congrArg (fun z => R.ok (U.bl z, ρ)) (show isT "str" "str" = true by decide))
theorem in_str_list {x : Str} {ρ : Ev} : inB "list" (.str x) ρ = .ok (.bl false, ρ) := (if_neg (show ¬ ("str" = "script") by decide)).trans (congrArg (fun z => R.ok (U.bl z, ρ)) (show isT "str" "list" = false by decide))
theorem in_str_tuple {x : Str} {ρ : Ev} : inB "tuple" (.str x) ρ = .ok (.bl false, ρ) := (if_neg (show ¬ ("str" = "script") by decide)).trans (congrArg (fun z => R.ok (U.bl z, ρ)) (show isT "str" "tuple" = false by decide))
theorem in_str_dict {x : Str} {ρ : Ev} : inB "dict" (.str x) ρ = .ok (.bl false, ρ) := (if_neg (show ¬ ("str" = "script") by decide)).trans (congrArg (fun z => R.ok (U.bl z, ρ)) (show isT "str" "dict" = false by decide))
theorem in_tup_bool {us : List U} {ρ : Ev} : inB "bool" (.tup us) ρ = .ok (.bl false, ρ) := (if_neg (show ¬ ("tuple" = "script") by decide)).trans (congrArg (fun z => R.ok (U.bl z, ρ)) (show isT "tuple" "bool" = false by decide))
theorem in_tup_int {us : List U} {ρ : Ev} : inB "int" (.tup us) ρ = .ok (.bl false, ρ) := (if_neg (show ¬ ("tuple" = "script") by decide)).trans (congrArg (fun z => R.ok (U.bl z, ρ)) (show isT "tuple" "int" = false by decide))
theorem in_tup_str {us : List U} {ρ : Ev} : inB "str" (.tup us) ρ = .ok (.bl false, ρ) := (if_neg (show ¬ ("tuple" = "script") by decide)).trans (congrArg (fun z => R.ok (U.bl z, ρ)) (show isT "tuple" "str" = false by decide))
theorem in_tup_list {us : List U} {ρ : Ev} : inB "list" (.tup us) ρ = .ok (.bl false, ρ) := (if_neg (show ¬ ("tuple" = "script") by decide)).trans (congrArg (fun z => R.ok (U.bl z, ρ)) (show isT "tuple" "list" = false by decide))
theorem in_tup_tuple {us : List U} {ρ : Ev} : inB "tuple" (.tup us) ρ = .ok (.bl true, ρ) := (if_neg (show ¬ ("tuple" = "script") by decide)).trans (congrArg (fun z => R.ok (U.bl z, ρ)) (show isT "tuple" "tuple" = true by decide))
theorem in_tup_dict {us : List U} {ρ : Ev} : inB "dict" (.tup us) ρ = .ok (.bl false, ρ) := (if_neg (show ¬ ("tuple" = "script") by decide)).trans (congrArg (fun z => R.ok (U.bl z, ρ)) (show isT "tuple" "dict" = false by decide))
theorem in_lst_bool {us : List U} {ρ : Ev} : inB "bool" (.lst us) ρ = .ok (.bl false, ρ) := (if_neg (show ¬ ("list" = "script") by decide)).trans (congrArg (fun z => R.ok (U.bl z, ρ)) (show isT "list" "bool" = false by decide))
theorem in_lst_int {us : List U} {ρ : Ev} : inB "int" (.lst us) ρ = .ok (.bl false, ρ) := (if_neg (show ¬ ("list" = "script") by decide)).trans (congrArg (fun z => R.ok (U.bl z, ρ)) (show isT "list" "int" = false by decide))
theorem in_lst_str {us : List U} {ρ : Ev} : inB "str" (.lst us) ρ = .ok (.bl false, ρ) := (if_neg (show ¬ ("list" = "script") by decide)).trans (congrArg (fun z => R.ok (U.bl z, ρ)) (show isT "list" "str" = false by decide))
theorem in_lst_list {us : List U} {ρ : Ev} : inB "list" (.lst us) ρ = .ok (.bl true, ρ) := (if_neg (show ¬ ("list" = "script") by decide)).trans (congrArg (fun z => R.ok (U.bl z, ρ)) (show isT "list" "list" = true by decide))
theorem in_lst_tuple {us : List U} {ρ : Ev} : inB "tuple" (.lst us) ρ = .ok (.bl false, ρ) := (if_neg (show ¬ ("list" = "script") by decide)).trans (congrArg (fun z => R.ok (U.bl z, ρ)) (show isT "list" "tuple" = false by decide))
theorem in_lst_dict {us : List U} {ρ : Ev} : inB "dict" (.lst us) ρ = .ok (.bl false, ρ) := (if_neg (show ¬ ("list" = "script") by decide)).trans (congrArg (fun z => R.ok (U.bl z, ρ)) (show isT "list" "dict" = false by decide))
theorem in_dct_bool {ρ : Ev} : inB "bool" (.dct [] []) ρ = .ok (.bl false, ρ) := (if_neg (show ¬ ("dict" = "script") by decide)).trans (congrArg (fun z => R.ok (U.bl z, ρ)) (show isT "dict" "bool" = false by decide))
theorem in_dct_int {ρ : Ev} : inB "int" (.dct [] []) ρ = .ok (.bl false, ρ) := (if_neg (show ¬ ("dict" = "script") by decide)).trans (congrArg (fun z => R.ok (U.bl z, ρ)) (show isT "dict" "int" = false by decide))
theorem in_dct_str {ρ : Ev} : inB "str" (.dct [] []) ρ = .ok (.bl false, ρ) := (if_neg (show ¬ ("dict" = "script") by decide)).trans (congrArg (fun z => R.ok (U.bl z, ρ)) (show isT "dict" "str" = false by decide))
theorem in_dct_list {ρ : Ev} : inB "list" (.dct [] []) ρ = .ok (.bl false, ρ) := (if_neg (show ¬ ("dict" = "script") by decide)).trans (congrArg (fun z => R.ok (U.bl z, ρ)) (show isT "dict" "list" = false by decide))
theorem in_dct_tuple {ρ : Ev} : inB "tuple" (.dct [] []) ρ = .ok (.bl false, ρ) := (if_neg (show ¬ ("dict" = "script") by decide)).trans (congrArg (fun z => R.ok (U.bl z, ρ)) (show isT "dict" "tuple" = false by decide))
theorem in_dct_dict {ρ : Ev} : inB "dict" (.dct [] []) ρ = .ok (.bl true, ρ) := (if_neg (show ¬ ("dict" = "script") by decide)).trans (congrArg (fun z => R.ok (U.bl z, ρ)) (show isT "dict" "dict" = true by decide))
/-! ### ways of truths -/
theorem PSall : type_of% @e_var ∧ type_of% @look_s ∧ type_of% @e_c ∧ type_of% @b_ok ∧ type_of% @b_stk ∧ type_of% @of_ok ∧ type_of% @e_op ∧ type_of% @e_B ∧ type_of% @asB_b ∧ type_of% @e_hAnd ∧ type_of% @e_hOr ∧ type_of% @e_hNot ∧ type_of% @e_And ∧ type_of% @e_Or ∧ type_of% @e_Not ∧ type_of% @e_If ∧ type_of% @e_Chain ∧ type_of% @e_Un ∧ type_of% @e_aNil ∧ type_of% @e_aCons ∧ type_of% @e_TupD ∧ type_of% @e_LstD ∧ type_of% @e_CB ∧ type_of% @e_CF ∧ type_of% @ciB_s ∧ type_of% @liveO_s ∧ type_of% @e_CI ∧ type_of% @gmB_s ∧ type_of% @gmA_s ∧ type_of% @e_M ∧ type_of% @isTy_l ∧ type_of% @e_oNone ∧ type_of% @asI_i ∧ type_of% @e_oSome ∧ type_of% @e_Sl ∧ type_of% @e_Inst ∧ type_of% @e_Next ∧ type_of% @e_Break ∧ type_of% @e_Cont ∧ type_of% @e_Seq ∧ type_of% @seq_nx ∧ type_of% @seq_rt ∧ type_of% @seq_bk ∧ type_of% @seq_ct ∧ type_of% @e_Expr ∧ type_of% @e_Ret ∧ type_of% @e_Set ∧ type_of% @e_Asg ∧ type_of% @e_IfS ∧ type_of% @e_Move ∧ type_of% @mvB_s ∧ type_of% @e_Par ∧ type_of% @parB_2 ∧ type_of% @e_SetI ∧ type_of% @e_Aug ∧ type_of% @augB_s ∧ type_of% @e_For ∧ type_of% @for_nil ∧ type_of% @turn_nx ∧ type_of% @turn_ct ∧ type_of% @turn_bk ∧ type_of% @turn_rt ∧ type_of% @e_gSeq ∧ type_of% @seqB_l ∧ type_of% @seqB_t ∧ type_of% @seqB_s ∧ type_of% @e_Rng1 ∧ type_of% @e_RngL ∧ type_of% @e_RngT ∧ type_of% @e_LCp ∧ type_of% @e_LCx ∧ type_of% @lcF_e ∧ type_of% @lcGo_n ∧ type_of% @e_Yes ∧ type_of% @e_sgN ∧ type_of% @e_D0 ∧ type_of% @e_runF ∧ type_of% @finF_rt ∧ type_of% @e_runI ∧ type_of% @finI_rt ∧ type_of% @io0_s ∧ type_of% @selE_nil ∧ type_of% @selE_none ∧ type_of% @selE_some ∧ type_of% @p_addI ∧ type_of% @p_addT ∧ type_of% @p_addL ∧ type_of% @p_sub ∧ type_of% @p_mul ∧ type_of% @p_fdiv ∧ type_of% @p_mod ∧ type_of% @p_pow ∧ type_of% @p_neg ∧ type_of% @p_lt ∧ type_of% @p_le ∧ type_of% @p_gt ∧ type_of% @p_ge ∧ type_of% @p_ixL ∧ type_of% @p_ixT ∧ type_of% @p_ixS ∧ type_of% @ofO_s ∧ type_of% @p_slL ∧ type_of% @p_slT ∧ type_of% @p_slS ∧ type_of% @p_lenL ∧ type_of% @p_lenT ∧ type_of% @p_lenS ∧ type_of% @p_tupL ∧ type_of% @p_tupT ∧ type_of% @p_lstL ∧ type_of% @p_lstT ∧ type_of% @p_isB ∧ type_of% @p_isN ∧ type_of% @p_min2 ∧ type_of% @p_max2 ∧ type_of% @p_eq ∧ type_of% @atI_0 ∧ type_of% @atI_1 ∧ type_of% @atI_2 ∧ type_of% @chB_b ∧ type_of% @in_non_bool ∧ type_of% @in_non_int ∧ type_of% @in_non_str ∧ type_of% @in_non_list ∧ type_of% @in_non_tuple ∧ type_of% @in_non_dict ∧ type_of% @in_bl_bool ∧ type_of% @in_bl_int ∧ type_of% @in_bl_str ∧ type_of% @in_bl_list ∧ type_of% @in_bl_tuple ∧ type_of% @in_bl_dict ∧ type_of% @in_int_bool ∧ type_of% @in_int_int ∧ type_of% @in_int_str ∧ type_of% @in_int_list ∧ type_of% @in_int_tuple ∧ type_of% @in_int_dict ∧ type_of% @in_str_bool ∧ type_of% @in_str_int ∧ type_of% @in_str_str ∧ type_of% @in_str_list ∧ type_of% @in_str_tuple ∧ type_of% @in_str_dict ∧ type_of% @in_tup_bool ∧ type_of% @in_tup_int ∧ type_of% @in_tup_str ∧ type_of% @in_tup_list ∧ type_of% @in_tup_tuple ∧ type_of% @in_tup_dict ∧ type_of% @in_lst_bool ∧ type_of% @in_lst_int ∧ type_of% @in_lst_str ∧ type_of% @in_lst_list ∧ type_of% @in_lst_tuple ∧ type_of% @in_lst_dict ∧ type_of% @in_dct_bool ∧ type_of% @in_dct_int ∧ type_of% @in_dct_str ∧ type_of% @in_dct_list ∧ type_of% @in_dct_tuple ∧ type_of% @in_dct_dict ∧ type_of% @siB_0 ∧ type_of% @finI_nx :=
  ⟨@e_var, @look_s, @e_c, @b_ok, @b_stk, @of_ok, @e_op, @e_B, @asB_b, @e_hAnd, @e_hOr, @e_hNot, @e_And, @e_Or, @e_Not, @e_If, @e_Chain, @e_Un, @e_aNil, @e_aCons, @e_TupD, @e_LstD, @e_CB, @e_CF, @ciB_s, @liveO_s, @e_CI, @gmB_s, @gmA_s, @e_M, @isTy_l, @e_oNone, @asI_i, @e_oSome, @e_Sl, @e_Inst, @e_Next, @e_Break, @e_Cont, @e_Seq, @seq_nx, @seq_rt, @seq_bk, @seq_ct, @e_Expr, @e_Ret, @e_Set, @e_Asg, @e_IfS, @e_Move, @mvB_s, @e_Par, @parB_2, @e_SetI, @e_Aug, @augB_s, @e_For, @for_nil, @turn_nx, @turn_ct, @turn_bk, @turn_rt, @e_gSeq, @seqB_l, @seqB_t, @seqB_s, @e_Rng1, @e_RngL, @e_RngT, @e_LCp, @e_LCx, @lcF_e, @lcGo_n, @e_Yes, @e_sgN, @e_D0, @e_runF, @finF_rt, @e_runI, @finI_rt, @io0_s, @selE_nil, @selE_none, @selE_some, @p_addI, @p_addT, @p_addL, @p_sub, @p_mul, @p_fdiv, @p_mod, @p_pow, @p_neg, @p_lt, @p_le, @p_gt, @p_ge, @p_ixL, @p_ixT, @p_ixS, @ofO_s, @p_slL, @p_slT, @p_slS, @p_lenL, @p_lenT, @p_lenS, @p_tupL, @p_tupT, @p_lstL, @p_lstT, @p_isB, @p_isN, @p_min2, @p_max2, @p_eq, @atI_0, @atI_1, @atI_2, @chB_b, @in_non_bool, @in_non_int, @in_non_str, @in_non_list, @in_non_tuple, @in_non_dict, @in_bl_bool, @in_bl_int, @in_bl_str, @in_bl_list, @in_bl_tuple, @in_bl_dict, @in_int_bool, @in_int_int, @in_int_str, @in_int_list, @in_int_tuple, @in_int_dict, @in_str_bool, @in_str_int, @in_str_str, @in_str_list, @in_str_tuple, @in_str_dict, @in_tup_bool, @in_tup_int, @in_tup_str, @in_tup_list, @in_tup_tuple, @in_tup_dict, @in_lst_bool, @in_lst_int, @in_lst_str, @in_lst_list, @in_lst_tuple, @in_lst_dict, @in_dct_bool, @in_dct_int, @in_dct_str, @in_dct_list, @in_dct_tuple, @in_dct_dict, @siB_0, @finI_nx⟩
end L2
end
section
set_option Elab.async false
set_option linter.all false
set_option maxRecDepth 100000
set_option maxHeartbeats 4000000
noncomputable section
namespace Hc
open PySem L2
abbrev G_exchanged : Gm := ⟨[false, false, false, true, false, false, false, false], false⟩
def b_exchanged : Ev → SR := (sSeq (sSet 3 (gRngL (aCons (gVar 0) aNil)))
  (sSeq (sFor (gZip (aCons (gVar 1) (aCons (gVar 2) aNil))) (sgTup 2 (sgCons (sgN 4) (sgCons (sgN 5) sgNil)))
  (sFor (gZip (aCons (gVar 4) (aCons (gOp pIx (gVar 1) (gVar 5)) aNil))) (sgTup 2 (sgCons (sgN 6) (sgCons (sgN 7) sgNil)))
  (sSetI 3 (gVar 7) (gVar 6))))
  (sRet (gCB pTuple (aCons (gVar 3) aNil)))))
def f_exchanged : List U → R U := runF .S 8 b_exchanged
abbrev G_pile_cut : Gm := ⟨[false, false, false], false⟩
def b_pile_cut : Ev → SR := (sSeq (sSet 2 (gRngT (aCons (gCB pLen (aCons (gVar 1) aNil)) aNil)))
  (sRet (gCB pTuple (aCons (gLCp (gSeq (gVar 2)) [none, some 0, some 1, some 2] (sgN 0) hYes (gCF 3 f_exchanged (aCons (gVar 1) (aCons (gVar 2) (aCons (gOp pAdd (gSl pSl (gVar 3) (oSome (gVar 0)) oNone) (gSl pSl (gVar 3) oNone (oSome (gVar 0)))) aNil))))) aNil))))
def f_pile_cut : List U → R U := runF .S 3 b_pile_cut
abbrev G_cut : Gm := ⟨[false, false], false⟩
def b_cut : Ev → SR := (sRet (gCF 2 f_pile_cut (aCons (gVar 0) (aCons (gCB pTuple (aCons (gLCp (gSeq (gVar 1)) [none] (sgN 0) hYes (gTupD (aCons (gVar 0) aNil))) aNil)) aNil))))
def f_cut : List U → R U := runF .S 2 b_cut
abbrev G_arrangements : Gm := ⟨[false, true, false, false], false⟩
def b_arrangements : Nat → Ev → SR
  | 0 => fun _ => .stk
  | n + 1 => let r_arrangements := runF .O 4 (b_arrangements n)
    (sSeq (sIf (gB (gOp (pEq id) (gCB pLen (aCons (gVar 0) aNil)) (gC (.int 0)))) (sRet (gLstD (aCons (gTupD aNil) aNil))) sNext)
  (sSeq (sSet 1 (gLstD aNil))
  (sSeq (sFor (gSeq (gVar 0)) (sgN 2)
  (sSeq (sSet 3 (gLCp (gSeq (gVar 0)) [none, some 2] (sgN 0) (gB (gOp (pEq not) (gVar 0) (gVar 1))) (gVar 0)))
  (sExpr (gM "list" 1 pExtend (aCons (gLCp (gSeq (gCF 1 r_arrangements (aCons (gVar 3) aNil))) [none, some 2] (sgN 0) hYes (gOp pAdd (gTupD (aCons (gVar 1) aNil)) (gVar 0))) aNil)))))
  (sRet (gVar 1)))))
def f_arrangements (n : Nat) : List U → R U := runF .O 4 (b_arrangements n)
abbrev G_pile_mix : Gm := ⟨[false, false], false⟩
def b_pile_mix : Ev → SR := (sSeq (sIf (gB (gOp pGt (gCB pLen (aCons (gVar 1) aNil)) (gC (.int 4)))) (fun _ => .exc "TooMany" .non) sNext)
  (sRet (gCB pTuple (aCons (gLCp (gSeq (gCF 1 (f_arrangements 20) (aCons (gRngL (aCons (gCB pLen (aCons (gVar 1) aNil)) aNil)) aNil))) [none, some 0, some 1] (sgN 0) hYes (gCF 3 f_exchanged (aCons (gVar 1) (aCons (gVar 2) (aCons (gVar 0) aNil))))) aNil))))
def f_pile_mix : List U → R U := runF .S 2 b_pile_mix
abbrev G__law_cell_at : Gm := ⟨[false, false], false⟩
def b__law_cell_at : Ev → SR := (sSeq (sIf (gB (gOp pLt (gVar 1) (gCB pLen (aCons (gVar 0) aNil)))) (sRet (gOp pIx (gVar 0) (gVar 1))) sNext)
  (sRet (gC (.int 0))))
def f__law_cell_at : List U → R U := runF .S 2 b__law_cell_at
abbrev G__law_state : Gm := ⟨[false, false, false], false⟩
def b__law_state : Ev → SR := (sSeq (sSet 2 (gCF 2 f__law_cell_at (aCons (gVar 0) (aCons (gVar 1) aNil))))
  (sSeq (sIf (gB (gOp pGe (gVar 2) (gOp pPow (gC (.int 10)) (gC (.int 18))))) (sRet (gLstD (aCons (gOp pSub (gVar 2) (gOp pPow (gC (.int 10)) (gC (.int 18)))) (aCons (gC (.bl true)) aNil)))) sNext)
  (sRet (gLstD (aCons (gOp pMod (gVar 2) (gC (.int 2147483647))) (aCons (gC (.bl false)) aNil))))))
def f__law_state : List U → R U := runF .O 3 b__law_state
abbrev G__law_take : Gm := ⟨[true, false, false, false], true⟩
def b__law_take : Ev → SR := (sSeq (sIf (gB (gOp pIx (gVar 0) (gC (.int 1)))) (sSeq (sSet 2 (gOp pMod (gOp pIx (gVar 0) (gC (.int 0))) (gVar 1)))
  (sSeq (sSetI 0 (gOp pFdiv (gOp pIx (gVar 0) (gC (.int 0))) (gVar 1)) (gC (.int 0)))
  (sRet (gVar 2)))) sNext)
  (sSeq (sSetI 0 (gOp pMod (gOp pAdd (gOp pMulI (gOp pIx (gVar 0) (gC (.int 0))) (gC (.int 48271))) (gC (.int 29))) (gC (.int 2147483647))) (gC (.int 0)))
  (sSeq (sSet 3 (gOp pMod (gOp pAdd (gOp pAdd (gOp pMulI (gOp pIx (gVar 0) (gC (.int 0))) (gOp pIx (gVar 0) (gC (.int 0)))) (gOp pMulI (gC (.int 39373)) (gOp pIx (gVar 0) (gC (.int 0))))) (gC (.int 7))) (gC (.int 2147483629))))
  (sSeq (sSet 3 (gOp pMod (gOp pAdd (gOp pMulI (gVar 3) (gVar 3)) (gOp pMulI (gC (.int 16807)) (gVar 3))) (gC (.int 2147483587))))
  (sRet (gOp pMod (gOp pFdiv (gVar 3) (gC (.int 8))) (gVar 1)))))))
def f__law_take : List U → R (U × U) := runI 4 b__law_take
abbrev G__law_order : Gm := ⟨[true, false, true], true⟩
def b__law_order : Ev → SR := (sSeq (sSet 2 (gRngL (aCons (gVar 1) aNil)))
  (sRet (gCB pTuple (aCons (gLCx G__law_order (gRng1 (aCons (gVar 1) aNil)) [none, some 2, some 0] (sgN 0) hYes (gM "list" 1 pPopAt (aCons (gCI 2 2 f__law_take (aCons (gCB pLen (aCons (gVar 1) aNil)) aNil)) aNil))) aNil))))
def f__law_order : List U → R (U × U) := runI 3 b__law_order
abbrev G__law_same : Gm := ⟨[false, false], false⟩
def b__law_same : Nat → Ev → SR
  | 0 => fun _ => .stk
  | n + 1 => let r__law_same := runF .S 2 (b__law_same n)
    (sSeq (sIf (gB (gInst2 "tuple" "list" (gVar 1))) (sSeq (sIf (hOr (gB (gOp (pEq not) (gInst "tuple" (gVar 0)) (gInst "tuple" (gVar 1)))) (gB (gOp (pEq not) (gInst "list" (gVar 0)) (gInst "list" (gVar 1))))) (sRet (gC (.bl false))) sNext)
  (sSeq (sIf (gB (gOp (pEq not) (gCB pLen (aCons (gVar 0) aNil)) (gCB pLen (aCons (gVar 1) aNil)))) (sRet (gC (.bl false))) sNext)
  (sRet (gCB pAll (aCons (gLCp (gZip (aCons (gVar 0) (aCons (gVar 1) aNil))) [none, none] (sgTup 2 (sgCons (sgN 0) (sgCons (sgN 1) sgNil))) hYes (gCF 2 r__law_same (aCons (gVar 0) (aCons (gVar 1) aNil)))) aNil))))) sNext)
  (sRet (gAnd (gOp (pEq id) (gVar 0) (gVar 1)) (gOp (pEq id) (gInst "bool" (gVar 0)) (gInst "bool" (gVar 1))))))
def f__law_same (n : Nat) : List U → R U := runF .S 2 (b__law_same n)
abbrev G__law_piles : Gm := ⟨[true, false, false, false, false], true⟩
def b__law_piles : Ev → SR := (sSeq (sSet 2 (gOp pAdd (gC (.int 1)) (gCI 2 0 f__law_take (aCons (gIf (gB (gOp pGt (gVar 1) (gC (.int 1)))) (gOp pIx (gLstD (aCons (gVar 1) (aCons (gC (.int 2)) aNil))) (gCI 2 0 f__law_take (aCons (gC (.int 2)) aNil))) (gC (.int 1))) aNil))))
  (sSeq (sSet 3 (gOp pAdd (gC (.int 1)) (gCI 2 0 f__law_take (aCons (gOp pFdiv (gVar 1) (gVar 2)) aNil))))
  (sSeq (sSet 4 (gCI 2 0 f__law_order (aCons (gVar 1) aNil)))
  (sRet (gCB pTuple (aCons (gLCp (gRng1 (aCons (gVar 3) aNil)) [none, some 4, some 2] (sgN 0) hYes (gSl pSl (gVar 1) (oSome (gOp pMulI (gVar 0) (gVar 2))) (oSome (gOp pAdd (gOp pMulI (gVar 0) (gVar 2)) (gVar 2))))) aNil))))))
def f__law_piles : List U → R (U × U) := runI 5 b__law_piles
abbrev G__law_moved : Gm := ⟨[false, false, false, true, false, false], false⟩
def b__law_moved : Ev → SR := (sSeq (sSet 3 gD0)
  (sSeq (sFor (gRng1 (aCons (gCB pLen (aCons (gVar 1) aNil)) aNil)) (sgN 4)
  (sFor (gRng1 (aCons (gCB pLen (aCons (gOp pIx (gVar 1) (gVar 4)) aNil)) aNil)) (sgN 5)
  (sDPutU 3 (gOp pIx (gOp pIx (gVar 1) (gOp pIx (gVar 2) (gVar 4))) (gVar 5)) (gOp pIx (gOp pIx (gVar 1) (gVar 4)) (gVar 5)))))
  (sRet (gCB pTuple (aCons (gLCp (gRng1 (aCons (gVar 0) aNil)) [none, some 3] (sgN 0) hYes (gDget2 1 (gVar 0) (gVar 0))) aNil)))))
def f__law_moved : List U → R U := runF .S 6 b__law_moved
abbrev G__law_turns : Gm := ⟨[false, false, true, false], false⟩
def b__law_turns : Ev → SR := (sSeq (sSet 2 (gLstD aNil))
  (sSeq (sFor (gRng1 (aCons (gCB pLen (aCons (gVar 1) aNil)) aNil)) (sgN 3)
  (sExpr (gM "list" 2 pAppend (aCons (gLCp (gRng1 (aCons (gCB pLen (aCons (gVar 1) aNil)) aNil)) [none, some 3, some 1] (sgN 0) hYes (gOp pMod (gOp pAdd (gVar 0) (gVar 1)) (gCB pLen (aCons (gVar 2) aNil)))) aNil))))
  (sRet (gCB pTuple (aCons (gLCp (gSeq (gVar 2)) [none, some 0, some 1] (sgN 0) hYes (gCF 3 f__law_moved (aCons (gVar 1) (aCons (gVar 2) (aCons (gVar 0) aNil))))) aNil)))))
def f__law_turns : List U → R U := runF .S 4 b__law_turns
abbrev G__law_rows : Gm := ⟨[false, true, false], false⟩
def b__law_rows : Nat → Ev → SR
  | 0 => fun _ => .stk
  | n + 1 => let r__law_rows := runF .O 3 (b__law_rows n)
    (sSeq (sIf (gB (gOp (pEq id) (gVar 0) (gLstD aNil))) (sRet (gLstD (aCons (gLstD aNil) aNil))) sNext)
  (sSeq (sSet 1 (gLstD aNil))
  (sSeq (sFor (gSeq (gVar 0)) (sgN 2)
  (sExpr (gM "list" 1 pExtend (aCons (gLCp (gSeq (gCF 1 r__law_rows (aCons (gLCp (gSeq (gVar 0)) [none, some 2] (sgN 0) (gB (gOp (pEq not) (gVar 0) (gVar 1))) (gVar 0)) aNil))) [none, some 2] (sgN 0) hYes (gOp pAdd (gLstD (aCons (gVar 1) aNil)) (gVar 0))) aNil))))
  (sRet (gVar 1)))))
def f__law_rows (n : Nat) : List U → R U := runF .O 3 (b__law_rows n)
def f__law_told : List U → R U := fun us => match us with
  | [_, p] => match pLen [p] with
    | .ok (.int n) => if 4 < n then .ok (.str "many") else f_pile_mix us
    | _ => .stk
  | _ => .stk
abbrev G_law : Gm := ⟨[false, false, true, false, false, false, false], false⟩
def b_law : Ev → SR := (sSeq (sFor (gRng1 (aCons (gCB pMax2 (aCons (gC (.int 1)) (aCons (gCB pMin2 (aCons (gCB pLen (aCons (gVar 0) aNil)) (aCons (gC (.int 4)) aNil))) aNil))) aNil)) (sgN 1)
  (sSeq (sSet 2 (gCF 2 f__law_state (aCons (gVar 0) (aCons (gVar 1) aNil))))
  (sSeq (sSet 3 (gOp pAdd (gC (.int 1)) (gCI 2 2 f__law_take (aCons (gC (.int 8)) aNil))))
  (sSeq (sSet 4 (gSl pSl (gCI 2 2 f__law_order (aCons (gVar 3) aNil)) oNone (oSome (gOp pAdd (gC (.int 1)) (gCI 2 2 f__law_take (aCons (gVar 3) aNil))))))
  (sSeq (sIf (hNot (gB (gCF 2 (f__law_same 20) (aCons (gCF 2 f_cut (aCons (gVar 3) (aCons (gVar 4) aNil))) (aCons (gCF 2 f__law_turns (aCons (gVar 3) (aCons (gCB pTuple (aCons (gLCp (gSeq (gVar 4)) [none] (sgN 0) hYes (gTupD (aCons (gVar 0) aNil))) aNil)) aNil))) aNil))))) (sRet (gC (.bl false))) sNext)
  (sFor (gSeq (gLstD (aCons (gCI 2 2 f__law_piles (aCons (gVar 3) aNil)) (aCons (gCI 2 2 f__law_piles (aCons (gVar 3) aNil)) aNil)))) (sgN 5)
  (sSeq (sIf (hNot (gB (gCF 2 (f__law_same 20) (aCons (gCF 2 f_pile_cut (aCons (gVar 3) (aCons (gVar 5) aNil))) (aCons (gCF 2 f__law_turns (aCons (gVar 3) (aCons (gVar 5) aNil))) aNil))))) (sRet (gC (.bl false))) sNext)
  (sSeq (sSet 6 (gC (.str "many")))
  (sSeq (sIf (gB (gOp pLt (gCB pLen (aCons (gVar 5) aNil)) (gC (.int 5)))) (sSet 6 (gCB pTuple (aCons (gLCp (gSeq (gCF 1 (f__law_rows 20) (aCons (gRngL (aCons (gCB pLen (aCons (gVar 5) aNil)) aNil)) aNil))) [none, some 3, some 5] (sgN 0) hYes (gCF 3 f__law_moved (aCons (gVar 1) (aCons (gVar 2) (aCons (gVar 0) aNil))))) aNil))) sNext)
  (sIf (hNot (gB (gCF 2 (f__law_same 20) (aCons (gCF 2 f__law_told (aCons (gVar 3) (aCons (gVar 5) aNil))) (aCons (gVar 6) aNil))))) (sRet (gC (.bl false))) sNext))))))))))
  (sRet (gC (.bl true))))
def f_law : List U → R U := runF .S 7 b_law
end Hc
end
end
section
set_option Elab.async false
set_option linter.all false
set_option maxRecDepth 100000
set_option maxHeartbeats 4000000
namespace Hc
open PySem L2
def top (i : Nat) : Stmt := PySem.Challenge.pw_hushcards_k15_cuts_and_piles.main.body.getD i (.Pass ⟨0, 0, 0, 0⟩)
abbrev sExchanged : Stmt := top 11
abbrev sPileCut : Stmt := top 12
abbrev sCut : Stmt := top 13
abbrev sArrangements : Stmt := top 14
abbrev sPileMix : Stmt := top 15
abbrev sLawCellAt : Stmt := top 17
abbrev sLawState : Stmt := top 18
abbrev sLawTake : Stmt := top 19
abbrev sLawOrder : Stmt := top 20
abbrev sLawMark : Stmt := top 21
abbrev sLawSame : Stmt := top 22
abbrev sLawPiles : Stmt := top 23
abbrev sLawMoved : Stmt := top 24
abbrev sLawTurns : Stmt := top 25
abbrev sLawRows : Stmt := top 26
abbrev sLawTold : Stmt := top 27
abbrev sLaw : Stmt := top 28
theorem sc_exchanged : FnScope ["many", "piles", "sources", "order", "pile", "source", "place", "origin"] ["many", "piles", "sources"] (defScope sExchanged) := ⟨rfl, rfl, rfl, by decide +kernel, rfl, by decide +kernel, by decide +kernel⟩
theorem bd_exchanged (kV doc pm : Value) (an : Option Addr) (cdv ct : Value) (us : List Value) (hl : us.length = (["many", "piles", "sources"] : List Str).length) : bindArgs (PySem.W.fnOf "exchanged" "exchanged" (defArgs sExchanged) (defBody sExchanged) (defScope sExchanged) .none kV doc pm an cdv ct) ⟨us, []⟩ = pure ((["many", "piles", "sources"] : List Str).zip us) := match us, hl with | [_, _, _], _ => rfl
theorem sc_pile_cut : FnScope ["many", "piles", "numbers"] ["many", "piles"] (defScope sPileCut) := ⟨rfl, rfl, rfl, by decide +kernel, rfl, by decide +kernel, by decide +kernel⟩
theorem bd_pile_cut (kV doc pm : Value) (an : Option Addr) (cdv ct : Value) (us : List Value) (hl : us.length = (["many", "piles"] : List Str).length) : bindArgs (PySem.W.fnOf "pile_cut" "pile_cut" (defArgs sPileCut) (defBody sPileCut) (defScope sPileCut) .none kV doc pm an cdv ct) ⟨us, []⟩ = pure ((["many", "piles"] : List Str).zip us) := match us, hl with | [_, _], _ => rfl
theorem sc_cut : FnScope ["many", "places"] ["many", "places"] (defScope sCut) := ⟨rfl, rfl, rfl, by decide +kernel, rfl, by decide +kernel, by decide +kernel⟩
theorem bd_cut (kV doc pm : Value) (an : Option Addr) (cdv ct : Value) (us : List Value) (hl : us.length = (["many", "places"] : List Str).length) : bindArgs (PySem.W.fnOf "cut" "cut" (defArgs sCut) (defBody sCut) (defScope sCut) .none kV doc pm an cdv ct) ⟨us, []⟩ = pure ((["many", "places"] : List Str).zip us) := match us, hl with | [_, _], _ => rfl
theorem sc_arrangements : FnScope ["numbers", "told", "number", "rest"] ["numbers"] (defScope sArrangements) := ⟨rfl, rfl, rfl, by decide +kernel, rfl, by decide +kernel, by decide +kernel⟩
theorem bd_arrangements (kV doc pm : Value) (an : Option Addr) (cdv ct : Value) (us : List Value) (hl : us.length = (["numbers"] : List Str).length) : bindArgs (PySem.W.fnOf "arrangements" "arrangements" (defArgs sArrangements) (defBody sArrangements) (defScope sArrangements) .none kV doc pm an cdv ct) ⟨us, []⟩ = pure ((["numbers"] : List Str).zip us) := match us, hl with | [_], _ => rfl
theorem sc_pile_mix : FnScope ["many", "piles"] ["many", "piles"] (defScope sPileMix) := ⟨rfl, rfl, rfl, by decide +kernel, rfl, by decide +kernel, by decide +kernel⟩
theorem bd_pile_mix (kV doc pm : Value) (an : Option Addr) (cdv ct : Value) (us : List Value) (hl : us.length = (["many", "piles"] : List Str).length) : bindArgs (PySem.W.fnOf "pile_mix" "pile_mix" (defArgs sPileMix) (defBody sPileMix) (defScope sPileMix) .none kV doc pm an cdv ct) ⟨us, []⟩ = pure ((["many", "piles"] : List Str).zip us) := match us, hl with | [_, _], _ => rfl
theorem sc__law_cell_at : FnScope ["script", "k"] ["script", "k"] (defScope sLawCellAt) := ⟨rfl, rfl, rfl, by decide +kernel, rfl, by decide +kernel, by decide +kernel⟩
theorem bd__law_cell_at (kV doc pm : Value) (an : Option Addr) (cdv ct : Value) (us : List Value) (hl : us.length = (["script", "k"] : List Str).length) : bindArgs (PySem.W.fnOf "_law_cell_at" "_law_cell_at" (defArgs sLawCellAt) (defBody sLawCellAt) (defScope sLawCellAt) .none kV doc pm an cdv ct) ⟨us, []⟩ = pure ((["script", "k"] : List Str).zip us) := match us, hl with | [_, _], _ => rfl
theorem sc__law_state : FnScope ["script", "k", "cell"] ["script", "k"] (defScope sLawState) := ⟨rfl, rfl, rfl, by decide +kernel, rfl, by decide +kernel, by decide +kernel⟩
theorem bd__law_state (kV doc pm : Value) (an : Option Addr) (cdv ct : Value) (us : List Value) (hl : us.length = (["script", "k"] : List Str).length) : bindArgs (PySem.W.fnOf "_law_state" "_law_state" (defArgs sLawState) (defBody sLawState) (defScope sLawState) .none kV doc pm an cdv ct) ⟨us, []⟩ = pure ((["script", "k"] : List Str).zip us) := match us, hl with | [_, _], _ => rfl
theorem sc__law_take : FnScope ["state", "many", "found", "mixed"] ["state", "many"] (defScope sLawTake) := ⟨rfl, rfl, rfl, by decide +kernel, rfl, by decide +kernel, by decide +kernel⟩
theorem bd__law_take (kV doc pm : Value) (an : Option Addr) (cdv ct : Value) (us : List Value) (hl : us.length = (["state", "many"] : List Str).length) : bindArgs (PySem.W.fnOf "_law_take" "_law_take" (defArgs sLawTake) (defBody sLawTake) (defScope sLawTake) .none kV doc pm an cdv ct) ⟨us, []⟩ = pure ((["state", "many"] : List Str).zip us) := match us, hl with | [_, _], _ => rfl
theorem sc__law_order : FnScope ["state", "many", "left"] ["state", "many"] (defScope sLawOrder) := ⟨rfl, rfl, rfl, by decide +kernel, rfl, by decide +kernel, by decide +kernel⟩
theorem bd__law_order (kV doc pm : Value) (an : Option Addr) (cdv ct : Value) (us : List Value) (hl : us.length = (["state", "many"] : List Str).length) : bindArgs (PySem.W.fnOf "_law_order" "_law_order" (defArgs sLawOrder) (defBody sLawOrder) (defScope sLawOrder) .none kV doc pm an cdv ct) ⟨us, []⟩ = pure ((["state", "many"] : List Str).zip us) := match us, hl with | [_, _], _ => rfl
theorem sc__law_mark : FnScope ["e", "marks"] ["e"] (defScope sLawMark) := ⟨rfl, rfl, rfl, by decide +kernel, rfl, by decide +kernel, by decide +kernel⟩
theorem bd__law_mark (kV doc pm : Value) (an : Option Addr) (cdv ct : Value) (us : List Value) (hl : us.length = (["e"] : List Str).length) : bindArgs (PySem.W.fnOf "_law_mark" "_law_mark" (defArgs sLawMark) (defBody sLawMark) (defScope sLawMark) .none kV doc pm an cdv ct) ⟨us, []⟩ = pure ((["e"] : List Str).zip us) := match us, hl with | [_], _ => rfl
theorem sc__law_same : FnScope ["found", "due"] ["found", "due"] (defScope sLawSame) := ⟨rfl, rfl, rfl, by decide +kernel, rfl, by decide +kernel, by decide +kernel⟩
theorem bd__law_same (kV doc pm : Value) (an : Option Addr) (cdv ct : Value) (us : List Value) (hl : us.length = (["found", "due"] : List Str).length) : bindArgs (PySem.W.fnOf "_law_same" "_law_same" (defArgs sLawSame) (defBody sLawSame) (defScope sLawSame) .none kV doc pm an cdv ct) ⟨us, []⟩ = pure ((["found", "due"] : List Str).zip us) := match us, hl with | [_, _], _ => rfl
theorem sc__law_piles : FnScope ["state", "many", "size", "count", "places"] ["state", "many"] (defScope sLawPiles) := ⟨rfl, rfl, rfl, by decide +kernel, rfl, by decide +kernel, by decide +kernel⟩
theorem bd__law_piles (kV doc pm : Value) (an : Option Addr) (cdv ct : Value) (us : List Value) (hl : us.length = (["state", "many"] : List Str).length) : bindArgs (PySem.W.fnOf "_law_piles" "_law_piles" (defArgs sLawPiles) (defBody sLawPiles) (defScope sLawPiles) .none kV doc pm an cdv ct) ⟨us, []⟩ = pure ((["state", "many"] : List Str).zip us) := match us, hl with | [_, _], _ => rfl
theorem sc__law_moved : FnScope ["many", "piles", "row", "found", "k", "j"] ["many", "piles", "row"] (defScope sLawMoved) := ⟨rfl, rfl, rfl, by decide +kernel, rfl, by decide +kernel, by decide +kernel⟩
theorem bd__law_moved (kV doc pm : Value) (an : Option Addr) (cdv ct : Value) (us : List Value) (hl : us.length = (["many", "piles", "row"] : List Str).length) : bindArgs (PySem.W.fnOf "_law_moved" "_law_moved" (defArgs sLawMoved) (defBody sLawMoved) (defScope sLawMoved) .none kV doc pm an cdv ct) ⟨us, []⟩ = pure ((["many", "piles", "row"] : List Str).zip us) := match us, hl with | [_, _, _], _ => rfl
theorem sc__law_turns : FnScope ["many", "piles", "rows", "turn"] ["many", "piles"] (defScope sLawTurns) := ⟨rfl, rfl, rfl, by decide +kernel, rfl, by decide +kernel, by decide +kernel⟩
theorem bd__law_turns (kV doc pm : Value) (an : Option Addr) (cdv ct : Value) (us : List Value) (hl : us.length = (["many", "piles"] : List Str).length) : bindArgs (PySem.W.fnOf "_law_turns" "_law_turns" (defArgs sLawTurns) (defBody sLawTurns) (defScope sLawTurns) .none kV doc pm an cdv ct) ⟨us, []⟩ = pure ((["many", "piles"] : List Str).zip us) := match us, hl with | [_, _], _ => rfl
theorem sc__law_rows : FnScope ["left", "found", "one"] ["left"] (defScope sLawRows) := ⟨rfl, rfl, rfl, by decide +kernel, rfl, by decide +kernel, by decide +kernel⟩
theorem bd__law_rows (kV doc pm : Value) (an : Option Addr) (cdv ct : Value) (us : List Value) (hl : us.length = (["left"] : List Str).length) : bindArgs (PySem.W.fnOf "_law_rows" "_law_rows" (defArgs sLawRows) (defBody sLawRows) (defScope sLawRows) .none kV doc pm an cdv ct) ⟨us, []⟩ = pure ((["left"] : List Str).zip us) := match us, hl with | [_], _ => rfl
theorem sc__law_told : FnScope ["many", "piles", "e"] ["many", "piles"] (defScope sLawTold) := ⟨rfl, rfl, rfl, by decide +kernel, rfl, by decide +kernel, by decide +kernel⟩
theorem bd__law_told (kV doc pm : Value) (an : Option Addr) (cdv ct : Value) (us : List Value) (hl : us.length = (["many", "piles"] : List Str).length) : bindArgs (PySem.W.fnOf "_law_told" "_law_told" (defArgs sLawTold) (defBody sLawTold) (defScope sLawTold) .none kV doc pm an cdv ct) ⟨us, []⟩ = pure ((["many", "piles"] : List Str).zip us) := match us, hl with | [_, _], _ => rfl
theorem sc_law : FnScope ["script", "k", "state", "many", "places", "piles", "due"] ["script"] (defScope sLaw) := ⟨rfl, rfl, rfl, by decide +kernel, rfl, by decide +kernel, by decide +kernel⟩
theorem bd_law (kV doc pm : Value) (an : Option Addr) (cdv ct : Value) (us : List Value) (hl : us.length = (["script"] : List Str).length) : bindArgs (PySem.W.fnOf "law" "law" (defArgs sLaw) (defBody sLaw) (defScope sLaw) .none kV doc pm an cdv ct) ⟨us, []⟩ = pure ((["script"] : List Str).zip us) := match us, hl with | [_], _ => rfl
structure Txt (mg : Str → Option Value) : Prop where
  z_all : mg "all" = none
  z_bool : mg "bool" = none
  z_isinstance : mg "isinstance" = none
  z_len : mg "len" = none
  z_list : mg "list" = none
  z_max : mg "max" = none
  z_min : mg "min" = none
  z_range : mg "range" = none
  z_tuple : mg "tuple" = none
  z_zip : mg "zip" = none
  g_MOST_PILES_MIXED : ∃ tk, mg "MOST_PILES_MIXED" = some (.int 4 tk)
end Hc
end
section
set_option autoImplicit false
set_option Elab.async false
set_option linter.all false
set_option maxRecDepth 100000
set_option maxHeartbeats 4000000
namespace Hc
open PySem L2
abbrev MS : List (Str × Bool) := [("NoPlan", false), ("NoWay", false), ("NoEnd", false), ("NoFormula", false), ("TooMany", true), ("NoName", false), ("BadNote", false)]
section
variable {P : Program} {w : World} {K : PySem.W.Frag} {mg : Str → Option Value} {base : Heap} {C : Addr}
def pPM : List U → Prop := fun us => ∃ ρ', gB (gOp pGt (gCB pLen (aCons (gVar 1) aNil)) (gC (.int 4))) (ev0 2 us) = .ok (true, ρ')
theorem raise_pile_mix (T : Txt mg) (XT : XTxt K mg C "TooMany" MS) (d : Df K mg "pile_mix" sPileMix) : ∃ (f : Addr) (fd : FuncData), mg "pile_mix" = some (.ref f) ∧ PySem.W.keepIn K (.ref f) = true ∧ Binds K fd ["many", "piles"] [] ∧ FnOk P w K mg base (CXF P w C) 1 f fd ["many", "piles"] (spR K 2 C pPM) := by
  obtain ⟨tk, g_MOST⟩ := T.g_MOST_PILES_MIXED
  obtain ⟨f, fd, m, F⟩ := d.ex
  refine ⟨f, fd, m, F.kp, F.binds bd_pile_mix, ?_⟩
  obtain ⟨oc, od, kV, doc, pm, an, cdv, ct, osl, rfl, lk, hcd⟩ := F.ex
  refine fn_of lk hcd sc_pile_mix (fun vs H Q E ⟨us, A, r, _, l, _⟩ => by rw [← r.length]; exact l) fun A outer s H vs Q E hr ⟨us, A0, r, mu, l, ⟨ρ', ht⟩, hE⟩ => ?_
  have hh : A.handled = none := hr.hd
  refine ⟨_, pss_cons (ps_ifD G_pile_mix (dt_cmp op_gt fit_gt (de_callB call_len fit_len (by rfl) T.z_len bt_len (da_cons (de_v 1) da_nil)) (de_globI (i := 4) rfl g_MOST) (nomark _)) (pss_one (ps_raise XT.cls XT.exc hh (pa_cons (pe_fs (pe_glob (v := .int 4) rfl g_MOST ⟨_, rfl⟩)) pa_nil))) pss_nil) pss_never, ?_⟩
  have rl := rel_start (G := G_pile_mix) (N := ["many", "piles"]) r mu rfl (fun i hi => by rw [l] at hi; match i, hi with | 0, _ => rfl | 1, _ => rfl)
  refine ⟨⟨A0, H, 0⟩, A0, _, rl, ?_⟩
  have ht' : gB (gOp pGt (gCB pLen (aCons (gVar 1) aNil)) (gC (.int 4))) (ev0 (["many", "piles"] : List Str).length us) = .ok (true, ρ') := ht
  rw [ht']
  intro H' q ex sm
  rw [if_pos rfl]
  exact ⟨4, rfl, by decide, by decide +kernel, fun y => ⟨(by decide : 1 ≤ sizeLine), hE H' (sm rfl).2⟩⟩
theorem iteN {k : Bool} {A B : Prop} (hk : k = false) (h : B) : if k = true then A else B := by
  subst hk; exact h
theorem ok_mark (T : Txt mg) (XT : XTxt K mg C "TooMany" MS) (d : Df K mg "_law_mark" sLawMark) : ∃ (f : Addr) (fd : FuncData), mg "_law_mark" = some (.ref f) ∧ PySem.W.keepIn K (.ref f) = true ∧ Binds K fd ["e"] [] ∧ FnOkH P w K mg base CX0 1 f fd ["e"] (spMark C "many") := by
  obtain ⟨f, fd, m, F⟩ := d.ex
  refine ⟨f, fd, m, F.kp, F.binds bd__law_mark, ?_⟩
  obtain ⟨oc, od, kV, doc, pm, an, cdv, ct, osl, rfl, lk, hcd⟩ := F.ex
  have Z := XT.ec
  have m1 := XT.marks ("NoPlan", false) (by simp)
  have m2 := XT.marks ("NoWay", false) (by simp)
  have m3 := XT.marks ("NoEnd", false) (by simp)
  have m4 := XT.marks ("NoFormula", false) (by simp)
  have m5 := XT.marks ("TooMany", true) (by simp)
  have m6 := XT.marks ("NoName", false) (by simp)
  have m7 := XT.marks ("BadNote", false) (by simp)
  refine fn_ofH (N := ["e", "marks"]) lk hcd sc__law_mark (fun vs H Q E ⟨ea, e, _⟩ => by rw [e]; rfl) fun A outer s H vs Q E hr ⟨ea, e, hx, hq⟩ => ?_
  subst e
  refine ⟨_, pss_cons (ps_if (pt_not (pt_val (pe_instV (i := 0) (C := C) (b := true) Z T.z_isinstance XT.zve XT.ve))) (pss_one (ps_ret pe_str)) pss_nil)
    (pss_cons (ps_set (i := 1) sc__law_mark.nd rfl (Or.inl rfl) (pe_lst (pa_cons (pe_instE (i := 0) (C := C) Z T.z_isinstance m1) (pa_cons (pe_instE (i := 0) (C := C) Z T.z_isinstance m2) (pa_cons (pe_instE (i := 0) (C := C) Z T.z_isinstance m3) (pa_cons (pe_instE (i := 0) (C := C) Z T.z_isinstance m4) pa_nil))))))
    (pss_cons (ps_set (i := 1) sc__law_mark.nd rfl (Or.inl rfl) (pe_op op_cat (pv 1) (pe_lst (pa_cons (pe_instE (i := 0) (C := C) Z T.z_isinstance m5) (pa_cons (pe_instE (i := 0) (C := C) Z T.z_isinstance m6) (pa_cons (pe_instE (i := 0) (C := C) Z T.z_isinstance m7) pa_nil))))))
    (pss_cons (ps_if (pt_cmpR op_ne (pe_bm PySem.F.plainAttrs_list PySem.F.slot_list_count PySem.F.type_list_count mt_countL (pv 1) (pa_cons pe_bl pa_nil)) pe_int (nomark _)) (pss_one (ps_ret pe_str)) pss_nil)
    (pss_one (ps_ret (pe_ix ix_list (pe_lst (pa_cons pe_str (pa_cons pe_str (pa_cons pe_str (pa_cons pe_str (pa_cons pe_str (pa_cons pe_str (pa_cons pe_str pa_nil)))))))) (pe_bm PySem.F.plainAttrs_list PySem.F.slot_list_index PySem.F.type_list_index mt_indexL (pv 1) (pa_cons pe_bl pa_nil)) (fun _ _ => rfl))))))), ?_⟩
  refine ⟨ea, rfl, hx, true, rfl, L2.iteF ?_⟩
  refine ⟨ea, rfl, hx, ea, rfl, hx, ea, rfl, hx, ea, rfl, hx, (by decide : 4 ≤ sizeLine), fun p1 n1 => ?_⟩
  have s1 : Same H (upd H p1 (.lst [.bl false, .bl false, .bl false, .bl false])) := Same.updN (fun _ _ e => e) n1
  have hx1 := s1 _ _ hx
  refine ⟨.ref p1, rfl, ea, rfl, hx1, ea, rfl, hx1, ea, rfl, hx1, (by decide : 3 ≤ sizeLine), fun p2 n2 => ?_⟩
  have s2 := s1.updN (o := .lst [.bl true, .bl false, .bl false]) n2
  have h12 : upd (upd H p1 (.lst [.bl false, .bl false, .bl false, .bl false])) p2 (.lst [.bl true, .bl false, .bl false]) p1 = some (.lst [.bl false, .bl false, .bl false, .bl false]) := by
    rw [upd_ne (ne_of_none (upd_same) n2)]; exact upd_same
  refine ⟨p1, p2, [.bl false, .bl false, .bl false, .bl false], [.bl true, .bl false, .bl false], rfl, rfl, h12, upd_same, (by decide : 7 ≤ sizeLine), fun p3 n3 => ?_⟩
  have s3 := s2.updN (o := .lst [.bl false, .bl false, .bl false, .bl false, .bl true, .bl false, .bl false]) n3
  refine ⟨.ref p3, rfl, .inl ⟨rfl, _, .inl (.inl upd_same)⟩, p3, _, .bl true, rfl, rfl, upd_same, rfl, rfl, ?_⟩
  refine ⟨rfl, _, rfl, iteN (by decide +kernel) ?_⟩
  refine ⟨(by decide : 7 ≤ sizeLine), fun p4 n4 => ?_⟩
  have s4 := s3.updN (o := .lst [.str "plan", .str "way", .str "end", .str "formula", .str "many", .str "name", .str "note"]) n4
  have h3 : ∀ (H0 : Hp) (o o' : HO), (upd H0 p3 o) p4 = none → upd (upd H0 p3 o) p4 o' p3 = some o := fun H0 o o' n => (upd_ne (ne_of_none (upd_same) n)).trans upd_same
  refine ⟨.ref p3, rfl, .inl ⟨rfl, _, .inl (.inl (h3 _ _ _ n4))⟩, p3, _, .bl true, 4, rfl, rfl, h3 _ _ _ n4, rfl, rfl, by decide, rfl, ?_, ?_⟩
  · intro m hm
    match m, hm with
    | 0, _ => rfl
    | 1, _ => rfl
    | 2, _ => rfl
    | 3, _ => rfl
  · exact ⟨p4, _, 4, .str "many", rfl, rfl, .inl (.inl upd_same), rfl, hq _ s4⟩
theorem RoomH.mark {k : Nat} {A : Around} (e : Option Value) (r : Room k A) : RoomH k (A.mark e) := ⟨r.dp, r.un⟩
theorem RoomH.mono1 {k : Nat} {A : Around} (r : RoomH k A) (h : 1 ≤ k) : RoomH 1 A := ⟨by have := r.dp; omega, by have := r.un; omega⟩
theorem told_ok (T : Txt mg) (XT : XTxt K mg C "TooMany" MS) (F_pile_mix : Fn P w K mg base "pile_mix" 22 ["many", "piles"] (spD K 2 f_pile_mix .S)) (d1 : Df K mg "pile_mix" sPileMix) (d2 : Df K mg "_law_mark" sLawMark) (d : Df K mg "_law_told" sLawTold) : Fn P w K mg base "_law_told" 23 ["many", "piles"] (spD K 2 f__law_told .S) := by
  obtain ⟨f1, fd1, a1, b1, c1, F1⟩ := raise_pile_mix (P := P) (w := w) (base := base) T XT d1
  obtain ⟨f2, fd2, a2, b2, c2, F2⟩ := ok_mark (P := P) (w := w) (base := base) T XT d2
  obtain ⟨cc, hc, hex⟩ := XT.card
  have hl : ∀ (us : List U) (A : Addr → Prop) (H : Hp) (Q : VK), FitF K .S A H (fnN 2 f__law_told us) Q → us.length = 2 := fun us A H Q h => by
    unfold fnN at h
    split at h
    · assumption
    · exact h.elim
  refine Df.fn (N := ["many", "piles", "e"]) (k := 22) d sc__law_told bd__law_told (fun vs H Q E ⟨us, A, r, _, h⟩ => by rw [← r.length]; exact hl us A H Q h) fun f cdv A outer s H vs Q E hr ⟨us, A0, r, mu, h⟩ => ?_
  have l := hl us A0 H Q h
  have own : ∀ i, i < 2 → (⟨[false, false, false], false⟩ : Gm).is i = false := fun i hi => match i, hi with | 0, _ => rfl | 1, _ => rfl
  match us, l with
  | [um, up], _ =>
    have h : FitF K .S A0 H (f__law_told [um, up]) Q := h
    unfold f__law_told at h
    dsimp only at h
    split at h
    · rename_i n hn
      split at h
      · rename_i big
        refine ⟨_, pss_one (ps_tryR (i := 2) F1 (hr.mono (by decide)) a1 b1 c1 rfl rfl hc hex sc__law_told.nd (pa_cons (pv 0) (pa_cons (pv 1) pa_nil)) (fun ea => pss_one (ps_ret (pe_callH F2 (RoomH.mono1 (RoomH.mark _ hr) (by decide)) a2 b2 c2 (pa_cons (pv 2) pa_nil))))), ?_⟩
        have pm : pPM [um, up] := by
          refine ⟨[some um, some up], ?_⟩
          have e1 : gCB pLen (aCons (gVar 1) aNil) [some um, some up] = (pLen [up]).bind fun z => .ok (z, [some um, some up]) := rfl
          show ((gCB pLen (aCons (gVar 1) aNil) [some um, some up]).bind fun x => (gC (.int 4) x.2).bind fun y => (pGt x.1 y.1).bind fun z => .ok (z, y.2)).bind (fun x => match x.1 with
            | .bl c => .ok (c, x.2)
            | _ => .stk) = R.ok (true, [some um, some up])
          rw [e1, hn]
          show R.ok (decide (4 < n), [some um, some up]) = R.ok (true, [some um, some up])
          rw [decide_eq_true big]
        unfold Rps at r
        obtain ⟨v0, vr, rfl, r0, r⟩ := r
        unfold Rps at r
        obtain ⟨v1, vr, rfl, r1, r⟩ := r
        unfold Rps at r
        subst r
        refine ⟨v0, rfl, v1, rfl, [um, up], A0, Rps.cons r0 (Rps.cons r1 Rps.nil), mu, rfl, pm, fun H' sm ea nea => ⟨.ref ea, rfl, ea, rfl, upd_same, fun H3 s3 => ?_⟩⟩
        exact h (.str "many") H3 (fun b o e => s3 b o ((sm.updN nea) b o e)) (show Rp K H3 A0 (.str "many") (.str "many") from rp_str)
      · rename_i small
        refine (body_D (ps := ["many", "piles"]) (N := ["many", "piles", "e"]) (st := sLawTold) (x := "_law_told") (k := 22) ⟨[false, false, false], false⟩ .S (sRet (gCF 2 f_pile_mix (aCons (gVar 0) (aCons (gVar 1) aNil)))) rfl own ?_).2 f cdv A outer s H vs Q E hr ⟨[um, up], A0, r, mu, ?_⟩
        · intro f cdv A outer s0 H E hr
          exact dss_one (ds_tryN (dss_one (ds_ret (de_callF F_pile_mix (hr.mono (by decide)) (da_cons (de_v 0) (da_cons (de_v 1) da_nil))))))
        · have e : fnN (["many", "piles"] : List Str).length (runF .S (["many", "piles", "e"] : List Str).length (sRet (gCF 2 f_pile_mix (aCons (gVar 0) (aCons (gVar 1) aNil))))) [um, up] = f_pile_mix [um, up] := by
            show runF .S 3 (sRet (gCF 2 f_pile_mix (aCons (gVar 0) (aCons (gVar 1) aNil)))) [um, up] = _
            have e1 : gCF 2 f_pile_mix (aCons (gVar 0) (aCons (gVar 1) aNil)) [some um, some up, none] = (f_pile_mix [um, up]).bind fun z => .ok (z, [some um, some up, none]) := rfl
            show (match SR.of (gCF 2 f_pile_mix (aCons (gVar 0) (aCons (gVar 1) aNil)) [some um, some up, none]) (fun x => .rt x.1 x.2) with
              | .rt u _ => R.ok u
              | .nx _ => if Md.S = Md.S then .ok .non else .stk
              | .exc c u => .exc c u
              | _ => .stk) = _
            rw [e1]
            cases f_pile_mix [um, up] <;> rfl
          rw [e]
          exact h
    · exact h.elim
end
end Hc
end
section
set_option Elab.async false
set_option linter.all false
set_option maxRecDepth 100000
set_option maxHeartbeats 4000000
namespace Hc
open PySem L2
section
variable {P : Program} {w : World} {K : PySem.W.Frag} {mg : Str → Option Value} {base : Heap}
theorem ok_exchanged (T : Txt mg)  (d_exchanged : Df K mg "exchanged" sExchanged) : Fn P w K mg base "exchanged" 1 ["many", "piles", "sources"] (spD K 3 f_exchanged .S) := by
  refine Df.fnD (N := ["many", "piles", "sources", "order", "pile", "source", "place", "origin"]) (ps := ["many", "piles", "sources"]) (st := sExchanged) (k := 0) G_exchanged .S b_exchanged d_exchanged sc_exchanged bd_exchanged rfl (by decide) ?_
  intro f cdv A outer s0 H E hr
  have hu := hr.units
  have hu1 := hu_of hr
  exact (dss_cons (ds_setO (i := 3) sc_exchanged.nd (de_rngL rfl (da_cons (de_v 0) da_nil) T.z_list T.z_range))
  (dss_cons (ds_for PassesOwn.never rfl (di_zip (da_cons (de_v 1) (da_cons (de_v 2) da_nil)) T.z_zip) (dg_tup rfl (dgs_cons (dg_name (i := 4) sc_exchanged.nd) (dgs_cons (dg_name (i := 5) sc_exchanged.nd) dgs_nil)))
  (dss_one (ds_for PassesOwn.never rfl (di_zip (da_cons (de_v 4) (da_cons (de_ix ix_seq fit_ix (de_v 1) (de_v 5) (fun _ _ => rfl)) da_nil)) T.z_zip) (dg_tup rfl (dgs_cons (dg_name (i := 6) sc_exchanged.nd) (dgs_cons (dg_name (i := 7) sc_exchanged.nd) dgs_nil)))
  (dss_one (ds_setI (i := 3) (de_v 7) (de_v 6))))))
  (dss_one (ds_ret (de_callTy call_tuple_of fit_tuple (by rfl) T.z_tuple bt_tuple (da_cons (de_own 3) da_nil))))))
theorem ok_pile_cut (T : Txt mg) (F_exchanged : Fn P w K mg base "exchanged" 1 ["many", "piles", "sources"] (spD K 3 f_exchanged .S)) (d_pile_cut : Df K mg "pile_cut" sPileCut) : Fn P w K mg base "pile_cut" 2 ["many", "piles"] (spD K 2 f_pile_cut .S) := by
  refine Df.fnD (N := ["many", "piles", "numbers"]) (ps := ["many", "piles"]) (st := sPileCut) (k := 1) G_pile_cut .S b_pile_cut d_pile_cut sc_pile_cut bd_pile_cut rfl (by decide) ?_
  intro f cdv A outer s0 H E hr
  have hu := hr.units
  have hu1 := hu_of hr
  exact (dss_cons (ds_set (i := 2) sc_pile_cut.nd (de_rngT rfl (da_cons (de_callB call_len fit_len (by rfl) T.z_len bt_len (da_cons (de_v 1) da_nil)) da_nil) T.z_tuple T.z_range))
  (dss_one (ds_ret (de_callTy call_tuple_of fit_tuple (by rfl) T.z_tuple bt_tuple (da_cons (de_lcp (defScope sPileCut) ["many", "piles", "numbers"] ["turn", "many", "piles", "numbers"] [none, some 0, some 1, some 2] rfl (di_seq (de_v 2)) (fun Y => ⟨(dg_name (i := 0) (show (["turn", "many", "piles", "numbers"] : List Str).Nodup by decide +kernel)), difs_nil, (de_callF F_exchanged (hr.mono (by first | decide | omega)) (da_cons (de_v 1) (da_cons (de_v 2) (da_cons (de_op op_add3 fit_add (de_slice sl_listR fit_sl (de_v 3) (do_some (de_v 0)) do_none) (de_slice sl_listR fit_sl (de_v 3) do_none (do_some (de_v 0)))) da_nil))))⟩)) da_nil)))))
theorem ok_cut (T : Txt mg) (F_pile_cut : Fn P w K mg base "pile_cut" 2 ["many", "piles"] (spD K 2 f_pile_cut .S)) (d_cut : Df K mg "cut" sCut) : Fn P w K mg base "cut" 3 ["many", "places"] (spD K 2 f_cut .S) := by
  refine Df.fnD (N := ["many", "places"]) (ps := ["many", "places"]) (st := sCut) (k := 2) G_cut .S b_cut d_cut sc_cut bd_cut rfl (by decide) ?_
  intro f cdv A outer s0 H E hr
  have hu := hr.units
  have hu1 := hu_of hr
  exact (dss_one (ds_ret (de_callF F_pile_cut (hr.mono (by first | decide | omega)) (da_cons (de_v 0) (da_cons (de_callTy call_tuple_of fit_tuple (by rfl) T.z_tuple bt_tuple (da_cons (de_lcp (defScope sCut) ["many", "places"] ["place"] [none] rfl (di_seq (de_v 1)) (fun Y => ⟨(dg_name (i := 0) (show (["place"] : List Str).Nodup by decide +kernel)), difs_nil, (de_tup (da_cons (de_v 0) da_nil))⟩)) da_nil)) da_nil)))))
theorem ok_arrangements (T : Txt mg)  (d_arrangements : Df K mg "arrangements" sArrangements) : ∀ n, Fn P w K mg base "arrangements" (n + 1) ["numbers"] (spD K 1 (f_arrangements n) .O) := by
  intro n
  induction n with
  | zero =>
    refine Df.fnD (N := ["numbers", "told", "number", "rest"]) (ps := ["numbers"]) (st := sArrangements) (k := 0) G_arrangements .O (b_arrangements 0) d_arrangements sc_arrangements bd_arrangements rfl (by decide) ?_
    intro f cdv A outer s0 H E hr
    have hu := hr.units
    have hu1 := hu_of hr
    exact dss_stk
  | succ n F_arrangements =>
    refine Df.fnD (N := ["numbers", "told", "number", "rest"]) (ps := ["numbers"]) (st := sArrangements) (k := n + 1) G_arrangements .O (b_arrangements (n + 1)) d_arrangements sc_arrangements bd_arrangements rfl (by decide) ?_
    intro f cdv A outer s0 H E hr
    have hu := hr.units
    have hu1 := hu_of hr
    exact (dss_cons (ds_if (dt_cmp (op_eqD hu) (fit_eq (f := id)) (de_callB call_len fit_len (by rfl) T.z_len bt_len (da_cons (de_v 0) da_nil)) de_int (nomark _)) (dss_one (ds_retO (de_lst (da_cons (de_tup da_nil) da_nil)))) dss_nil)
  (dss_cons (ds_setO (i := 1) sc_arrangements.nd (de_lst da_nil))
  (dss_cons (ds_for PassesOwn.never rfl (di_seq (de_v 0)) (dg_name (i := 2) sc_arrangements.nd)
  (dss_cons (ds_setLCp (i := 3) (defScope sArrangements) ["numbers", "told", "number", "rest"] ["other", "number"] [none, some 2] sc_arrangements.nd rfl (di_seq (de_v 0)) (fun Y => ⟨(dg_name (i := 0) (show (["other", "number"] : List Str).Nodup by decide +kernel)), (difs_one (dt_cmp (op_neD hu) (fit_eq (f := not)) (de_v 0) (de_v 1) (nomark _))), (de_v 0)⟩))
  (dss_one (ds_expr (de_mut (i := 1) PySem.F.plainAttrs_list PySem.F.slot_list_extend PySem.F.type_list_extend mt_ext2 fit_extend (da_cons (de_lcp (defScope sArrangements) ["numbers", "told", "number", "rest"] ["more", "number"] [none, some 2] rfl (di_seq (de_callF F_arrangements (hr.mono (by first | decide | omega)) (da_cons (de_v 3) da_nil))) (fun Y => ⟨(dg_name (i := 0) (show (["more", "number"] : List Str).Nodup by decide +kernel)), difs_nil, (de_op op_add3 fit_add (de_tup (da_cons (de_v 1) da_nil)) (de_v 0))⟩)) da_nil))))))
  (dss_one (ds_retV (i := 1) (hi := by decide))))))
theorem ok_pile_mix (T : Txt mg) (F_exchanged : Fn P w K mg base "exchanged" 1 ["many", "piles", "sources"] (spD K 3 f_exchanged .S)) (F_arrangements : ∀ n, Fn P w K mg base "arrangements" (n + 1) ["numbers"] (spD K 1 (f_arrangements n) .O)) (d_pile_mix : Df K mg "pile_mix" sPileMix) : Fn P w K mg base "pile_mix" 22 ["many", "piles"] (spD K 2 f_pile_mix .S) := by
  obtain ⟨tk_MOST_PILES_MIXED, g_MOST_PILES_MIXED⟩ := T.g_MOST_PILES_MIXED
  refine Df.fnD (N := ["many", "piles"]) (ps := ["many", "piles"]) (st := sPileMix) (k := 21) G_pile_mix .S b_pile_mix d_pile_mix sc_pile_mix bd_pile_mix rfl (by decide) ?_
  intro f cdv A outer s0 H E hr
  have hu := hr.units
  have hu1 := hu_of hr
  exact (dss_cons (ds_if (dt_cmp op_gt fit_gt (de_callB call_len fit_len (by rfl) T.z_len bt_len (da_cons (de_v 1) da_nil)) (de_globI (i := 4) rfl g_MOST_PILES_MIXED) (nomark _)) (dss_one (ds_exc fun _ => ⟨_, _, rfl⟩)) dss_nil)
  (dss_one (ds_ret (de_callTy call_tuple_of fit_tuple (by rfl) T.z_tuple bt_tuple (da_cons (de_lcp (defScope sPileMix) ["many", "piles"] ["sources", "many", "piles"] [none, some 0, some 1] rfl (di_seq (de_callF (F_arrangements 20) (hr.mono (by first | decide | omega)) (da_cons (de_rngL rfl (da_cons (de_callB call_len fit_len (by rfl) T.z_len bt_len (da_cons (de_v 1) da_nil)) da_nil) T.z_list T.z_range) da_nil))) (fun Y => ⟨(dg_name (i := 0) (show (["sources", "many", "piles"] : List Str).Nodup by decide +kernel)), difs_nil, (de_callF F_exchanged (hr.mono (by first | decide | omega)) (da_cons (de_v 1) (da_cons (de_v 2) (da_cons (de_v 0) da_nil))))⟩)) da_nil)))))
theorem ok__law_cell_at (T : Txt mg)  (d__law_cell_at : Df K mg "_law_cell_at" sLawCellAt) : Fn P w K mg base "_law_cell_at" 1 ["script", "k"] (spD K 2 f__law_cell_at .S) := by
  refine Df.fnD (N := ["script", "k"]) (ps := ["script", "k"]) (st := sLawCellAt) (k := 0) G__law_cell_at .S b__law_cell_at d__law_cell_at sc__law_cell_at bd__law_cell_at rfl (by decide) ?_
  intro f cdv A outer s0 H E hr
  have hu := hr.units
  have hu1 := hu_of hr
  exact (dss_cons (ds_if (dt_cmp op_lt fit_lt (de_v 1) (de_callB call_len fit_len (by rfl) T.z_len bt_len (da_cons (de_v 0) da_nil)) (nomark _)) (dss_one (ds_ret (de_ix ix_seq fit_ix (de_v 0) (de_v 1) (fun _ _ => rfl)))) dss_nil)
  (dss_one (ds_ret de_int)))
theorem ok__law_state (T : Txt mg) (F__law_cell_at : Fn P w K mg base "_law_cell_at" 1 ["script", "k"] (spD K 2 f__law_cell_at .S)) (d__law_state : Df K mg "_law_state" sLawState) : Fn P w K mg base "_law_state" 2 ["script", "k"] (spD K 2 f__law_state .O) := by
  refine Df.fnD (N := ["script", "k", "cell"]) (ps := ["script", "k"]) (st := sLawState) (k := 1) G__law_state .O b__law_state d__law_state sc__law_state bd__law_state rfl (by decide) ?_
  intro f cdv A outer s0 H E hr
  have hu := hr.units
  have hu1 := hu_of hr
  exact (dss_cons (ds_set (i := 2) sc__law_state.nd (de_callF F__law_cell_at (hr.mono (by first | decide | omega)) (da_cons (de_v 0) (da_cons (de_v 1) da_nil))))
  (dss_cons (ds_if (dt_cmp op_ge fit_ge (de_v 2) (de_op op_pow fit_pow de_int de_int) (nomark _)) (dss_one (ds_retO (de_lst (da_cons (de_op op_sub fit_sub (de_v 2) (de_op op_pow fit_pow de_int de_int)) (da_cons de_bl da_nil))))) dss_nil)
  (dss_one (ds_retO (de_lst (da_cons (de_op op_mod fit_mod (de_v 2) de_int) (da_cons de_bl da_nil)))))))
theorem ok__law_take (T : Txt mg)  (d__law_take : Df K mg "_law_take" sLawTake) : Fn P w K mg base "_law_take" 1 ["state", "many"] (spI K 2 f__law_take) := by
  refine Df.fnI (N := ["state", "many", "found", "mixed"]) (ps := ["state", "many"]) (st := sLawTake) (k := 0) G__law_take b__law_take d__law_take sc__law_take bd__law_take rfl rfl (by decide) ?_
  intro f cdv A outer s0 H E hr
  have hu := hr.units
  have hu1 := hu_of hr
  exact (dss_cons (ds_if (dt_val (de_ix ix_seq fit_ix (de_own 0) de_int (fun _ _ => rfl))) (dss_cons (ds_set (i := 2) sc__law_take.nd (de_op op_mod fit_mod (de_ix ix_seq fit_ix (de_own 0) de_int (fun _ _ => rfl)) (de_v 1)))
  (dss_cons (ds_setI (i := 0) (de_op op_fdiv64 fit_fdiv (de_ix ix_seq fit_ix (de_own 0) de_int (fun _ _ => rfl)) (de_v 1)) de_int)
  (dss_one (ds_ret (de_v 2))))) dss_nil)
  (dss_cons (ds_setI (i := 0) (de_op op_mod fit_mod (de_op op_add3 fit_add (de_op op_mul fit_mul (de_ix ix_seq fit_ix (de_own 0) de_int (fun _ _ => rfl)) de_int) de_int) de_int) de_int)
  (dss_cons (ds_set (i := 3) sc__law_take.nd (de_op op_mod fit_mod (de_op op_add3 fit_add (de_op op_add3 fit_add (de_op op_mul fit_mul (de_ix ix_seq fit_ix (de_own 0) de_int (fun _ _ => rfl)) (de_ix ix_seq fit_ix (de_own 0) de_int (fun _ _ => rfl))) (de_op op_mul fit_mul de_int (de_ix ix_seq fit_ix (de_own 0) de_int (fun _ _ => rfl)))) de_int) de_int))
  (dss_cons (ds_set (i := 3) sc__law_take.nd (de_op op_mod fit_mod (de_op op_add3 fit_add (de_op op_mul fit_mul (de_v 3) (de_v 3)) (de_op op_mul fit_mul de_int (de_v 3))) de_int))
  (dss_one (ds_ret (de_op op_mod fit_mod (de_op op_fdiv64 fit_fdiv (de_v 3) de_int) (de_v 1))))))))
theorem ok__law_order (T : Txt mg) (F__law_take : Fn P w K mg base "_law_take" 1 ["state", "many"] (spI K 2 f__law_take)) (d__law_order : Df K mg "_law_order" sLawOrder) : Fn P w K mg base "_law_order" 2 ["state", "many"] (spI K 2 f__law_order) := by
  refine Df.fnI (N := ["state", "many", "left"]) (ps := ["state", "many"]) (st := sLawOrder) (k := 1) G__law_order b__law_order d__law_order sc__law_order bd__law_order rfl rfl (by decide) ?_
  intro f cdv A outer s0 H E hr
  have hu := hr.units
  have hu1 := hu_of hr
  exact (dss_cons (ds_setO (i := 2) sc__law_order.nd (de_rngL rfl (da_cons (de_v 1) da_nil) T.z_list T.z_range))
  (dss_one (ds_ret (de_callTy call_tuple_of fit_tuple (by rfl) T.z_tuple bt_tuple (da_cons (de_lcx (defScope sLawOrder) ["state", "many", "left"] ["k", "left", "state"] [none, some 2, some 0] rfl (di_range1 (da_cons (de_v 1) da_nil) T.z_range) (fun Y => ⟨(dg_name (i := 0) (show (["k", "left", "state"] : List Str).Nodup by decide +kernel)), difs_nil, (de_mut (i := 1) PySem.F.plainAttrs_list PySem.F.slot_list_pop PySem.F.type_list_pop mt_popAt fit_popAt (da_cons (de_callI (i := 2) F__law_take (hr.mono (by first | decide | omega)) (da_cons (de_callB call_len fit_len (by rfl) T.z_len bt_len (da_cons (de_own 1) da_nil)) da_nil)) da_nil))⟩)) da_nil)))))
theorem ok__law_same (T : Txt mg)  (d__law_same : Df K mg "_law_same" sLawSame) : ∀ n, Fn P w K mg base "_law_same" (n + 1) ["found", "due"] (spD K 2 (f__law_same n) .S) := by
  intro n
  induction n with
  | zero =>
    refine Df.fnD (N := ["found", "due"]) (ps := ["found", "due"]) (st := sLawSame) (k := 0) G__law_same .S (b__law_same 0) d__law_same sc__law_same bd__law_same rfl (by decide) ?_
    intro f cdv A outer s0 H E hr
    have hu := hr.units
    have hu1 := hu_of hr
    exact dss_stk
  | succ n F__law_same =>
    refine Df.fnD (N := ["found", "due"]) (ps := ["found", "due"]) (st := sLawSame) (k := n + 1) G__law_same .S (b__law_same (n + 1)) d__law_same sc__law_same bd__law_same rfl (by decide) ?_
    intro f cdv A outer s0 H E hr
    have hu := hr.units
    have hu1 := hu_of hr
    exact (dss_cons (ds_if (dt_val (de_inst2 (T1 := "tuple") (T2 := "list") (by decide) (by decide) (de_v 1) T.z_isinstance T.z_tuple bt_tuple T.z_list bt_list)) (dss_cons (ds_if (DW.dt (dw_or (dt_cmp (op_neD hu) (fit_eq (f := not)) (de_inst (T := "tuple") (by decide) (de_v 0) T.z_isinstance T.z_tuple bt_tuple) (de_inst (T := "tuple") (by decide) (de_v 1) T.z_isinstance T.z_tuple bt_tuple) (nomark _)) (dw_or1 (dt_cmp (op_neD hu) (fit_eq (f := not)) (de_inst (T := "list") (by decide) (de_v 0) T.z_isinstance T.z_list bt_list) (de_inst (T := "list") (by decide) (de_v 1) T.z_isinstance T.z_list bt_list) (nomark _))))) (dss_one (ds_ret de_bl)) dss_nil)
  (dss_cons (ds_if (dt_cmp (op_neD hu) (fit_eq (f := not)) (de_callB call_len fit_len (by rfl) T.z_len bt_len (da_cons (de_v 0) da_nil)) (de_callB call_len fit_len (by rfl) T.z_len bt_len (da_cons (de_v 1) da_nil)) (nomark _)) (dss_one (ds_ret de_bl)) dss_nil)
  (dss_one (ds_ret (de_callB (call_allB rfl) fit_all (by rfl) T.z_all bt_all (da_cons (de_lcp (defScope sLawSame) ["found", "due"] ["one", "other"] [none, none] rfl (di_zip (da_cons (de_v 0) (da_cons (de_v 1) da_nil)) T.z_zip) (fun Y => ⟨(dg_tup rfl (dgs_cons (dg_name (i := 0) (show (["one", "other"] : List Str).Nodup by decide +kernel)) (dgs_cons (dg_name (i := 1) (show (["one", "other"] : List Str).Nodup by decide +kernel)) dgs_nil))), difs_nil, (de_callF F__law_same (hr.mono (by first | decide | omega)) (da_cons (de_v 0) (da_cons (de_v 1) da_nil)))⟩)) da_nil)))))) dss_nil)
  (dss_one (ds_ret (de_and (ha := (de_cmp (op_eqD hu) (fit_eq (f := id)) (de_v 0) (de_v 1) (nomark _))) (hb := (de_one (de_cmp (op_eqD hu) (fit_eq (f := id)) (de_inst (T := "bool") (by decide) (de_v 0) T.z_isinstance T.z_bool bt_bool) (de_inst (T := "bool") (by decide) (de_v 1) T.z_isinstance T.z_bool bt_bool) (nomark _))))))))
theorem ok__law_piles (T : Txt mg) (F__law_take : Fn P w K mg base "_law_take" 1 ["state", "many"] (spI K 2 f__law_take)) (F__law_order : Fn P w K mg base "_law_order" 2 ["state", "many"] (spI K 2 f__law_order)) (d__law_piles : Df K mg "_law_piles" sLawPiles) : Fn P w K mg base "_law_piles" 3 ["state", "many"] (spI K 2 f__law_piles) := by
  refine Df.fnI (N := ["state", "many", "size", "count", "places"]) (ps := ["state", "many"]) (st := sLawPiles) (k := 2) G__law_piles b__law_piles d__law_piles sc__law_piles bd__law_piles rfl rfl (by decide) ?_
  intro f cdv A outer s0 H E hr
  have hu := hr.units
  have hu1 := hu_of hr
  exact (dss_cons (ds_set (i := 2) sc__law_piles.nd (de_op op_add3 fit_add de_int (de_callI (i := 0) F__law_take (hr.mono (by first | decide | omega)) (da_cons (de_ifExp (hc := (dt_cmp op_gt fit_gt (de_v 1) de_int (nomark _))) (ha := (de_ix ix_seq fit_ix (de_lst (da_cons (de_v 1) (da_cons de_int da_nil))) (de_callI (i := 0) F__law_take (hr.mono (by first | decide | omega)) (da_cons de_int da_nil)) (fun _ _ => rfl))) (hb := de_int)) da_nil))))
  (dss_cons (ds_set (i := 3) sc__law_piles.nd (de_op op_add3 fit_add de_int (de_callI (i := 0) F__law_take (hr.mono (by first | decide | omega)) (da_cons (de_op op_fdiv64 fit_fdiv (de_v 1) (de_v 2)) da_nil))))
  (dss_cons (ds_set (i := 4) sc__law_piles.nd (de_callI (i := 0) F__law_order (hr.mono (by first | decide | omega)) (da_cons (de_v 1) da_nil)))
  (dss_one (ds_ret (de_callTy call_tuple_of fit_tuple (by rfl) T.z_tuple bt_tuple (da_cons (de_lcp (defScope sLawPiles) ["state", "many", "size", "count", "places"] ["k", "places", "size"] [none, some 4, some 2] rfl (di_range1 (da_cons (de_v 3) da_nil) T.z_range) (fun Y => ⟨(dg_name (i := 0) (show (["k", "places", "size"] : List Str).Nodup by decide +kernel)), difs_nil, (de_slice sl_listR fit_sl (de_v 1) (do_some (de_op op_mul fit_mul (de_v 0) (de_v 2))) (do_some (de_op op_add3 fit_add (de_op op_mul fit_mul (de_v 0) (de_v 2)) (de_v 2))))⟩)) da_nil)))))))
theorem ok__law_moved (T : Txt mg)  (d__law_moved : Df K mg "_law_moved" sLawMoved) : Fn P w K mg base "_law_moved" 1 ["many", "piles", "row"] (spD K 3 f__law_moved .S) := by
  refine Df.fnD (N := ["many", "piles", "row", "found", "k", "j"]) (ps := ["many", "piles", "row"]) (st := sLawMoved) (k := 0) G__law_moved .S b__law_moved d__law_moved sc__law_moved bd__law_moved rfl (by decide) ?_
  intro f cdv A outer s0 H E hr
  have hu := hr.units
  have hu1 := hu_of hr
  exact (dss_cons (ds_setO (i := 3) sc__law_moved.nd de_dict0)
  (dss_cons (ds_for PassesOwn.never rfl (di_range1 (da_cons (de_callB call_len fit_len (by rfl) T.z_len bt_len (da_cons (de_v 1) da_nil)) da_nil) T.z_range) (dg_name (i := 4) sc__law_moved.nd)
  (dss_one (ds_for PassesOwn.never rfl (di_range1 (da_cons (de_callB call_len fit_len (by rfl) T.z_len bt_len (da_cons (de_ix ix_seq fit_ix (de_v 1) (de_v 4) (fun _ _ => rfl)) da_nil)) da_nil) T.z_range) (dg_name (i := 5) sc__law_moved.nd)
  (dss_one (ds_dput (j := 3) hu (de_ix ix_seq fit_ix (de_ix ix_seq fit_ix (de_v 1) (de_ix ix_seq fit_ix (de_v 2) (de_v 4) (fun _ _ => rfl)) (fun _ _ => rfl)) (de_v 5) (fun _ _ => rfl)) (de_ix ix_seq fit_ix (de_ix ix_seq fit_ix (de_v 1) (de_v 4) (fun _ _ => rfl)) (de_v 5) (fun _ _ => rfl)))))))
  (dss_one (ds_ret (de_callTy call_tuple_of fit_tuple (by rfl) T.z_tuple bt_tuple (da_cons (de_lcp (defScope sLawMoved) ["many", "piles", "row", "found", "k", "j"] ["place", "found"] [none, some 3] rfl (di_range1 (da_cons (de_v 0) da_nil) T.z_range) (fun Y => ⟨(dg_name (i := 0) (show (["place", "found"] : List Str).Nodup by decide +kernel)), difs_nil, (de_dget2 (j := 1) hu (de_v 0) (de_v 0))⟩)) da_nil))))))
theorem ok__law_turns (T : Txt mg) (F__law_moved : Fn P w K mg base "_law_moved" 1 ["many", "piles", "row"] (spD K 3 f__law_moved .S)) (d__law_turns : Df K mg "_law_turns" sLawTurns) : Fn P w K mg base "_law_turns" 2 ["many", "piles"] (spD K 2 f__law_turns .S) := by
  refine Df.fnD (N := ["many", "piles", "rows", "turn"]) (ps := ["many", "piles"]) (st := sLawTurns) (k := 1) G__law_turns .S b__law_turns d__law_turns sc__law_turns bd__law_turns rfl (by decide) ?_
  intro f cdv A outer s0 H E hr
  have hu := hr.units
  have hu1 := hu_of hr
  exact (dss_cons (ds_setO (i := 2) sc__law_turns.nd (de_lst da_nil))
  (dss_cons (ds_for PassesOwn.never rfl (di_range1 (da_cons (de_callB call_len fit_len (by rfl) T.z_len bt_len (da_cons (de_v 1) da_nil)) da_nil) T.z_range) (dg_name (i := 3) sc__law_turns.nd)
  (dss_one (ds_expr (de_mut (i := 2) PySem.F.plainAttrs_list PySem.F.slot_list_append PySem.F.type_list_append mt_append fit_append (da_cons (de_lcp (defScope sLawTurns) ["many", "piles", "rows", "turn"] ["k", "turn", "piles"] [none, some 3, some 1] rfl (di_range1 (da_cons (de_callB call_len fit_len (by rfl) T.z_len bt_len (da_cons (de_v 1) da_nil)) da_nil) T.z_range) (fun Y => ⟨(dg_name (i := 0) (show (["k", "turn", "piles"] : List Str).Nodup by decide +kernel)), difs_nil, (de_op op_mod fit_mod (de_op op_add3 fit_add (de_v 0) (de_v 1)) (de_callB call_len fit_len (by rfl) T.z_len bt_len (da_cons (de_v 2) da_nil)))⟩)) da_nil)))))
  (dss_one (ds_ret (de_callTy call_tuple_of fit_tuple (by rfl) T.z_tuple bt_tuple (da_cons (de_lcp (defScope sLawTurns) ["many", "piles", "rows", "turn"] ["row", "many", "piles"] [none, some 0, some 1] rfl (di_seq (de_own 2)) (fun Y => ⟨(dg_name (i := 0) (show (["row", "many", "piles"] : List Str).Nodup by decide +kernel)), difs_nil, (de_callF F__law_moved (hr.mono (by first | decide | omega)) (da_cons (de_v 1) (da_cons (de_v 2) (da_cons (de_v 0) da_nil))))⟩)) da_nil))))))
theorem ok__law_rows (T : Txt mg)  (d__law_rows : Df K mg "_law_rows" sLawRows) : ∀ n, Fn P w K mg base "_law_rows" (n + 1) ["left"] (spD K 1 (f__law_rows n) .O) := by
  intro n
  induction n with
  | zero =>
    refine Df.fnD (N := ["left", "found", "one"]) (ps := ["left"]) (st := sLawRows) (k := 0) G__law_rows .O (b__law_rows 0) d__law_rows sc__law_rows bd__law_rows rfl (by decide) ?_
    intro f cdv A outer s0 H E hr
    have hu := hr.units
    have hu1 := hu_of hr
    exact dss_stk
  | succ n F__law_rows =>
    refine Df.fnD (N := ["left", "found", "one"]) (ps := ["left"]) (st := sLawRows) (k := n + 1) G__law_rows .O (b__law_rows (n + 1)) d__law_rows sc__law_rows bd__law_rows rfl (by decide) ?_
    intro f cdv A outer s0 H E hr
    have hu := hr.units
    have hu1 := hu_of hr
    exact (dss_cons (ds_if (dt_cmp (op_eqD hu) (fit_eq (f := id)) (de_v 0) (de_lst da_nil) (nomark _)) (dss_one (ds_retO (de_lst (da_cons (de_lst da_nil) da_nil)))) dss_nil)
  (dss_cons (ds_setO (i := 1) sc__law_rows.nd (de_lst da_nil))
  (dss_cons (ds_for PassesOwn.never rfl (di_seq (de_v 0)) (dg_name (i := 2) sc__law_rows.nd)
  (dss_one (ds_expr (de_mut (i := 1) PySem.F.plainAttrs_list PySem.F.slot_list_extend PySem.F.type_list_extend mt_ext2 fit_extend (da_cons (de_lcp (defScope sLawRows) ["left", "found", "one"] ["row", "one"] [none, some 2] rfl (di_seq (de_callF F__law_rows (hr.mono (by first | decide | omega)) (da_cons (de_lcp (defScope sLawRows) ["left", "found", "one"] ["other", "one"] [none, some 2] rfl (di_seq (de_v 0)) (fun Y => ⟨(dg_name (i := 0) (show (["other", "one"] : List Str).Nodup by decide +kernel)), (difs_one (dt_cmp (op_neD hu) (fit_eq (f := not)) (de_v 0) (de_v 1) (nomark _))), (de_v 0)⟩)) da_nil))) (fun Y => ⟨(dg_name (i := 0) (show (["row", "one"] : List Str).Nodup by decide +kernel)), difs_nil, (de_op op_add3 fit_add (de_lst (da_cons (de_v 1) da_nil)) (de_v 0))⟩)) da_nil)))))
  (dss_one (ds_retV (i := 1) (hi := by decide))))))
theorem law_ok {f : Addr} {fd : FuncData} (T : Txt mg) {cX : Addr} (XT : XTxt K mg cX "TooMany" MS) (FL : Fun K "law" "law" sLaw f fd) (d_exchanged : Df K mg "exchanged" sExchanged) (d_pile_cut : Df K mg "pile_cut" sPileCut) (d_cut : Df K mg "cut" sCut) (d_arrangements : Df K mg "arrangements" sArrangements) (d_pile_mix : Df K mg "pile_mix" sPileMix) (d__law_cell_at : Df K mg "_law_cell_at" sLawCellAt) (d__law_state : Df K mg "_law_state" sLawState) (d__law_take : Df K mg "_law_take" sLawTake) (d__law_order : Df K mg "_law_order" sLawOrder) (d__law_mark : Df K mg "_law_mark" sLawMark) (d__law_same : Df K mg "_law_same" sLawSame) (d__law_piles : Df K mg "_law_piles" sLawPiles) (d__law_moved : Df K mg "_law_moved" sLawMoved) (d__law_turns : Df K mg "_law_turns" sLawTurns) (d__law_rows : Df K mg "_law_rows" sLawRows) (d__law_told : Df K mg "_law_told" sLawTold) (hp : ∀ ns : List Int, ns.length ≤ 63 → f_law [.scr (ns.map .int)] = .ok (.bl true)) : FnOk P w K mg base CX0 24 f fd ["script"] (spLaw K) := by
  have F_exchanged := ok_exchanged (P := P) (w := w) (base := base) T  d_exchanged
  have F_pile_cut := ok_pile_cut (P := P) (w := w) (base := base) T F_exchanged d_pile_cut
  have F_cut := ok_cut (P := P) (w := w) (base := base) T F_pile_cut d_cut
  have F_arrangements := ok_arrangements (P := P) (w := w) (base := base) T  d_arrangements
  have F_pile_mix := ok_pile_mix (P := P) (w := w) (base := base) T F_exchanged F_arrangements d_pile_mix
  have F__law_cell_at := ok__law_cell_at (P := P) (w := w) (base := base) T  d__law_cell_at
  have F__law_state := ok__law_state (P := P) (w := w) (base := base) T F__law_cell_at d__law_state
  have F__law_take := ok__law_take (P := P) (w := w) (base := base) T  d__law_take
  have F__law_order := ok__law_order (P := P) (w := w) (base := base) T F__law_take d__law_order
  have F__law_same := ok__law_same (P := P) (w := w) (base := base) T  d__law_same
  have F__law_piles := ok__law_piles (P := P) (w := w) (base := base) T F__law_take F__law_order d__law_piles
  have F__law_moved := ok__law_moved (P := P) (w := w) (base := base) T  d__law_moved
  have F__law_turns := ok__law_turns (P := P) (w := w) (base := base) T F__law_moved d__law_turns
  have F__law_rows := ok__law_rows (P := P) (w := w) (base := base) T  d__law_rows
  have F__law_told := told_ok (P := P) (w := w) (base := base) T XT F_pile_mix d_pile_mix d__law_mark d__law_told
  refine law_of (f := f_law) ?_ hp
  refine Fun.okD (N := ["script", "k", "state", "many", "places", "piles", "due"]) (ps := ["script"]) (st := sLaw) (k := 23) G_law .S b_law FL sc_law rfl (by decide) ?_
  intro f cdv A outer s0 H E hr
  have hu := hr.units
  have hu1 := hu_of hr
  exact (dss_cons (ds_for PassesOwn.never rfl (di_range1 (da_cons (de_callB (call_max2 rfl) fit_max2 (by rfl) T.z_max bt_max (da_cons de_int (da_cons (de_callB (call_min2 rfl) fit_min2 (by rfl) T.z_min bt_min (da_cons (de_callB call_len fit_len (by rfl) T.z_len bt_len (da_cons (de_v 0) da_nil)) (da_cons de_int da_nil))) da_nil))) da_nil) T.z_range) (dg_name (i := 1) sc_law.nd)
  (dss_cons (ds_setO (i := 2) sc_law.nd (de_callF F__law_state (hr.mono (by first | decide | omega)) (da_cons (de_v 0) (da_cons (de_v 1) da_nil))))
  (dss_cons (ds_set (i := 3) sc_law.nd (de_op op_add3 fit_add de_int (de_callI (i := 2) F__law_take (hr.mono (by first | decide | omega)) (da_cons de_int da_nil))))
  (dss_cons (ds_set (i := 4) sc_law.nd (de_slice sl_listR fit_sl (de_callI (i := 2) F__law_order (hr.mono (by first | decide | omega)) (da_cons (de_v 3) da_nil)) do_none (do_some (de_op op_add3 fit_add de_int (de_callI (i := 2) F__law_take (hr.mono (by first | decide | omega)) (da_cons (de_v 3) da_nil))))))
  (dss_cons (ds_if (dt_not (dt_val (de_callF (F__law_same 20) (hr.mono (by first | decide | omega)) (da_cons (de_callF F_cut (hr.mono (by first | decide | omega)) (da_cons (de_v 3) (da_cons (de_v 4) da_nil))) (da_cons (de_callF F__law_turns (hr.mono (by first | decide | omega)) (da_cons (de_v 3) (da_cons (de_callTy call_tuple_of fit_tuple (by rfl) T.z_tuple bt_tuple (da_cons (de_lcp (defScope sLaw) ["script", "k", "state", "many", "places", "piles", "due"] ["place"] [none] rfl (di_seq (de_v 4)) (fun Y => ⟨(dg_name (i := 0) (show (["place"] : List Str).Nodup by decide +kernel)), difs_nil, (de_tup (da_cons (de_v 0) da_nil))⟩)) da_nil)) da_nil))) da_nil))))) (dss_one (ds_ret de_bl)) dss_nil)
  (dss_one (ds_for PassesOwn.never rfl (di_seq (de_lst (da_cons (de_callI (i := 2) F__law_piles (hr.mono (by first | decide | omega)) (da_cons (de_v 3) da_nil)) (da_cons (de_callI (i := 2) F__law_piles (hr.mono (by first | decide | omega)) (da_cons (de_v 3) da_nil)) da_nil)))) (dg_name (i := 5) sc_law.nd)
  (dss_cons (ds_if (dt_not (dt_val (de_callF (F__law_same 20) (hr.mono (by first | decide | omega)) (da_cons (de_callF F_pile_cut (hr.mono (by first | decide | omega)) (da_cons (de_v 3) (da_cons (de_v 5) da_nil))) (da_cons (de_callF F__law_turns (hr.mono (by first | decide | omega)) (da_cons (de_v 3) (da_cons (de_v 5) da_nil))) da_nil))))) (dss_one (ds_ret de_bl)) dss_nil)
  (dss_cons (ds_set (i := 6) sc_law.nd de_str)
  (dss_cons (ds_if (dt_cmp op_lt fit_lt (de_callB call_len fit_len (by rfl) T.z_len bt_len (da_cons (de_v 5) da_nil)) de_int (nomark _)) (dss_one (ds_set (i := 6) sc_law.nd (de_callTy call_tuple_of fit_tuple (by rfl) T.z_tuple bt_tuple (da_cons (de_lcp (defScope sLaw) ["script", "k", "state", "many", "places", "piles", "due"] ["row", "many", "piles"] [none, some 3, some 5] rfl (di_seq (de_callF (F__law_rows 20) (hr.mono (by first | decide | omega)) (da_cons (de_rngL rfl (da_cons (de_callB call_len fit_len (by rfl) T.z_len bt_len (da_cons (de_v 5) da_nil)) da_nil) T.z_list T.z_range) da_nil))) (fun Y => ⟨(dg_name (i := 0) (show (["row", "many", "piles"] : List Str).Nodup by decide +kernel)), difs_nil, (de_callF F__law_moved (hr.mono (by first | decide | omega)) (da_cons (de_v 1) (da_cons (de_v 2) (da_cons (de_v 0) da_nil))))⟩)) da_nil)))) dss_nil)
  (dss_one (ds_if (dt_not (dt_val (de_callF (F__law_same 20) (hr.mono (by first | decide | omega)) (da_cons (de_callF F__law_told (hr.mono (by first | decide | omega)) (da_cons (de_v 3) (da_cons (de_v 5) da_nil))) (da_cons (de_v 6) da_nil))))) (dss_one (ds_ret de_bl)) dss_nil))))))))))))
  (dss_one (ds_ret de_bl)))
end
theorem all_mk {w : World} {K : PySem.W.Frag} {h : Heap} {mg : Str → Option Value} {fa : Addr} (X : K.In h) (G : h.Ns mainGlobals mg) (hfa : mg "law" = some (.ref fa))
    {f0 : Addr} {od0 an0 : Option Addr} {sl0 : Array (Option Value)} {oc0 kV0 dc0 pm0 cd0 ct0 : Value}
    (a0 : PySem.W.nsIn K mainGlobals "exchanged" = some (some (.ref f0))) (l0 : K.lookup f0 = some ⟨oc0, od0, .func (PySem.W.fnOf "exchanged" "exchanged" (defArgs sExchanged) (defBody sExchanged) (defScope sExchanged) .none kV0 dc0 pm0 an0 cd0 ct0), sl0⟩) (c0 : PySem.W.codeIn K cd0 "exchanged" = true) (k0 : PySem.W.keepIn K (.ref f0) = true)
    {f1 : Addr} {od1 an1 : Option Addr} {sl1 : Array (Option Value)} {oc1 kV1 dc1 pm1 cd1 ct1 : Value}
    (a1 : PySem.W.nsIn K mainGlobals "pile_cut" = some (some (.ref f1))) (l1 : K.lookup f1 = some ⟨oc1, od1, .func (PySem.W.fnOf "pile_cut" "pile_cut" (defArgs sPileCut) (defBody sPileCut) (defScope sPileCut) .none kV1 dc1 pm1 an1 cd1 ct1), sl1⟩) (c1 : PySem.W.codeIn K cd1 "pile_cut" = true) (k1 : PySem.W.keepIn K (.ref f1) = true)
    {f2 : Addr} {od2 an2 : Option Addr} {sl2 : Array (Option Value)} {oc2 kV2 dc2 pm2 cd2 ct2 : Value}
    (a2 : PySem.W.nsIn K mainGlobals "cut" = some (some (.ref f2))) (l2 : K.lookup f2 = some ⟨oc2, od2, .func (PySem.W.fnOf "cut" "cut" (defArgs sCut) (defBody sCut) (defScope sCut) .none kV2 dc2 pm2 an2 cd2 ct2), sl2⟩) (c2 : PySem.W.codeIn K cd2 "cut" = true) (k2 : PySem.W.keepIn K (.ref f2) = true)
    {f3 : Addr} {od3 an3 : Option Addr} {sl3 : Array (Option Value)} {oc3 kV3 dc3 pm3 cd3 ct3 : Value}
    (a3 : PySem.W.nsIn K mainGlobals "arrangements" = some (some (.ref f3))) (l3 : K.lookup f3 = some ⟨oc3, od3, .func (PySem.W.fnOf "arrangements" "arrangements" (defArgs sArrangements) (defBody sArrangements) (defScope sArrangements) .none kV3 dc3 pm3 an3 cd3 ct3), sl3⟩) (c3 : PySem.W.codeIn K cd3 "arrangements" = true) (k3 : PySem.W.keepIn K (.ref f3) = true)
    {f4 : Addr} {od4 an4 : Option Addr} {sl4 : Array (Option Value)} {oc4 kV4 dc4 pm4 cd4 ct4 : Value}
    (a4 : PySem.W.nsIn K mainGlobals "pile_mix" = some (some (.ref f4))) (l4 : K.lookup f4 = some ⟨oc4, od4, .func (PySem.W.fnOf "pile_mix" "pile_mix" (defArgs sPileMix) (defBody sPileMix) (defScope sPileMix) .none kV4 dc4 pm4 an4 cd4 ct4), sl4⟩) (c4 : PySem.W.codeIn K cd4 "pile_mix" = true) (k4 : PySem.W.keepIn K (.ref f4) = true)
    {f5 : Addr} {od5 an5 : Option Addr} {sl5 : Array (Option Value)} {oc5 kV5 dc5 pm5 cd5 ct5 : Value}
    (a5 : PySem.W.nsIn K mainGlobals "_law_cell_at" = some (some (.ref f5))) (l5 : K.lookup f5 = some ⟨oc5, od5, .func (PySem.W.fnOf "_law_cell_at" "_law_cell_at" (defArgs sLawCellAt) (defBody sLawCellAt) (defScope sLawCellAt) .none kV5 dc5 pm5 an5 cd5 ct5), sl5⟩) (c5 : PySem.W.codeIn K cd5 "_law_cell_at" = true) (k5 : PySem.W.keepIn K (.ref f5) = true)
    {f6 : Addr} {od6 an6 : Option Addr} {sl6 : Array (Option Value)} {oc6 kV6 dc6 pm6 cd6 ct6 : Value}
    (a6 : PySem.W.nsIn K mainGlobals "_law_state" = some (some (.ref f6))) (l6 : K.lookup f6 = some ⟨oc6, od6, .func (PySem.W.fnOf "_law_state" "_law_state" (defArgs sLawState) (defBody sLawState) (defScope sLawState) .none kV6 dc6 pm6 an6 cd6 ct6), sl6⟩) (c6 : PySem.W.codeIn K cd6 "_law_state" = true) (k6 : PySem.W.keepIn K (.ref f6) = true)
    {f7 : Addr} {od7 an7 : Option Addr} {sl7 : Array (Option Value)} {oc7 kV7 dc7 pm7 cd7 ct7 : Value}
    (a7 : PySem.W.nsIn K mainGlobals "_law_take" = some (some (.ref f7))) (l7 : K.lookup f7 = some ⟨oc7, od7, .func (PySem.W.fnOf "_law_take" "_law_take" (defArgs sLawTake) (defBody sLawTake) (defScope sLawTake) .none kV7 dc7 pm7 an7 cd7 ct7), sl7⟩) (c7 : PySem.W.codeIn K cd7 "_law_take" = true) (k7 : PySem.W.keepIn K (.ref f7) = true)
    {f8 : Addr} {od8 an8 : Option Addr} {sl8 : Array (Option Value)} {oc8 kV8 dc8 pm8 cd8 ct8 : Value}
    (a8 : PySem.W.nsIn K mainGlobals "_law_order" = some (some (.ref f8))) (l8 : K.lookup f8 = some ⟨oc8, od8, .func (PySem.W.fnOf "_law_order" "_law_order" (defArgs sLawOrder) (defBody sLawOrder) (defScope sLawOrder) .none kV8 dc8 pm8 an8 cd8 ct8), sl8⟩) (c8 : PySem.W.codeIn K cd8 "_law_order" = true) (k8 : PySem.W.keepIn K (.ref f8) = true)
    {f9 : Addr} {od9 an9 : Option Addr} {sl9 : Array (Option Value)} {oc9 kV9 dc9 pm9 cd9 ct9 : Value}
    (a9 : PySem.W.nsIn K mainGlobals "_law_mark" = some (some (.ref f9))) (l9 : K.lookup f9 = some ⟨oc9, od9, .func (PySem.W.fnOf "_law_mark" "_law_mark" (defArgs sLawMark) (defBody sLawMark) (defScope sLawMark) .none kV9 dc9 pm9 an9 cd9 ct9), sl9⟩) (c9 : PySem.W.codeIn K cd9 "_law_mark" = true) (k9 : PySem.W.keepIn K (.ref f9) = true)
    {f10 : Addr} {od10 an10 : Option Addr} {sl10 : Array (Option Value)} {oc10 kV10 dc10 pm10 cd10 ct10 : Value}
    (a10 : PySem.W.nsIn K mainGlobals "_law_same" = some (some (.ref f10))) (l10 : K.lookup f10 = some ⟨oc10, od10, .func (PySem.W.fnOf "_law_same" "_law_same" (defArgs sLawSame) (defBody sLawSame) (defScope sLawSame) .none kV10 dc10 pm10 an10 cd10 ct10), sl10⟩) (c10 : PySem.W.codeIn K cd10 "_law_same" = true) (k10 : PySem.W.keepIn K (.ref f10) = true)
    {f11 : Addr} {od11 an11 : Option Addr} {sl11 : Array (Option Value)} {oc11 kV11 dc11 pm11 cd11 ct11 : Value}
    (a11 : PySem.W.nsIn K mainGlobals "_law_piles" = some (some (.ref f11))) (l11 : K.lookup f11 = some ⟨oc11, od11, .func (PySem.W.fnOf "_law_piles" "_law_piles" (defArgs sLawPiles) (defBody sLawPiles) (defScope sLawPiles) .none kV11 dc11 pm11 an11 cd11 ct11), sl11⟩) (c11 : PySem.W.codeIn K cd11 "_law_piles" = true) (k11 : PySem.W.keepIn K (.ref f11) = true)
    {f12 : Addr} {od12 an12 : Option Addr} {sl12 : Array (Option Value)} {oc12 kV12 dc12 pm12 cd12 ct12 : Value}
    (a12 : PySem.W.nsIn K mainGlobals "_law_moved" = some (some (.ref f12))) (l12 : K.lookup f12 = some ⟨oc12, od12, .func (PySem.W.fnOf "_law_moved" "_law_moved" (defArgs sLawMoved) (defBody sLawMoved) (defScope sLawMoved) .none kV12 dc12 pm12 an12 cd12 ct12), sl12⟩) (c12 : PySem.W.codeIn K cd12 "_law_moved" = true) (k12 : PySem.W.keepIn K (.ref f12) = true)
    {f13 : Addr} {od13 an13 : Option Addr} {sl13 : Array (Option Value)} {oc13 kV13 dc13 pm13 cd13 ct13 : Value}
    (a13 : PySem.W.nsIn K mainGlobals "_law_turns" = some (some (.ref f13))) (l13 : K.lookup f13 = some ⟨oc13, od13, .func (PySem.W.fnOf "_law_turns" "_law_turns" (defArgs sLawTurns) (defBody sLawTurns) (defScope sLawTurns) .none kV13 dc13 pm13 an13 cd13 ct13), sl13⟩) (c13 : PySem.W.codeIn K cd13 "_law_turns" = true) (k13 : PySem.W.keepIn K (.ref f13) = true)
    {f14 : Addr} {od14 an14 : Option Addr} {sl14 : Array (Option Value)} {oc14 kV14 dc14 pm14 cd14 ct14 : Value}
    (a14 : PySem.W.nsIn K mainGlobals "_law_rows" = some (some (.ref f14))) (l14 : K.lookup f14 = some ⟨oc14, od14, .func (PySem.W.fnOf "_law_rows" "_law_rows" (defArgs sLawRows) (defBody sLawRows) (defScope sLawRows) .none kV14 dc14 pm14 an14 cd14 ct14), sl14⟩) (c14 : PySem.W.codeIn K cd14 "_law_rows" = true) (k14 : PySem.W.keepIn K (.ref f14) = true)
    {f15 : Addr} {od15 an15 : Option Addr} {sl15 : Array (Option Value)} {oc15 kV15 dc15 pm15 cd15 ct15 : Value}
    (a15 : PySem.W.nsIn K mainGlobals "_law_told" = some (some (.ref f15))) (l15 : K.lookup f15 = some ⟨oc15, od15, .func (PySem.W.fnOf "_law_told" "_law_told" (defArgs sLawTold) (defBody sLawTold) (defScope sLawTold) .none kV15 dc15 pm15 an15 cd15 ct15), sl15⟩) (c15 : PySem.W.codeIn K cd15 "_law_told" = true) (k15 : PySem.W.keepIn K (.ref f15) = true)
    {f16 : Addr} {od16 an16 : Option Addr} {sl16 : Array (Option Value)} {oc16 kV16 dc16 pm16 cd16 ct16 : Value}
    (a16 : PySem.W.nsIn K mainGlobals "law" = some (some (.ref f16))) (l16 : K.lookup f16 = some ⟨oc16, od16, .func (PySem.W.fnOf "law" "law" (defArgs sLaw) (defBody sLaw) (defScope sLaw) .none kV16 dc16 pm16 an16 cd16 ct16), sl16⟩) (c16 : PySem.W.codeIn K cd16 "law" = true) (k16 : PySem.W.keepIn K (.ref f16) = true)
    (z_all : PySem.W.nsIn K mainGlobals "all" = some none)
    (z_bool : PySem.W.nsIn K mainGlobals "bool" = some none)
    (z_isinstance : PySem.W.nsIn K mainGlobals "isinstance" = some none)
    (z_len : PySem.W.nsIn K mainGlobals "len" = some none)
    (z_list : PySem.W.nsIn K mainGlobals "list" = some none)
    (z_max : PySem.W.nsIn K mainGlobals "max" = some none)
    (z_min : PySem.W.nsIn K mainGlobals "min" = some none)
    (z_range : PySem.W.nsIn K mainGlobals "range" = some none)
    (z_tuple : PySem.W.nsIn K mainGlobals "tuple" = some none)
    (z_zip : PySem.W.nsIn K mainGlobals "zip" = some none)
    {tk_MOST_PILES_MIXED : Tok} (g_MOST_PILES_MIXED : PySem.W.nsIn K mainGlobals "MOST_PILES_MIXED" = some (some (.int 4 tk_MOST_PILES_MIXED)))
    {c_NoPlan : Addr} (n_NoPlan : PySem.W.nsIn K mainGlobals "NoPlan" = some (some (.ref c_NoPlan)))
    {c_NoWay : Addr} (n_NoWay : PySem.W.nsIn K mainGlobals "NoWay" = some (some (.ref c_NoWay)))
    {c_NoEnd : Addr} (n_NoEnd : PySem.W.nsIn K mainGlobals "NoEnd" = some (some (.ref c_NoEnd)))
    {c_NoFormula : Addr} (n_NoFormula : PySem.W.nsIn K mainGlobals "NoFormula" = some (some (.ref c_NoFormula)))
    {c_TooMany : Addr} (n_TooMany : PySem.W.nsIn K mainGlobals "TooMany" = some (some (.ref c_TooMany)))
    {c_NoName : Addr} (n_NoName : PySem.W.nsIn K mainGlobals "NoName" = some (some (.ref c_NoName)))
    {c_BadNote : Addr} (n_BadNote : PySem.W.nsIn K mainGlobals "BadNote" = some (some (.ref c_BadNote)))
    {c_CardError : Addr} (n_CardError : PySem.W.nsIn K mainGlobals "CardError" = some (some (.ref c_CardError)))
    (x_exc : PySem.W.excIn K c_TooMany veMro "ValueError.__new__" = true)
    (e_ga : PySem.W.findIn K (.ref c_TooMany) "__getattribute__" = some (some (.builtin "BaseException.__getattribute__")))
    (e_gn : PySem.W.findIn K (.ref c_TooMany) "__getattr__" = some none)
    (e_cl : PySem.W.findIn K (.ref c_TooMany) "__class__" = some (some (.builtin "object.__class__")))
    (e_gt : PySem.W.specialIn K (.builtin "object.__class__") "__get__" = some (some (.builtin "getset_descriptor.__get__")))
    (e_tk : PySem.W.takesIn K (.builtin "object.__class__") = some true)
    (e_ob : PySem.W.mroIn K c_TooMany (.type "object") = some true)
    (e_be : PySem.W.mroIn K c_TooMany (.type "BaseException") = some true)
    (x_card : PySem.W.exmOne K (.ref c_TooMany) (.ref c_CardError) = some true)
    (x_ve : PySem.W.kitOne K (.ref c_TooMany) (.type "ValueError") = some true)
    (x_zve : PySem.W.nsIn K mainGlobals "ValueError" = some none)
    (k_NoPlan : PySem.W.kitOne K (.ref c_TooMany) (.ref c_NoPlan) = some false)
    (k_NoWay : PySem.W.kitOne K (.ref c_TooMany) (.ref c_NoWay) = some false)
    (k_NoEnd : PySem.W.kitOne K (.ref c_TooMany) (.ref c_NoEnd) = some false)
    (k_NoFormula : PySem.W.kitOne K (.ref c_TooMany) (.ref c_NoFormula) = some false)
    (k_TooMany : PySem.W.kitOne K (.ref c_TooMany) (.ref c_TooMany) = some true)
    (k_NoName : PySem.W.kitOne K (.ref c_TooMany) (.ref c_NoName) = some false)
    (k_BadNote : PySem.W.kitOne K (.ref c_TooMany) (.ref c_BadNote) = some false)
    (hp : ∀ ns : List Int, ns.length ≤ 63 → f_law [.scr (ns.map .int)] = .ok (.bl true))
    : ∃ fd : FuncData, (∀ (s : Shared) (v : Value), BindsTo s fd ⟨[v], []⟩ [("script", v)]) ∧ ∀ base : Heap, K.In base → base.Ns mainGlobals mg → FnOk PySem.Challenge.pw_hushcards_k15_cuts_and_piles w K mg base CX0 24 fa fd ["script"] (spLaw K) := by
  have e := hfa.symm.trans (PySem.W.mg_of X G a16)
  cases e
  have T : Txt mg := ⟨PySem.W.mg_none_of X G z_all, PySem.W.mg_none_of X G z_bool, PySem.W.mg_none_of X G z_isinstance, PySem.W.mg_none_of X G z_len, PySem.W.mg_none_of X G z_list, PySem.W.mg_none_of X G z_max, PySem.W.mg_none_of X G z_min, PySem.W.mg_none_of X G z_range, PySem.W.mg_none_of X G z_tuple, PySem.W.mg_none_of X G z_zip, ⟨_, PySem.W.mg_of X G g_MOST_PILES_MIXED⟩⟩
  have d_exchanged : Df K mg "exchanged" sExchanged := ⟨_, _, PySem.W.mg_of X G a0, fun_mk (st := sExchanged) l0 c0 k0⟩
  have d_pile_cut : Df K mg "pile_cut" sPileCut := ⟨_, _, PySem.W.mg_of X G a1, fun_mk (st := sPileCut) l1 c1 k1⟩
  have d_cut : Df K mg "cut" sCut := ⟨_, _, PySem.W.mg_of X G a2, fun_mk (st := sCut) l2 c2 k2⟩
  have d_arrangements : Df K mg "arrangements" sArrangements := ⟨_, _, PySem.W.mg_of X G a3, fun_mk (st := sArrangements) l3 c3 k3⟩
  have d_pile_mix : Df K mg "pile_mix" sPileMix := ⟨_, _, PySem.W.mg_of X G a4, fun_mk (st := sPileMix) l4 c4 k4⟩
  have d__law_cell_at : Df K mg "_law_cell_at" sLawCellAt := ⟨_, _, PySem.W.mg_of X G a5, fun_mk (st := sLawCellAt) l5 c5 k5⟩
  have d__law_state : Df K mg "_law_state" sLawState := ⟨_, _, PySem.W.mg_of X G a6, fun_mk (st := sLawState) l6 c6 k6⟩
  have d__law_take : Df K mg "_law_take" sLawTake := ⟨_, _, PySem.W.mg_of X G a7, fun_mk (st := sLawTake) l7 c7 k7⟩
  have d__law_order : Df K mg "_law_order" sLawOrder := ⟨_, _, PySem.W.mg_of X G a8, fun_mk (st := sLawOrder) l8 c8 k8⟩
  have d__law_mark : Df K mg "_law_mark" sLawMark := ⟨_, _, PySem.W.mg_of X G a9, fun_mk (st := sLawMark) l9 c9 k9⟩
  have d__law_same : Df K mg "_law_same" sLawSame := ⟨_, _, PySem.W.mg_of X G a10, fun_mk (st := sLawSame) l10 c10 k10⟩
  have d__law_piles : Df K mg "_law_piles" sLawPiles := ⟨_, _, PySem.W.mg_of X G a11, fun_mk (st := sLawPiles) l11 c11 k11⟩
  have d__law_moved : Df K mg "_law_moved" sLawMoved := ⟨_, _, PySem.W.mg_of X G a12, fun_mk (st := sLawMoved) l12 c12 k12⟩
  have d__law_turns : Df K mg "_law_turns" sLawTurns := ⟨_, _, PySem.W.mg_of X G a13, fun_mk (st := sLawTurns) l13 c13 k13⟩
  have d__law_rows : Df K mg "_law_rows" sLawRows := ⟨_, _, PySem.W.mg_of X G a14, fun_mk (st := sLawRows) l14 c14 k14⟩
  have d__law_told : Df K mg "_law_told" sLawTold := ⟨_, _, PySem.W.mg_of X G a15, fun_mk (st := sLawTold) l15 c15 k15⟩
  have d_law : Df K mg "law" sLaw := ⟨_, _, PySem.W.mg_of X G a16, fun_mk (st := sLaw) l16 c16 k16⟩
  have FL := fun_mk (st := sLaw) l16 c16 k16
  refine ⟨PySem.W.fnOf "law" "law" (defArgs sLaw) (defBody sLaw) (defScope sLaw) .none kV16 dc16 pm16 an16 cd16 ct16, fun s v => .of_eq rfl, fun base _ _ => ?_⟩
  have XT : XTxt K mg c_TooMany "TooMany" MS := ⟨PySem.W.mg_of X G n_TooMany, x_exc, ⟨cls_of e_ob, e_ga, e_gn, e_cl, e_gt, e_tk, e_ob, e_be⟩, ⟨_, PySem.W.mg_of X G n_CardError, x_card⟩, x_ve, PySem.W.mg_none_of X G x_zve, by
    intro p hp
    simp only [MS, List.mem_cons, List.not_mem_nil, or_false] at hp
    rcases hp with rfl | rfl | rfl | rfl | rfl | rfl | rfl
    · exact ⟨_, PySem.W.mg_of X G n_NoPlan, k_NoPlan⟩
    · exact ⟨_, PySem.W.mg_of X G n_NoWay, k_NoWay⟩
    · exact ⟨_, PySem.W.mg_of X G n_NoEnd, k_NoEnd⟩
    · exact ⟨_, PySem.W.mg_of X G n_NoFormula, k_NoFormula⟩
    · exact ⟨_, PySem.W.mg_of X G n_TooMany, k_TooMany⟩
    · exact ⟨_, PySem.W.mg_of X G n_NoName, k_NoName⟩
    · exact ⟨_, PySem.W.mg_of X G n_BadNote, k_BadNote⟩⟩
  exact law_ok (P := PySem.Challenge.pw_hushcards_k15_cuts_and_piles) (w := w) (base := base) T XT FL d_exchanged d_pile_cut d_cut d_arrangements d_pile_mix d__law_cell_at d__law_state d__law_take d__law_order d__law_mark d__law_same d__law_piles d__law_moved d__law_turns d__law_rows d__law_told hp
end Hc
end
section
set_option Elab.async false
set_option linter.all false
set_option maxRecDepth 100000
set_option maxHeartbeats 4000000
namespace Hc
open PySem L2
/-! ### the draws -/
def StU (s : U) : Prop := ∃ v b, s = .lst [.int v, .bl b] ∧ 0 ≤ v ∧ (b = false → v < 2147483647)
theorem take_ok {s : U} {m : Int} (h : StU s) (h0 : 0 < m) (h1 : m < 18446744073709551616) : ∃ r s', f__law_take [s, .int m] = .ok (.int r, s') ∧ 0 ≤ r ∧ r < m ∧ StU s' := by
  obtain ⟨v, b, rfl, hv, hb⟩ := h
  cases b with
  | true =>
    refine ⟨v % m, .lst [.int (v / m), .bl true], ?_, Int.emod_nonneg _ (by omega), Int.emod_lt_of_pos _ h0, v / m, true, rfl, Int.ediv_nonneg hv (by omega), fun h => nomatch h⟩
    simp only [f__law_take, b__law_take, PSall, ev0, List.map_cons, List.map_nil, List.length_cons, List.length_nil, List.cons_append, List.nil_append, Nat.reduceAdd, Nat.reduceSub, List.replicate_succ, List.replicate_zero, List.getElem?_cons_zero, List.getElem?_cons_succ, List.set_cons_zero, List.set_cons_succ, Option.getD_some, Option.getD_none, if_true, if_false, Bool.false_eq_true, e_fnN, Bool.not_true, Bool.not_false, decide_eq_true h0, cDiv_of h0 h1, siB_0]
  | false =>
    have g1 : 0 ≤ (v * 48271 + 29) % 2147483647 := Int.emod_nonneg _ (by decide)
    have g2 : (v * 48271 + 29) % 2147483647 < 2147483647 := Int.emod_lt_of_pos _ (by decide)
    have c1 : cMul v 48271 = true := cMul_r (by decide) (by decide)
    have d1 : decide ((0 : Int) < 2147483647) = true := by decide
    have d2 : decide ((0 : Int) < 2147483629) = true := by decide
    have d3 : decide ((0 : Int) < 2147483587) = true := by decide
    have e8 : cDiv (((((v * 48271 + 29) % 2147483647) * ((v * 48271 + 29) % 2147483647) + 39373 * ((v * 48271 + 29) % 2147483647) + 7) % 2147483629 * ((((v * 48271 + 29) % 2147483647) * ((v * 48271 + 29) % 2147483647) + 39373 * ((v * 48271 + 29) % 2147483647) + 7) % 2147483629) + 16807 * ((((v * 48271 + 29) % 2147483647) * ((v * 48271 + 29) % 2147483647) + 39373 * ((v * 48271 + 29) % 2147483647) + 7) % 2147483629)) % 2147483587) 8 = true := cDiv_of (by decide) (by decide)
    have c2 : cMul ((v * 48271 + 29) % 2147483647) ((v * 48271 + 29) % 2147483647) = true := cMul_l g1 (by omega)
    have c3 : cMul 39373 ((v * 48271 + 29) % 2147483647) = true := cMul_l (by decide) (by decide)
    generalize hs : (v * 48271 + 29) % 2147483647 = s1 at *
    have g3 : 0 ≤ (s1 * s1 + 39373 * s1 + 7) % 2147483629 := Int.emod_nonneg _ (by decide)
    have g4 : (s1 * s1 + 39373 * s1 + 7) % 2147483629 < 2147483629 := Int.emod_lt_of_pos _ (by decide)
    have c4 : cMul ((s1 * s1 + 39373 * s1 + 7) % 2147483629) ((s1 * s1 + 39373 * s1 + 7) % 2147483629) = true := cMul_l g3 (by omega)
    have c5 : cMul 16807 ((s1 * s1 + 39373 * s1 + 7) % 2147483629) = true := cMul_l (by decide) (by decide)
    refine ⟨((s1 * s1 + 39373 * s1 + 7) % 2147483629 * ((s1 * s1 + 39373 * s1 + 7) % 2147483629) + 16807 * ((s1 * s1 + 39373 * s1 + 7) % 2147483629)) % 2147483587 / 8 % m, .lst [.int s1, .bl false], ?_, Int.emod_nonneg _ (by omega), Int.emod_lt_of_pos _ h0, s1, false, rfl, g1, fun _ => g2⟩
    · simp only [f__law_take, b__law_take, PSall, ev0, List.map_cons, List.map_nil, List.length_cons, List.length_nil, List.cons_append, List.nil_append, Nat.reduceAdd, Nat.reduceSub, List.replicate_succ, List.replicate_zero, List.getElem?_cons_zero, List.getElem?_cons_succ, List.set_cons_zero, List.set_cons_succ, Option.getD_some, Option.getD_none, if_true, if_false, Bool.false_eq_true, e_fnN, Bool.not_true, Bool.not_false, decide_eq_true h0, c1, d1, d2, d3, hs, c2, c3, c4, c5, e8, siB_0]
theorem state_ok {u : U} {us : List U} {ns : List Int} {k : Int} (hu : u = .scr (ns.map .int) ∨ u = .lst (ns.map .int)) (h0 : 0 ≤ k) : ∃ s, f__law_state [u, .int k] = .ok s ∧ StU s := by
  obtain ⟨k, rfl⟩ : ∃ n : Nat, k = n := ⟨k.toNat, by omega⟩
  have hcell : ∃ c : Int, f__law_cell_at [u, .int k] = .ok (.int c) := by
    by_cases hk : k < ns.length
    · refine ⟨ns[k], ?_⟩
      have d : decide ((k : Int) < ((ns.map U.int).length : Nat)) = true := by rw [List.length_map]; exact decide_eq_true (by omega)
      have e : atI (ns.map U.int) (k : Int) = some (.int ns[k]) := by rw [atI_n, List.getElem?_map, List.getElem?_eq_getElem hk]; rfl
      rcases hu with rfl | rfl <;> simp only [f__law_cell_at, b__law_cell_at, PSall, ev0, List.map_cons, List.map_nil, List.length_cons, List.length_nil, List.cons_append, List.nil_append, Nat.reduceAdd, Nat.reduceSub, List.replicate_succ, List.replicate_zero, List.getElem?_cons_zero, List.getElem?_cons_succ, List.set_cons_zero, List.set_cons_succ, Option.getD_some, Option.getD_none, if_true, if_false, Bool.false_eq_true, e_fnN, Bool.not_true, Bool.not_false, d, e]
    · refine ⟨0, ?_⟩
      have d : decide ((k : Int) < ((ns.map U.int).length : Nat)) = false := by rw [List.length_map]; exact decide_eq_false (by omega)
      rcases hu with rfl | rfl <;> simp only [f__law_cell_at, b__law_cell_at, PSall, ev0, List.map_cons, List.map_nil, List.length_cons, List.length_nil, List.cons_append, List.nil_append, Nat.reduceAdd, Nat.reduceSub, List.replicate_succ, List.replicate_zero, List.getElem?_cons_zero, List.getElem?_cons_succ, List.set_cons_zero, List.set_cons_succ, Option.getD_some, Option.getD_none, if_true, if_false, Bool.false_eq_true, e_fnN, Bool.not_true, Bool.not_false, d]
  obtain ⟨c, hc⟩ := hcell
  have p18 : cPow 10 18 = true := by decide
  have e18 : (10 : Int) ^ (18 : Int).toNat = 1000000000000000000 := by decide
  have l2 : (2 : Nat) ≤ sizeLine := by decide
  have dm : decide ((0 : Int) < 2147483647) = true := by decide
  by_cases h : 1000000000000000000 ≤ c
  · refine ⟨.lst [.int (c - 1000000000000000000), .bl true], ?_, _, true, rfl, by omega, fun h => nomatch h⟩
    simp only [f__law_state, b__law_state, PSall, ev0, List.map_cons, List.map_nil, List.length_cons, List.length_nil, List.cons_append, List.nil_append, Nat.reduceAdd, Nat.reduceSub, List.replicate_succ, List.replicate_zero, List.getElem?_cons_zero, List.getElem?_cons_succ, List.set_cons_zero, List.set_cons_succ, Option.getD_some, Option.getD_none, if_true, if_false, Bool.false_eq_true, e_fnN, Bool.not_true, Bool.not_false, hc, p18, e18, decide_eq_true h, l2, if_pos]
  · refine ⟨.lst [.int (c % 2147483647), .bl false], ?_, _, false, rfl, Int.emod_nonneg _ (by decide), fun _ => Int.emod_lt_of_pos _ (by decide)⟩
    simp only [f__law_state, b__law_state, PSall, ev0, List.map_cons, List.map_nil, List.length_cons, List.length_nil, List.cons_append, List.nil_append, Nat.reduceAdd, Nat.reduceSub, List.replicate_succ, List.replicate_zero, List.getElem?_cons_zero, List.getElem?_cons_succ, List.set_cons_zero, List.set_cons_succ, Option.getD_some, Option.getD_none, if_true, if_false, Bool.false_eq_true, e_fnN, Bool.not_true, Bool.not_false, hc, p18, e18, decide_eq_false h, l2, dm, if_pos]
theorem erase_perm {α : Type} : ∀ (l : List α) (i : Nat) (h : i < l.length), (l[i] :: l.eraseIdx i).Perm l
  | x :: l, 0, _ => List.Perm.refl _
  | x :: l, i + 1, h => by
    have h' : i < l.length := by simpa using h
    show (l[i] :: x :: l.eraseIdx i).Perm (x :: l)
    exact (List.Perm.swap _ _ _).trans (List.Perm.cons x (erase_perm l i h'))
theorem map_eraseIdx {α β : Type} (f : α → β) : ∀ (l : List α) (i : Nat), (l.map f).eraseIdx i = (l.eraseIdx i).map f
  | [], _ => rfl
  | _ :: _, 0 => rfl
  | x :: l, i + 1 => by
    show f x :: (l.map f).eraseIdx i = f x :: (l.eraseIdx i).map f
    rw [map_eraseIdx f l i]
theorem pop_at {us : List U} {k : Int} {j : Nat} {y : U} (h1 : seqIndex? k us.length = some j) (h2 : us[j]? = some y) (h3 : 0 ≤ k) (h4 : k < 1000000000) : pPopAt (.lst us) [.int k] = .ok (y, .lst (us.eraseIdx j)) := by
  unfold pPopAt
  dsimp only
  rw [if_pos (by omega), h1]
  dsimp only
  rw [h2]
/-- an order of n cards -/
def IsOrd (n : Nat) (os : List Int) : Prop := os.Perm (rangeI n)
theorem order_ok {s : U} {m : Nat} (h : StU s) (h1 : m ≤ 1000) : ∃ (os : List Int) (s' : U), f__law_order [s, .int m] = .ok (.tup (os.map .int), s') ∧ IsOrd m os ∧ StU s' := by
  obtain ⟨ys, ⟨left, s'⟩, e, l, os, hr, hp, hs'⟩ := lcGo_inv (G := G__law_order) (js := [none, some 2, some 0]) (sg := sgN 0) (ge := gM "list" 1 pPopAt (aCons (gCI 2 2 f__law_take (aCons (gCB pLen (aCons (gVar 1) aNil)) aNil)) aNil))
    (fun x : List Int × U => [some x.2, some (.int m), some (.lst (x.1.map .int))]) m (fun ys x => ∃ os : List Int, ys = os.map .int ∧ (os ++ x.1).Perm (rangeI m) ∧ StU x.2)
    (fun done u x hd ⟨os, hr, hp, hs⟩ => by
      obtain ⟨left, s⟩ := x
      have hl : 0 < left.length := by
        have := hp.length_eq
        rw [List.length_append, rangeI_len] at this
        have h2 : done.length = os.length := by rw [hr, List.length_map]
        dsimp only at this
        omega
      have hl2 : left.length ≤ m := by
        have := hp.length_eq
        rw [List.length_append, rangeI_len] at this
        dsimp only at this
        omega
      obtain ⟨r, s', b1, b2, b3, b4⟩ := take_ok (m := left.length) hs (by omega) (by omega)
      obtain ⟨k, rfl⟩ : ∃ n : Nat, r = n := ⟨r.toNat, by omega⟩
      have hk : k < left.length := by omega
      refine ⟨[some u, some (.lst (left.map .int)), some s], .int left[k], [some u, some (.lst ((left.eraseIdx k).map .int)), some s'], (left.eraseIdx k, s'), rfl, ?_, rfl, os ++ [left[k]], by rw [hr, List.map_append]; rfl, ?_, b4⟩
      · have hx : seqIndex? (k : Int) (left.map U.int).length = some k := by
          unfold seqIndex?
          rw [List.length_map]
          simp; omega
        have hy : (left.map U.int)[k]? = some (.int left[k]) := by rw [List.getElem?_map, List.getElem?_eq_getElem hk]; rfl
        have pp := pop_at hx hy (by omega) (by omega)
        rw [map_eraseIdx] at pp
        simp only [PSall, ev0, List.map_cons, List.map_nil, List.length_cons, List.length_nil, List.cons_append, List.nil_append, Nat.reduceAdd, Nat.reduceSub, List.replicate_succ, List.replicate_zero, List.getElem?_cons_zero, List.getElem?_cons_succ, List.set_cons_zero, List.set_cons_succ, Option.getD_some, Option.getD_none, if_true, if_false, Bool.false_eq_true, e_fnN, Bool.not_true, Bool.not_false, List.length_map, b1, pp]
      · rw [List.append_assoc]
        refine List.Perm.trans (List.Perm.append_left os ?_) hp
        exact erase_perm left k hk) (rangeU 0 m) [] (rangeI m, s) (by rw [rangeU_len]; simp) ⟨[], rfl, List.Perm.refl _, h⟩
  rw [rangeU_len] at l
  have ln : os.length = m := by
    have := congrArg List.length hr
    rw [List.nil_append, List.length_map] at this
    omega
  have le : left = [] := by
    have := hp.length_eq
    rw [List.length_append, rangeI_len] at this
    dsimp only at this
    exact List.eq_nil_of_length_eq_zero (by omega)
  subst le
  rw [List.append_nil] at hp
  rw [List.nil_append] at hr
  dsimp only at e
  refine ⟨os, s', ?_, hp, hs'⟩
  rw [hr] at e
  simp only [f__law_order, b__law_order, PSall, ev0, List.map_cons, List.map_nil, List.length_cons, List.length_nil, List.cons_append, List.nil_append, Nat.reduceAdd, Nat.reduceSub, List.replicate_succ, List.replicate_zero, List.getElem?_cons_zero, List.getElem?_cons_succ, List.set_cons_zero, List.set_cons_succ, Option.getD_some, Option.getD_none, if_true, if_false, Bool.false_eq_true, e_fnN, Bool.not_true, Bool.not_false, rngB_n m (by omega), rngLB_n m (by omega), rangeU_I] at e ⊢
  simp only [PSall, ev0, List.map_cons, List.map_nil, List.length_cons, List.length_nil, List.cons_append, List.nil_append, Nat.reduceAdd, Nat.reduceSub, List.replicate_succ, List.replicate_zero, List.getElem?_cons_zero, List.getElem?_cons_succ, List.set_cons_zero, List.set_cons_succ, Option.getD_some, Option.getD_none, if_true, if_false, Bool.false_eq_true, e_fnN, Bool.not_true, Bool.not_false, e]
/-! ### exchanges -/
def PT (p : List Int) : U := .tup (p.map .int)
def PU (ps : List (List Int)) : U := .tup (ps.map PT)
def lastOf (q : List (Int × Int)) (x : Int) : Int := q.foldl (fun v z => if z.1 = x then z.2 else v) x
def lastFrom (q : List (Int × Int)) (x v : Int) : Int := q.foldl (fun v z => if z.1 = x then z.2 else v) v
def prs (ps : List (List Int)) (src : List Int) : List (Int × Int) := (ps.zip src).flatMap fun z => z.1.zip (ps.getD z.2.toNat [])
def mv (m : Nat) (q : List (Int × Int)) : List Int := (rangeI m).map (lastOf q)
def setAll (o : List Int) (q : List (Int × Int)) : List Int := q.foldl (fun o z => o.set z.1.toNat z.2) o
theorem setAll_len : ∀ (q : List (Int × Int)) (o : List Int), (setAll o q).length = o.length
  | [], _ => rfl
  | z :: q, o => by
    show (setAll (o.set z.1.toNat z.2) q).length = _
    rw [setAll_len q, List.length_set]
theorem setAll_get : ∀ (q : List (Int × Int)) (o : List Int) (i : Nat) (v : Int), (∀ z ∈ q, 0 ≤ z.1) → o[i]? = some v → (setAll o q)[i]? = some (lastFrom q i v)
  | [], _, _, _, _, h => h
  | z :: q, o, i, v, hz, h => by
    have hi : i < o.length := (List.getElem?_eq_some_iff.mp h).1
    have h0 := hz z List.mem_cons_self
    show (setAll (o.set z.1.toNat z.2) q)[i]? = some (lastFrom q i (if z.1 = i then z.2 else v))
    refine setAll_get q _ i _ (fun y hy => hz y (List.mem_cons_of_mem _ hy)) ?_
    by_cases c : z.1 = i
    · rw [if_pos c, c]
      show (o.set ((i : Int).toNat) z.2)[i]? = some z.2
      rw [Int.toNat_natCast, List.getElem?_set_self hi]
    · rw [if_neg c, List.getElem?_set_ne (by omega)]; exact h
theorem rangeI_get {m i : Nat} (h : i < m) : (rangeI m)[i]? = some (i : Int) := by
  unfold rangeI
  rw [List.getElem?_map, List.getElem?_range h]; rfl
theorem setAll_mv (m : Nat) (q : List (Int × Int)) (h : ∀ z ∈ q, 0 ≤ z.1) : setAll (rangeI m) q = mv m q := by
  apply List.ext_getElem?
  intro i
  by_cases c : i < m
  · rw [setAll_get q (rangeI m) i i h (rangeI_get c)]
    unfold mv
    rw [List.getElem?_map, rangeI_get c]; rfl
  · rw [List.getElem?_eq_none_iff.mpr (by rw [setAll_len, rangeI_len]; omega), List.getElem?_eq_none_iff.mpr (by unfold mv; rw [List.length_map, rangeI_len]; omega)]
theorem setAll_app (o : List Int) (q r : List (Int × Int)) : setAll o (q ++ r) = setAll (setAll o q) r := by
  unfold setAll; rw [List.foldl_append]
theorem sg2 {i j : Nat} {a b : U} {ρ : Ev} : sgTup 2 (sgCons (sgN i) (sgCons (sgN j) sgNil)) (.tup [a, b]) ρ = .ok ((ρ.set i (some a)).set j (some b)) := nr rfl
def zipB (us : List U) (ρ : Ev) : R (List U × Ev) := match us with
  | [u, w] => match seqU u, seqU w with
    | some us, some ws => .ok (List.zipWith (fun a b => .tup [a, b]) us ws, ρ)
    | _, _ => .stk
  | _ => .stk
theorem e_Zip {ga : Ev → R (List U × Ev)} {ρ : Ev} : gZip ga ρ = (ga ρ).bind fun x => zipB x.1 x.2 := nr rfl
theorem zipB_tt {us ws : List U} {ρ : Ev} : zipB [.tup us, .tup ws] ρ = .ok (List.zipWith (fun a b => .tup [a, b]) us ws, ρ) := nr rfl
theorem zipB_ll {us ws : List U} {ρ : Ev} : zipB [.lst us, .lst ws] ρ = .ok (List.zipWith (fun a b => .tup [a, b]) us ws, ρ) := nr rfl
theorem zw_get {p q : List Int} {j : Nat} {u : U} (h : (List.zipWith (fun a b => U.tup [a, b]) (p.map U.int) (q.map U.int))[j]? = some u) : ∃ x y, p[j]? = some x ∧ q[j]? = some y ∧ u = .tup [.int x, .int y] := by
  rw [List.getElem?_zipWith, List.getElem?_map, List.getElem?_map] at h
  cases e1 : p[j]? with
  | none => rw [e1] at h; cases h
  | some x =>
    cases e2 : q[j]? with
    | none => rw [e1, e2] at h; cases h
    | some y =>
      rw [e1, e2] at h
      exact ⟨x, y, rfl, rfl, (Option.some.inj h).symm⟩
theorem zip_take_succ {p q : List Int} {j : Nat} {x y : Int} (h1 : p[j]? = some x) (h2 : q[j]? = some y) : (p.zip q).take (j + 1) = (p.zip q).take j ++ [(x, y)] := by
  have e : (p.zip q)[j]? = some (x, y) := by
    rw [List.zip, List.getElem?_zipWith, h1, h2]
  rw [List.take_succ, e]; rfl
theorem siB_n {i : Nat} {w : U} {x : Int} {us : List U} {ρ : Ev} (h0 : 0 ≤ x) (h1 : x < us.length) : siB i w (.int x) ρ (some (some (.lst us))) = .nx (ρ.set i (some (.lst (us.set x.toNat w)))) := by
  refine siB_s ?_
  unfold ixN
  rw [if_pos h0, if_pos h1]
theorem prs_mem {ps : List (List Int)} {src : List Int} {z : Int × Int} (h : z ∈ prs ps src) : ∃ p ∈ ps, z.1 ∈ p := by
  unfold prs at h
  obtain ⟨⟨p, s⟩, h1, h2⟩ := List.mem_flatMap.mp h
  exact ⟨p, (List.of_mem_zip h1).1, (List.of_mem_zip h2).1⟩
theorem exchanged_ok {m : Nat} {ps : List (List Int)} {src : List Int} (hm : m ≤ 1000) (hps : ∀ p ∈ ps, ∀ x ∈ p, 0 ≤ x ∧ x < m) (hsrc : ∀ s ∈ src, 0 ≤ s ∧ s < ps.length) :
    f_exchanged [.int m, PU ps, .tup (src.map .int)] = .ok (.tup ((mv m (prs ps src)).map .int)) := by
  let T := fun n => ((ps.zip src).take n).flatMap fun z => z.1.zip (ps.getD z.2.toNat [])
  obtain ⟨ρ', e1, a, b, c, d, rfl⟩ := forGo_inv (us := List.zipWith (fun a b => U.tup [a, b]) (ps.map PT) (src.map U.int)) (sg := sgTup 2 (sgCons (sgN 4) (sgCons (sgN 5) sgNil)))
    (s := sFor (gZip (aCons (gVar 4) (aCons (gOp pIx (gVar 1) (gVar 5)) aNil))) (sgTup 2 (sgCons (sgN 6) (sgCons (sgN 7) sgNil))) (sSetI 3 (gVar 7) (gVar 6)))
    (fun n ρ => ∃ a b c d : Option U, ρ = [some (.int m), some (PU ps), some (.tup (src.map .int)), some (.lst ((setAll (rangeI m) (T n)).map .int)), a, b, c, d])
    (fun i u ρ hu ⟨a, b, c, d, hr⟩ => by
      subst hr
      have hz : ∃ p s, ps[i]? = some p ∧ src[i]? = some s ∧ u = .tup [PT p, .int s] := by
        rw [List.getElem?_zipWith, List.getElem?_map, List.getElem?_map] at hu
        cases e1 : ps[i]? with
        | none => rw [e1] at hu; cases hu
        | some x =>
          cases e2 : src[i]? with
          | none => rw [e1, e2] at hu; cases hu
          | some y =>
            rw [e1, e2] at hu
            exact ⟨x, y, rfl, rfl, (Option.some.inj hu).symm⟩
      obtain ⟨p, s, hp, hs, rfl⟩ := hz
      have hpm := List.mem_of_getElem? hp
      have hsm := hsrc s (List.mem_of_getElem? hs)
      obtain ⟨k, rfl⟩ : ∃ k : Nat, s = k := ⟨s.toNat, by omega⟩
      have hk : k < ps.length := by omega
      have ek : atI (ps.map PT) (k : Int) = some (PT ps[k]) := by
        rw [atI_n, List.getElem?_map, List.getElem?_eq_getElem hk]; rfl
      have gd : ps.getD k [] = ps[k] := by rw [List.getD_eq_getElem?_getD, List.getElem?_eq_getElem hk]; rfl
      have t1 : T (i + 1) = T i ++ p.zip ps[k] := by
        show ((ps.zip src).take (i + 1)).flatMap _ = _
        have e : (ps.zip src)[i]? = some (p, (k : Int)) := by rw [List.zip, List.getElem?_zipWith, hp, hs]
        rw [List.take_succ, e, List.flatMap_append]
        show _ ++ (p.zip (ps.getD ((k : Int).toNat) []) ++ []) = _
        rw [Int.toNat_natCast, gd, List.append_nil]
      obtain ⟨ρ2, e2, c', d', rfl⟩ := forGo_inv (us := List.zipWith (fun a b => U.tup [a, b]) (p.map U.int) (ps[k].map U.int)) (sg := sgTup 2 (sgCons (sgN 6) (sgCons (sgN 7) sgNil))) (s := sSetI 3 (gVar 7) (gVar 6))
        (fun j ρ => ∃ c d : Option U, ρ = [some (.int m), some (PU ps), some (.tup (src.map .int)), some (.lst ((setAll (setAll (rangeI m) (T i)) ((p.zip ps[k]).take j)).map .int)), some (PT p), some (.int k), c, d])
        (fun j u ρ hu ⟨c, d, hr⟩ => by
          subst hr
          obtain ⟨x, y, hx, hy, rfl⟩ := zw_get hu
          have bx := hps p hpm x (List.mem_of_getElem? hx)
          refine ⟨_, [some (.int m), some (PU ps), some (.tup (src.map .int)), some (.lst ((setAll (setAll (rangeI m) (T i)) ((p.zip ps[k]).take (j + 1))).map .int)), some (PT p), some (.int k), some (.int x), some (.int y)], sg2, .inl ?_, _, _, rfl⟩
          have ln : x < (((setAll (setAll (rangeI m) (T i)) ((p.zip ps[k]).take j)).map U.int).length : Nat) := by rw [List.length_map, setAll_len, setAll_len, rangeI_len]; omega
          simp only [PSall, ev0, List.map_cons, List.map_nil, List.length_cons, List.length_nil, List.cons_append, List.nil_append, Nat.reduceAdd, Nat.reduceSub, List.replicate_succ, List.replicate_zero, List.getElem?_cons_zero, List.getElem?_cons_succ, List.set_cons_zero, List.set_cons_succ, Option.getD_some, Option.getD_none, if_true, if_false, Bool.false_eq_true, e_fnN, Bool.not_true, Bool.not_false, siB_n bx.1 ln]
          rw [zip_take_succ hx hy, setAll_app]
          have es : ((setAll (setAll (rangeI m) (T i)) ((p.zip ps[k]).take j)).map U.int).set x.toNat (.int y) = (setAll (setAll (setAll (rangeI m) (T i)) ((p.zip ps[k]).take j)) [(x, y)]).map U.int := by
            rw [← List.map_set]; rfl
          rw [es])
        (ρ := [some (.int m), some (PU ps), some (.tup (src.map .int)), some (.lst ((setAll (rangeI m) (T i)).map .int)), some (PT p), some (.int k), c, d]) ⟨c, d, rfl⟩
      refine ⟨_, _, sg2, .inl ?_, some (PT p), some (.int k), c', d', rfl⟩
      have fin : (p.zip ps[k]).take (List.zipWith (fun a b => U.tup [a, b]) (p.map U.int) (ps[k].map U.int)).length = p.zip ps[k] := by
        refine List.take_of_length_le ?_
        rw [List.length_zipWith, List.length_map, List.length_map, List.length_zip]
        exact Nat.le_refl _
      rw [fin, ← setAll_app, ← t1] at e2
      simp only [PSall, ev0, List.map_cons, List.map_nil, List.length_cons, List.length_nil, List.cons_append, List.nil_append, Nat.reduceAdd, Nat.reduceSub, List.replicate_succ, List.replicate_zero, List.getElem?_cons_zero, List.getElem?_cons_succ, List.set_cons_zero, List.set_cons_succ, Option.getD_some, Option.getD_none, if_true, if_false, Bool.false_eq_true, e_fnN, Bool.not_true, Bool.not_false, PU, ek, e_Zip, PT, zipB_tt]
      simp only [PU, PT] at e2
      exact e2)
    (ρ := [some (.int m), some (PU ps), some (.tup (src.map .int)), some (.lst ((rangeI m).map .int)), none, none, none, none]) ⟨_, _, _, _, rfl⟩
  have hT : T (List.zipWith (fun a b => U.tup [a, b]) (ps.map PT) (src.map U.int)).length = prs ps src := by
    show ((ps.zip src).take _).flatMap _ = _
    rw [List.take_of_length_le (by rw [List.length_zipWith, List.length_map, List.length_map, List.length_zip]; exact Nat.le_refl _)]; rfl
  rw [hT, setAll_mv] at e1
  · simp only [PU] at e1
    simp only [f_exchanged, b_exchanged, PSall, ev0, List.map_cons, List.map_nil, List.length_cons, List.length_nil, List.cons_append, List.nil_append, Nat.reduceAdd, Nat.reduceSub, List.replicate_succ, List.replicate_zero, List.getElem?_cons_zero, List.getElem?_cons_succ, List.set_cons_zero, List.set_cons_succ, Option.getD_some, Option.getD_none, if_true, if_false, Bool.false_eq_true, e_fnN, Bool.not_true, Bool.not_false, PU, rngLB_n m (by omega), rangeU_I, e_Zip, zipB_tt, e1]
  · intro z hz
    obtain ⟨p, hp, hx⟩ := prs_mem hz
    exact (hps p hp _ hx).1
/-! ### a dict of numbers -/
theorem dget_a (k v k' : U) : ∀ (ks us : List U), ks.length = us.length → dget ks (List.zipWith (fun a u => if a = k then v else u) ks us) k' = if k = k' then (if k' ∈ ks then some v else none) else dget ks us k'
  | [], [], _ => by
    have n1 : ¬ k' ∈ ([] : List U) := fun z => nomatch z
    rw [if_neg n1]
    show (none : Option U) = if k = k' then none else none
    split <;> rfl
  | a :: ks, u :: us, hl => by
    rw [List.zipWith_cons_cons]
    show (if a = k' then some (if a = k then v else u) else dget ks (List.zipWith (fun a u => if a = k then v else u) ks us) k') = if k = k' then (if k' ∈ a :: ks then some v else none) else (if a = k' then some u else dget ks us k')
    by_cases c : a = k'
    · subst c
      rw [if_pos rfl, if_pos rfl]
      by_cases d : k = a
      · rw [if_pos d, if_pos List.mem_cons_self, if_pos d.symm]
      · rw [if_neg d, if_neg (fun z => d z.symm)]
    · rw [if_neg c, if_neg c, dget_a k v k' ks us (by simpa using hl)]
      by_cases d : k = k'
      · rw [if_pos d, if_pos d]
        by_cases e : k' ∈ ks
        · rw [if_pos e, if_pos (List.mem_cons_of_mem _ e)]
        · rw [if_neg e, if_neg (fun z => by
            rcases List.mem_cons.mp z with z | z
            · exact c z.symm
            · exact e z)]
      · rw [if_neg d, if_neg d]
theorem dget_b (k v k' : U) : ∀ (ks us : List U), ks.length = us.length → k ∉ ks → dget (ks ++ [k]) (us ++ [v]) k' = if k = k' then some v else dget ks us k'
  | [], [], _, _ => rfl
  | a :: ks, u :: us, hl, hn => by
    show (if a = k' then some u else dget (ks ++ [k]) (us ++ [v]) k') = if k = k' then some v else (if a = k' then some u else dget ks us k')
    by_cases c : a = k'
    · subst c
      rw [if_pos rfl, if_pos rfl, if_neg (show ¬ k = a from fun z => hn (by rw [z]; exact List.mem_cons_self))]
    · rw [if_neg c, if_neg c, dget_b k v k' ks us (by simpa using hl) fun z => hn (List.mem_cons_of_mem _ z)]
/-- what a dict holds that was written with q -/
def DOf (q : List (Int × Int)) (ks us : List U) : Prop := ks.length = us.length ∧ ks.length ≤ q.length ∧ ks.all isKk = true ∧ ∀ x : Int, (dget ks us (.int x)).getD (.int x) = .int (lastOf q x)
theorem dof_nil : DOf [] [] [] := ⟨rfl, Nat.le_refl _, rfl, fun _ => rfl⟩
theorem dof_put {q : List (Int × Int)} {ks us : List U} (h : DOf q ks us) (x y : Int) : DOf (q ++ [(x, y)]) (dputK ks (.int x)) (dputV ks us (.int x) (.int y)) := by
  obtain ⟨h1, h2, h3, h4⟩ := h
  have lo : ∀ z, lastOf (q ++ [(x, y)]) z = if x = z then y else lastOf q z := fun z => by
    unfold lastOf; rw [List.foldl_append]; rfl
  have g : ∀ z : Int, dget (dputK ks (.int x)) (dputV ks us (.int x) (.int y)) (.int z) = if x = z then some (.int y) else dget ks us (.int z) := fun z => by
    have iff : (U.int x = U.int z) = (x = z) := by rw [U.int.injEq]
    unfold dputK dputV
    by_cases c : U.int x ∈ ks
    · rw [if_pos c, if_pos c, dget_a _ _ _ ks us h1]
      by_cases d : x = z
      · subst d; rw [if_pos rfl, if_pos rfl, if_pos c]
      · rw [if_neg (fun z => d (U.int.inj z)), if_neg d]
    · rw [if_neg c, if_neg c, dget_b _ _ _ ks us h1 c]
      by_cases d : x = z
      · subst d; rw [if_pos rfl, if_pos rfl]
      · rw [if_neg (fun z => d (U.int.inj z)), if_neg d]
  refine ⟨?_, ?_, ?_, fun z => ?_⟩
  · unfold dputK dputV
    by_cases c : U.int x ∈ ks
    · rw [if_pos c, if_pos c, List.length_zipWith, ← h1, Nat.min_self]
    · rw [if_neg c, if_neg c, List.length_append, List.length_append, h1]; rfl
  · rw [List.length_append, List.length_singleton]
    unfold dputK
    split
    · omega
    · rw [List.length_append, List.length_singleton]; omega
  · unfold dputK
    split
    · exact h3
    · rw [List.all_append, h3]; rfl
  · rw [g, lo]
    by_cases c : x = z
    · rw [if_pos c, if_pos c]; rfl
    · rw [if_neg c, if_neg c]; exact h4 z
noncomputable def dpB (i : Nat) (v k : U) (ρ : Ev) (o : Option (Option U)) : SR := match o with
  | some (some (.dct ks us)) => if fitK ks k = true ∧ us.length < sizeLine then .nx (ρ.set i (some (.dct (dputK ks k) (dputV ks us k v)))) else .stk
  | _ => .stk
theorem e_DPut {i : Nat} {gv gk : Ev → R (U × Ev)} {ρ : Ev} : sDPutU i gv gk ρ = SR.of (gv ρ) fun x => if liveO x.2[i]? = true then SR.of (gk x.2) fun y => dpB i x.1 y.1 y.2 y.2[i]? else .stk := nr rfl
theorem dpB_ok {q : List (Int × Int)} {ks us : List U} (h : DOf q ks us) (hq : q.length < 1000000) {i : Nat} {v : U} {x : Int} {ρ : Ev} : dpB i v (.int x) ρ (some (some (.dct ks us))) = .nx (ρ.set i (some (.dct (dputK ks (.int x)) (dputV ks us (.int x) v)))) := by
  have f : fitK ks (.int x) = true := by unfold fitK; rw [h.2.2.1]; rfl
  have sz : sizeLine = 16777216 := rfl
  have l1 := h.1
  have l2 := h.2.1
  exact if_pos ⟨f, by omega⟩
noncomputable def dgB (k x : U) (ρ : Ev) (o : Option (Option U)) : R (U × Ev) := match o with
  | some (some (.dct ks us)) => if fitK ks k = true then .ok ((dget ks us k).getD x, ρ) else .stk
  | _ => .stk
noncomputable def dgA (i : Nat) (g2 g3 : Ev → R (U × Ev)) (ρ : Ev) (o : Option (Option U)) : R (U × Ev) := match o with
  | some (some (.dct _ _)) => (g2 ρ).bind fun k => (g3 k.2).bind fun x => dgB k.1 x.1 x.2 x.2[i]?
  | _ => .stk
theorem e_Dget2 {i : Nat} {g2 g3 : Ev → R (U × Ev)} {ρ : Ev} : gDget2 i g2 g3 ρ = dgA i g2 g3 ρ ρ[i]? := nr rfl
theorem dgA_s {i : Nat} {g2 g3 : Ev → R (U × Ev)} {ρ : Ev} {ks us : List U} : dgA i g2 g3 ρ (some (some (.dct ks us))) = (g2 ρ).bind fun k => (g3 k.2).bind fun x => dgB k.1 x.1 x.2 x.2[i]? := nr rfl
theorem dgB_ok {q : List (Int × Int)} {ks us : List U} (h : DOf q ks us) {x : Int} {ρ : Ev} : dgB (.int x) (.int x) ρ (some (some (.dct ks us))) = .ok (.int (lastOf q x), ρ) := by
  have f : fitK ks (.int x) = true := by unfold fitK; rw [h.2.2.1]; rfl
  exact (if_pos f).trans (by rw [h.2.2.2 x])
theorem zip_len_le {ps : List (List Int)} {src : List Int} {sz : Nat} (hsz : ∀ p ∈ ps, p.length = sz) (n : Nat) : (((ps.zip src).take n).flatMap fun z => z.1.zip (ps.getD z.2.toNat [])).length ≤ ps.length * sz := by
  have : ∀ (l : List (List Int × Int)), (∀ z ∈ l, z.1 ∈ ps) → (l.flatMap fun z => z.1.zip (ps.getD z.2.toNat [])).length ≤ l.length * sz := by
    intro l
    induction l with
    | nil => intro _; simp
    | cons z l ih =>
      intro h
      rw [List.flatMap_cons, List.length_append, List.length_cons, Nat.succ_mul]
      have h1 := ih fun y hy => h y (List.mem_cons_of_mem _ hy)
      have h2 := hsz z.1 (h z List.mem_cons_self)
      rw [List.length_zip]
      omega
  have h3 := this ((ps.zip src).take n) fun z hz => (List.of_mem_zip (List.mem_of_mem_take hz)).1
  refine Nat.le_trans h3 (Nat.mul_le_mul_right _ ?_)
  rw [List.length_take, List.length_zip]
  omega
theorem moved_ok {m sz : Nat} {ps : List (List Int)} {row : List Int} (hm : m ≤ 1000) (hn : ps.length ≤ 100) (hz : sz ≤ 100) (hsz : ∀ p ∈ ps, p.length = sz) (hl : row.length = ps.length) (hrow : ∀ s ∈ row, 0 ≤ s ∧ s < ps.length) :
    f__law_moved [.int m, PU ps, .lst (row.map .int)] = .ok (.tup ((mv m (prs ps row)).map .int)) := by
  let T := fun n => ((ps.zip row).take n).flatMap fun z => z.1.zip (ps.getD z.2.toNat [])
  have lT : ∀ n, (T n).length ≤ 10000 := fun n => Nat.le_trans (zip_len_le hsz n) (Nat.mul_le_mul hn hz)
  obtain ⟨ρ', e1, ks, us, a, b, rfl, hd⟩ := forGo_inv (us := (rangeI ps.length).map U.int) (sg := sgN 4)
    (s := sFor (gRng1 (aCons (gCB pLen (aCons (gOp pIx (gVar 1) (gVar 4)) aNil)) aNil)) (sgN 5) (sDPutU 3 (gOp pIx (gOp pIx (gVar 1) (gOp pIx (gVar 2) (gVar 4))) (gVar 5)) (gOp pIx (gOp pIx (gVar 1) (gVar 4)) (gVar 5))))
    (fun n ρ => ∃ (ks us : List U) (a b : Option U), ρ = [some (.int m), some (PU ps), some (.lst (row.map .int)), some (.dct ks us), a, b] ∧ DOf (T n) ks us)
    (fun i u ρ hu ⟨ks, us, a, b, hr, hd⟩ => by
      subst hr
      have hi : i < ps.length := by
        have := (List.getElem?_eq_some_iff.mp hu).1
        rw [List.length_map, rangeI_len] at this; exact this
      obtain rfl : u = .int i := by
        rw [List.getElem?_map, rangeI_get hi] at hu
        exact (Option.some.inj hu).symm
      have hir : i < row.length := by omega
      have hs := hrow row[i] (List.getElem_mem hir)
      obtain ⟨k, hk⟩ : ∃ k : Nat, row[i] = k := ⟨row[i].toNat, by omega⟩
      have hkl : k < ps.length := by omega
      have ei : atI (ps.map PT) (i : Int) = some (PT ps[i]) := by
        rw [atI_n, List.getElem?_map, List.getElem?_eq_getElem hi]; rfl
      have ek : atI (ps.map PT) (k : Int) = some (PT ps[k]) := by
        rw [atI_n, List.getElem?_map, List.getElem?_eq_getElem hkl]; rfl
      have er : atI (row.map U.int) (i : Int) = some (.int k) := by
        rw [atI_n, List.getElem?_map, List.getElem?_eq_getElem hir, hk]; rfl
      have gd : ps.getD k [] = ps[k] := by rw [List.getD_eq_getElem?_getD, List.getElem?_eq_getElem hkl]; rfl
      have li : ps[i].length = sz := hsz _ (List.getElem_mem hi)
      have lk : ps[k].length = sz := hsz _ (List.getElem_mem hkl)
      have t1 : T (i + 1) = T i ++ ps[i].zip ps[k] := by
        show ((ps.zip row).take (i + 1)).flatMap _ = _
        have e : (ps.zip row)[i]? = some (ps[i], (k : Int)) := by rw [List.zip, List.getElem?_zipWith, List.getElem?_eq_getElem hi, List.getElem?_eq_getElem hir, hk]
        rw [List.take_succ, e, List.flatMap_append]
        show _ ++ (ps[i].zip (ps.getD ((k : Int).toNat) []) ++ []) = _
        rw [Int.toNat_natCast, gd, List.append_nil]
      obtain ⟨ρ2, e2, ks', us', b', rfl, hd'⟩ := forGo_inv (us := (rangeI sz).map U.int) (sg := sgN 5) (s := sDPutU 3 (gOp pIx (gOp pIx (gVar 1) (gOp pIx (gVar 2) (gVar 4))) (gVar 5)) (gOp pIx (gOp pIx (gVar 1) (gVar 4)) (gVar 5)))
        (fun j ρ => ∃ (ks us : List U) (b : Option U), ρ = [some (.int m), some (PU ps), some (.lst (row.map .int)), some (.dct ks us), some (.int i), b] ∧ DOf (T i ++ (ps[i].zip ps[k]).take j) ks us)
        (fun j u ρ hu ⟨ks, us, b, hr, hd⟩ => by
          subst hr
          have hj : j < sz := by
            have := (List.getElem?_eq_some_iff.mp hu).1
            rw [List.length_map, rangeI_len] at this; exact this
          obtain rfl : u = .int j := by
            rw [List.getElem?_map, rangeI_get hj] at hu
            exact (Option.some.inj hu).symm
          have h1 : j < ps[i].length := by omega
          have h2 : j < ps[k].length := by omega
          have f1 : atI (ps[i].map U.int) (j : Int) = some (.int ps[i][j]) := by
            rw [atI_n, List.getElem?_map, List.getElem?_eq_getElem h1]; rfl
          have f2 : atI (ps[k].map U.int) (j : Int) = some (.int ps[k][j]) := by
            rw [atI_n, List.getElem?_map, List.getElem?_eq_getElem h2]; rfl
          have d2 := dof_put hd ps[i][j] ps[k][j]
          rw [List.append_assoc, ← zip_take_succ (List.getElem?_eq_getElem h1) (List.getElem?_eq_getElem h2)] at d2
          have lq : (T i ++ (ps[i].zip ps[k]).take j).length < 1000000 := by
            have := lT i
            rw [List.length_append, List.length_take, List.length_zip]
            omega
          refine ⟨_, _, rfl, .inl ?_, _, _, some (.int j), rfl, d2⟩
          simp only [PSall, ev0, List.map_cons, List.map_nil, List.length_cons, List.length_nil, List.cons_append, List.nil_append, Nat.reduceAdd, Nat.reduceSub, List.replicate_succ, List.replicate_zero, List.getElem?_cons_zero, List.getElem?_cons_succ, List.set_cons_zero, List.set_cons_succ, Option.getD_some, Option.getD_none, if_true, if_false, Bool.false_eq_true, e_fnN, Bool.not_true, Bool.not_false, PU, er, ek, ei, PT, f1, f2, e_DPut, dpB_ok hd lq])
        (ρ := [some (.int m), some (PU ps), some (.lst (row.map .int)), some (.dct ks us), some (.int i), b]) ⟨ks, us, b, rfl, by rw [List.take_zero, List.append_nil]; exact hd⟩
      rw [List.length_map, rangeI_len, List.take_of_length_le (by rw [List.length_zip]; omega), ← t1] at hd'
      refine ⟨_, _, rfl, .inl ?_, ks', us', some (.int i), b', rfl, hd'⟩
      simp only [PU, PT] at e2
      simp only [PSall, ev0, List.map_cons, List.map_nil, List.length_cons, List.length_nil, List.cons_append, List.nil_append, Nat.reduceAdd, Nat.reduceSub, List.replicate_succ, List.replicate_zero, List.getElem?_cons_zero, List.getElem?_cons_succ, List.set_cons_zero, List.set_cons_succ, Option.getD_some, Option.getD_none, if_true, if_false, Bool.false_eq_true, e_fnN, Bool.not_true, Bool.not_false, PU, ei, PT, List.length_map, li, rngB_n sz (by omega), rangeU_I, e2])
    (ρ := [some (.int m), some (PU ps), some (.lst (row.map .int)), some (.dct [] []), none, none]) ⟨_, _, _, _, rfl, dof_nil⟩
  have hT : T ((rangeI ps.length).map U.int).length = prs ps row := by
    show ((ps.zip row).take _).flatMap _ = _
    rw [List.take_of_length_le (by rw [List.length_map, rangeI_len, List.length_zip]; omega)]; rfl
  rw [hT] at hd
  have e2 : lcP (lcF [none, some 3] (sgN 0) hYes (gDget2 1 (gVar 0) (gVar 0)) [some (.int m), some (PU ps), some (.lst (row.map .int)), some (.dct ks us), a, b]) ((rangeI m).map U.int) = .ok (((rangeI m).map U.int).map fun u => match u with | .int x => .int (lastOf (prs ps row) x) | _ => .non) := by
    refine lcP_map fun u hu => ?_
    obtain ⟨x, hx, rfl⟩ := List.mem_map.mp hu
    simp only [PSall, ev0, List.map_cons, List.map_nil, List.length_cons, List.length_nil, List.cons_append, List.nil_append, Nat.reduceAdd, Nat.reduceSub, List.replicate_succ, List.replicate_zero, List.getElem?_cons_zero, List.getElem?_cons_succ, List.set_cons_zero, List.set_cons_succ, Option.getD_some, Option.getD_none, if_true, if_false, Bool.false_eq_true, e_fnN, Bool.not_true, Bool.not_false, e_Dget2, dgA_s, dgB_ok hd]
  rw [List.map_map] at e2
  simp only [PU] at e1 e2
  simp only [f__law_moved, b__law_moved, PSall, ev0, List.map_cons, List.map_nil, List.length_cons, List.length_nil, List.cons_append, List.nil_append, Nat.reduceAdd, Nat.reduceSub, List.replicate_succ, List.replicate_zero, List.getElem?_cons_zero, List.getElem?_cons_succ, List.set_cons_zero, List.set_cons_succ, Option.getD_some, Option.getD_none, if_true, if_false, Bool.false_eq_true, e_fnN, Bool.not_true, Bool.not_false, PU, List.length_map, rngB_n ps.length (by omega), rngB_n m (by omega), rangeU_I, e1, e2]
  unfold mv
  rw [List.map_map]; rfl
end Hc
end
section
set_option Elab.async false
set_option linter.all false
set_option maxRecDepth 100000
set_option maxHeartbeats 4000000
namespace Hc
open PySem L2
/-! ### slices -/
theorem cut_take (us : List U) (k : Nat) : cutL us none (some (k : Int)) = us.take k := by
  unfold cutL
  rw [HT.sIx_none, HT.sIx_nat, List.drop_zero, Nat.sub_zero]
  rcases Nat.le_total k us.length with h | h
  · rw [Nat.min_eq_left h]
  · rw [Nat.min_eq_right h, List.take_length, List.take_of_length_le h]
theorem cut_drop (us : List U) (k : Nat) : cutL us (some (k : Int)) none = us.drop k := by
  unfold cutL
  rw [HT.sIx_none, HT.sIx_nat]
  rcases Nat.le_total k us.length with h | h
  · rw [Nat.min_eq_left h, List.take_of_length_le (by rw [List.length_drop]; omega)]
  · rw [Nat.min_eq_right h, List.drop_length, List.drop_of_length_le h, List.take_nil]
theorem cut_mid (us : List U) (a b : Nat) (h1 : a ≤ b) (h2 : b ≤ us.length) : cutL us (some (a : Int)) (some (b : Int)) = (us.drop a).take (b - a) := by
  unfold cutL
  rw [HT.sIx_nat, HT.sIx_nat, Nat.min_eq_left h2, Nat.min_eq_left (Nat.le_trans h1 h2)]
/-! ### cuts -/
structure Good (m sz : Nat) (ps : List (List Int)) : Prop where
  n1 : 1 ≤ ps.length
  n8 : ps.length ≤ 8
  s8 : sz ≤ 8
  len : ∀ p ∈ ps, p.length = sz
  inn : ∀ p ∈ ps, ∀ x ∈ p, 0 ≤ x ∧ x < m
def rotI (n t : Nat) : List Int := (rangeI n).drop t ++ (rangeI n).take t
theorem rot_eq : ∀ n, n ≤ 8 → ∀ t, t < n → rotI n t = (rangeI n).map fun k : Int => (k + (t : Int)) % (n : Int) := by decide +kernel
theorem rot_in : ∀ n, n ≤ 8 → ∀ t, t < n → ∀ s ∈ rotI n t, 0 ≤ s ∧ s < n := by decide +kernel
theorem rot_len : ∀ n, n ≤ 8 → ∀ t, t < n → (rotI n t).length = n := by decide +kernel
def cutI (m : Nat) (ps : List (List Int)) : List (List Int) := (List.range ps.length).map fun t => mv m (prs ps (rotI ps.length t))
theorem pile_cut_ok {m sz : Nat} {ps : List (List Int)} (hm : m ≤ 1000) (g : Good m sz ps) : f_pile_cut [.int m, PU ps] = .ok (PU (cutI m ps)) := by
  have sl : sizeLine = 16777216 := rfl
  have n8 := g.n8
  have e : lcP (lcF [none, some 0, some 1, some 2] (sgN 0) hYes (gCF 3 f_exchanged (aCons (gVar 1) (aCons (gVar 2) (aCons (gOp pAdd (gSl pSl (gVar 3) (oSome (gVar 0)) oNone) (gSl pSl (gVar 3) oNone (oSome (gVar 0)))) aNil)))) [some (.int m), some (PU ps), some (.tup ((rangeI ps.length).map .int))]) ((rangeI ps.length).map U.int) = .ok (((rangeI ps.length).map U.int).map fun u => match u with | .int x => PT (mv m (prs ps (rotI ps.length x.toNat))) | _ => .non) := by
    refine lcP_map fun u hu => ?_
    obtain ⟨x, hx, rfl⟩ := List.mem_map.mp hu
    obtain ⟨b0, b1⟩ := mem_rangeI.mp hx
    obtain ⟨t, rfl⟩ : ∃ t : Nat, x = t := ⟨x.toNat, by omega⟩
    have ht : t < ps.length := by omega
    have el : ((List.drop t ((rangeI ps.length).map U.int)).length + (List.take t ((rangeI ps.length).map U.int)).length) ≤ sizeLine := by
      rw [List.length_drop, List.length_take, List.length_map, rangeI_len]; omega
    have er : List.drop t ((rangeI ps.length).map U.int) ++ List.take t ((rangeI ps.length).map U.int) = (rotI ps.length t).map U.int := by
      unfold rotI
      rw [List.map_append, List.map_drop, List.map_take]
    have ex := exchanged_ok (src := rotI ps.length t) hm g.inn (rot_in _ n8 t ht)
    simp only [PSall, ev0, List.map_cons, List.map_nil, List.length_cons, List.length_nil, List.cons_append, List.nil_append, Nat.reduceAdd, Nat.reduceSub, List.replicate_succ, List.replicate_zero, List.getElem?_cons_zero, List.getElem?_cons_succ, List.set_cons_zero, List.set_cons_succ, Option.getD_some, Option.getD_none, if_true, if_false, Bool.false_eq_true, e_fnN, Bool.not_true, Bool.not_false, cut_drop, cut_take, el, er, ex, Int.toNat_natCast, PT]
  rw [List.map_map] at e
  simp only [PU] at e
  simp only [f_pile_cut, b_pile_cut, PSall, ev0, List.map_cons, List.map_nil, List.length_cons, List.length_nil, List.cons_append, List.nil_append, Nat.reduceAdd, Nat.reduceSub, List.replicate_succ, List.replicate_zero, List.getElem?_cons_zero, List.getElem?_cons_succ, List.set_cons_zero, List.set_cons_succ, Option.getD_some, Option.getD_none, if_true, if_false, Bool.false_eq_true, e_fnN, Bool.not_true, Bool.not_false, PU, List.length_map, rngTB_n ps.length (by omega), rangeU_I, e]
  unfold cutI
  rw [List.map_map]
  congr 2
  unfold rangeI
  rw [List.map_map]; rfl
theorem turns_ok {m sz : Nat} {ps : List (List Int)} (hm : m ≤ 1000) (g : Good m sz ps) : f__law_turns [.int m, PU ps] = .ok (PU (cutI m ps)) := by
  have sl : sizeLine = 16777216 := rfl
  have n8 := g.n8
  have s8 := g.s8
  have n1 := g.n1
  obtain ⟨ρ', e1, a, rfl⟩ := forGo_inv (us := (rangeI ps.length).map U.int) (sg := sgN 3)
    (s := sExpr (gM "list" 2 pAppend (aCons (gLCp (gRng1 (aCons (gCB pLen (aCons (gVar 1) aNil)) aNil)) [none, some 3, some 1] (sgN 0) hYes (gOp pMod (gOp pAdd (gVar 0) (gVar 1)) (gCB pLen (aCons (gVar 2) aNil)))) aNil)))
    (fun i ρ => ∃ a : Option U, ρ = [some (.int m), some (PU ps), some (.lst ((List.range i).map fun t => .lst ((rotI ps.length t).map .int))), a])
    (fun i u ρ hu ⟨a, hr⟩ => by
      subst hr
      have hi : i < ps.length := by
        have := (List.getElem?_eq_some_iff.mp hu).1
        rw [List.length_map, rangeI_len] at this; exact this
      obtain rfl : u = .int i := by
        rw [List.getElem?_map, rangeI_get hi] at hu
        exact (Option.some.inj hu).symm
      have e : lcP (lcF [none, some 3, some 1] (sgN 0) hYes (gOp pMod (gOp pAdd (gVar 0) (gVar 1)) (gCB pLen (aCons (gVar 2) aNil))) [some (.int m), some (PU ps), some (.lst ((List.range i).map fun t => .lst ((rotI ps.length t).map .int))), some (.int i)]) ((rangeI ps.length).map U.int) = .ok (((rangeI ps.length).map U.int).map fun u => match u with | .int x => .int ((x + i) % ps.length) | _ => .non) := by
        refine lcP_map fun u hu => ?_
        obtain ⟨x, hx, rfl⟩ := List.mem_map.mp hu
        have d : decide ((0 : Int) < (ps.length : Nat)) = true := decide_eq_true (by omega)
        simp only [PSall, ev0, List.map_cons, List.map_nil, List.length_cons, List.length_nil, List.cons_append, List.nil_append, Nat.reduceAdd, Nat.reduceSub, List.replicate_succ, List.replicate_zero, List.getElem?_cons_zero, List.getElem?_cons_succ, List.set_cons_zero, List.set_cons_succ, Option.getD_some, Option.getD_none, if_true, if_false, Bool.false_eq_true, e_fnN, Bool.not_true, Bool.not_false, PU, List.length_map, d]
      rw [List.map_map] at e
      have ee : ((rangeI ps.length).map ((fun u => match u with | .int x => U.int ((x + i) % ps.length) | _ => .non) ∘ U.int)) = (rotI ps.length i).map U.int := by
        rw [rot_eq _ n8 i hi, List.map_map]; rfl
      rw [ee] at e
      have ap : ∀ us : List U, us.length < 1000 → ∀ w : U, pAppend (.lst us) [w] = .ok (.non, .lst (us ++ [w])) := fun us h w => if_pos (by omega)
      refine ⟨_, [some (.int m), some (PU ps), some (.lst ((List.range (i + 1)).map fun t => .lst ((rotI ps.length t).map .int))), some (.int i)], rfl, .inl ?_, _, rfl⟩
      simp only [PU] at e
      rw [List.range_succ, List.map_append]
      simp only [PSall, ev0, List.map_cons, List.map_nil, List.length_cons, List.length_nil, List.cons_append, List.nil_append, Nat.reduceAdd, Nat.reduceSub, List.replicate_succ, List.replicate_zero, List.getElem?_cons_zero, List.getElem?_cons_succ, List.set_cons_zero, List.set_cons_succ, Option.getD_some, Option.getD_none, if_true, if_false, Bool.false_eq_true, e_fnN, Bool.not_true, Bool.not_false, PU, List.length_map, rngB_n ps.length (by omega), rangeU_I, e, ap _ (show ((List.range i).map fun t => U.lst ((rotI ps.length t).map .int)).length < 1000 by rw [List.length_map, List.length_range]; omega)])
    (ρ := [some (.int m), some (PU ps), some (.lst []), none]) ⟨_, rfl⟩
  have e2 : lcP (lcF [none, some 0, some 1] (sgN 0) hYes (gCF 3 f__law_moved (aCons (gVar 1) (aCons (gVar 2) (aCons (gVar 0) aNil)))) [some (.int m), some (PU ps), some (.lst ((List.range ps.length).map fun t => .lst ((rotI ps.length t).map .int))), a]) ((List.range ps.length).map fun t => .lst ((rotI ps.length t).map .int)) = .ok (((List.range ps.length).map fun t => U.lst ((rotI ps.length t).map .int)).map fun u => match u with | .lst r => (match intsU r with | some r => PT (mv m (prs ps r)) | _ => .non) | _ => .non) := by
    refine lcP_map fun u hu => ?_
    obtain ⟨t, hx, rfl⟩ := List.mem_map.mp hu
    have ht : t < ps.length := List.mem_range.mp hx
    have mo := moved_ok (m := m) (sz := sz) (row := rotI ps.length t) hm (by omega) (by omega) g.len (rot_len _ n8 t ht) (rot_in _ n8 t ht)
    simp only [PSall, ev0, List.map_cons, List.map_nil, List.length_cons, List.length_nil, List.cons_append, List.nil_append, Nat.reduceAdd, Nat.reduceSub, List.replicate_succ, List.replicate_zero, List.getElem?_cons_zero, List.getElem?_cons_succ, List.set_cons_zero, List.set_cons_succ, Option.getD_some, Option.getD_none, if_true, if_false, Bool.false_eq_true, e_fnN, Bool.not_true, Bool.not_false, mo, ints_map, PT]
  rw [List.map_map] at e2
  simp only [PU, List.length_map, rangeI_len] at e1 e2
  have l0 : (0 : Nat) ≤ sizeLine := Nat.zero_le _
  simp only [f__law_turns, b__law_turns, PSall, ev0, List.map_cons, List.map_nil, List.length_cons, List.length_nil, List.cons_append, List.nil_append, Nat.reduceAdd, Nat.reduceSub, List.replicate_succ, List.replicate_zero, List.getElem?_cons_zero, List.getElem?_cons_succ, List.set_cons_zero, List.set_cons_succ, Option.getD_some, Option.getD_none, if_true, if_false, Bool.false_eq_true, e_fnN, Bool.not_true, Bool.not_false, PU, List.length_map, l0, rngB_n ps.length (by omega), rangeU_I, e1, e2]
  unfold cutI
  rw [List.map_map]
  congr 2
  refine List.map_congr_left fun t ht => ?_
  show (match intsU ((rotI ps.length t).map U.int) with | some r => PT (mv m (prs ps r)) | _ => .non) = _
  rw [ints_map]; rfl
/-! ### two things of a kind -/
def in2B (T1 T2 : String) (u : U) (ρ : Ev) : R (U × Ev) := if tyU u = "script" then .stk else .ok (.bl (isT (tyU u) T1 || isT (tyU u) T2), ρ)
theorem e_Inst2 {T1 T2 : String} {g : Ev → R (U × Ev)} {ρ : Ev} : gInst2 T1 T2 g ρ = (g ρ).bind fun x => in2B T1 T2 x.1 x.2 := nr rfl
theorem in2_int {i : Int} {ρ : Ev} : in2B "tuple" "list" (.int i) ρ = .ok (.bl false, ρ) := (if_neg (show ¬ ("int" = "script") by decide)).trans (congrArg (fun z => R.ok (U.bl z, ρ)) (show (isT "int" "tuple" || isT "int" "list") = false by decide))
theorem in2_str {i : Str} {ρ : Ev} : in2B "tuple" "list" (.str i) ρ = .ok (.bl false, ρ) := (if_neg (show ¬ ("str" = "script") by decide)).trans (congrArg (fun z => R.ok (U.bl z, ρ)) (show (isT "str" "tuple" || isT "str" "list") = false by decide))
theorem in2_tup {us : List U} {ρ : Ev} : in2B "tuple" "list" (.tup us) ρ = .ok (.bl true, ρ) := (if_neg (show ¬ ("tuple" = "script") by decide)).trans (congrArg (fun z => R.ok (U.bl z, ρ)) (show (isT "tuple" "tuple" || isT "tuple" "list") = true by decide))
theorem same_int {k : Nat} {i : Int} : f__law_same (k + 1) [.int i, .int i] = .ok (.bl true) := by
  simp only [f__law_same, b__law_same, PSall, ev0, List.map_cons, List.map_nil, List.length_cons, List.length_nil, List.cons_append, List.nil_append, Nat.reduceAdd, Nat.reduceSub, List.replicate_succ, List.replicate_zero, List.getElem?_cons_zero, List.getElem?_cons_succ, List.set_cons_zero, List.set_cons_succ, Option.getD_some, Option.getD_none, if_true, if_false, Bool.false_eq_true, e_fnN, Bool.not_true, Bool.not_false, e_Inst2, in2_int, eq_int, eq_bl, beq_self_eq_true, id]
theorem same_str {k : Nat} {i : Str} : f__law_same (k + 1) [.str i, .str i] = .ok (.bl true) := by
  simp only [f__law_same, b__law_same, PSall, ev0, List.map_cons, List.map_nil, List.length_cons, List.length_nil, List.cons_append, List.nil_append, Nat.reduceAdd, Nat.reduceSub, List.replicate_succ, List.replicate_zero, List.getElem?_cons_zero, List.getElem?_cons_succ, List.set_cons_zero, List.set_cons_succ, Option.getD_some, Option.getD_none, if_true, if_false, Bool.false_eq_true, e_fnN, Bool.not_true, Bool.not_false, e_Inst2, in2_str, eq_str, eq_bl, beq_self_eq_true, id]
theorem zw_self (us : List U) : List.zipWith (fun a b => U.tup [a, b]) us us = us.map fun a => .tup [a, a] := by
  induction us with
  | nil => rfl
  | cons u us ih => rw [List.zipWith_cons_cons, ih]; rfl
theorem same_tup {k : Nat} {us : List U} (h : ∀ u ∈ us, f__law_same k [u, u] = .ok (.bl true)) : f__law_same (k + 1) [.tup us, .tup us] = .ok (.bl true) := by
  have e : lcP (lcF [none, none] (sgTup 2 (sgCons (sgN 0) (sgCons (sgN 1) sgNil))) hYes (gCF 2 (runF .S 2 (b__law_same k)) (aCons (gVar 0) (aCons (gVar 1) aNil))) [some (.tup us), some (.tup us)]) (us.map fun a => U.tup [a, a]) = .ok ((us.map fun a => U.tup [a, a]).map fun _ => .bl true) := by
    refine lcP_map fun u hu => ?_
    obtain ⟨x, hx, rfl⟩ := List.mem_map.mp hu
    have hs : runF .S 2 (b__law_same k) [x, x] = .ok (.bl true) := h x hx
    rw [lcF_e, sg2]
    simp only [PSall, ev0, List.map_cons, List.map_nil, List.length_cons, List.length_nil, List.cons_append, List.nil_append, Nat.reduceAdd, Nat.reduceSub, List.replicate_succ, List.replicate_zero, List.getElem?_cons_zero, List.getElem?_cons_succ, List.set_cons_zero, List.set_cons_succ, Option.getD_some, Option.getD_none, if_true, if_false, Bool.false_eq_true, e_fnN, Bool.not_true, Bool.not_false]
    simp only [e_runF] at hs
    simp only [PSall, ev0, List.map_cons, List.map_nil, List.length_cons, List.length_nil, List.cons_append, List.nil_append, Nat.reduceAdd, Nat.reduceSub, List.replicate_succ, List.replicate_zero, List.getElem?_cons_zero, List.getElem?_cons_succ, List.set_cons_zero, List.set_cons_succ, Option.getD_some, Option.getD_none, if_true, if_false, Bool.false_eq_true, e_fnN, Bool.not_true, Bool.not_false] at hs
    simp only [hs, PSall, ev0, List.map_cons, List.map_nil, List.length_cons, List.length_nil, List.cons_append, List.nil_append, Nat.reduceAdd, Nat.reduceSub, List.replicate_succ, List.replicate_zero, List.getElem?_cons_zero, List.getElem?_cons_succ, List.set_cons_zero, List.set_cons_succ, Option.getD_some, Option.getD_none, if_true, if_false, Bool.false_eq_true, e_fnN, Bool.not_true, Bool.not_false]
  rw [List.map_map] at e
  have ea := all_map_bl us fun _ => true
  have eb : (us.all fun _ => true) = true := by rw [List.all_eq_true]; intros; rfl
  rw [eb] at ea
  simp only [f__law_same, b__law_same, PSall, ev0, List.map_cons, List.map_nil, List.length_cons, List.length_nil, List.cons_append, List.nil_append, Nat.reduceAdd, Nat.reduceSub, List.replicate_succ, List.replicate_zero, List.getElem?_cons_zero, List.getElem?_cons_succ, List.set_cons_zero, List.set_cons_succ, Option.getD_some, Option.getD_none, if_true, if_false, Bool.false_eq_true, e_fnN, Bool.not_true, Bool.not_false, e_Inst2, in2_tup, eq_int, eq_bl, beq_self_eq_true, Bool.not_true, e_Zip, zipB_tt, zw_self, id]
  have e3 : ((fun _ => U.bl true) ∘ fun a => U.tup [a, a]) = fun _ : U => U.bl true := rfl
  rw [e3] at e
  simp only [e, PSall, ev0, List.map_cons, List.map_nil, List.length_cons, List.length_nil, List.cons_append, List.nil_append, Nat.reduceAdd, Nat.reduceSub, List.replicate_succ, List.replicate_zero, List.getElem?_cons_zero, List.getElem?_cons_succ, List.set_cons_zero, List.set_cons_succ, Option.getD_some, Option.getD_none, if_true, if_false, Bool.false_eq_true, e_fnN, Bool.not_true, Bool.not_false, ea]
theorem same_ints {k : Nat} (r : List Int) : f__law_same (k + 2) [PT r, PT r] = .ok (.bl true) := same_tup fun u hu => by
  obtain ⟨x, _, rfl⟩ := List.mem_map.mp hu
  exact same_int
theorem same_PU (rs : List (List Int)) : f__law_same 20 [PU rs, PU rs] = .ok (.bl true) := same_tup fun u hu => by
  obtain ⟨x, _, rfl⟩ := List.mem_map.mp hu
  exact same_ints x
/-! ### mixed piles -/
def arrI : Nat → List Int → List (List Int)
  | 0, _ => []
  | _ + 1, [] => [[]]
  | n + 1, l => l.flatMap fun x => (arrI n (l.filter fun y => y != x)).map fun r => x :: r
theorem arr_all : ∀ n, 1 ≤ n → n ≤ 4 → f_arrangements 20 [.lst ((rangeI n).map .int)] = .ok (.lst ((arrI 5 (rangeI n)).map PT))
  | 1, _, _ => by kernel_rfl
  | 2, _, _ => by kernel_rfl
  | 3, _, _ => by kernel_rfl
  | 4, _, _ => by kernel_rfl
theorem row_all : ∀ n, 1 ≤ n → n ≤ 4 → f__law_rows 20 [.lst ((rangeI n).map .int)] = .ok (.lst ((arrI 5 (rangeI n)).map fun r => .lst (r.map .int)))
  | 1, _, _ => by kernel_rfl
  | 2, _, _ => by kernel_rfl
  | 3, _, _ => by kernel_rfl
  | 4, _, _ => by kernel_rfl
theorem arr_in : ∀ n, n ≤ 4 → ∀ r ∈ arrI 5 (rangeI n), r.length = n ∧ ∀ s ∈ r, 0 ≤ s ∧ s < n := by decide +kernel
def mixI (m : Nat) (ps : List (List Int)) : List (List Int) := (arrI 5 (rangeI ps.length)).map fun r => mv m (prs ps r)
theorem told_few {m sz : Nat} {ps : List (List Int)} (hm : m ≤ 1000) (g : Good m sz ps) (h4 : ps.length ≤ 4) : f__law_told [.int m, PU ps] = .ok (PU (mixI m ps)) := by
  have n1 := g.n1
  have e : lcP (lcF [none, some 0, some 1] (sgN 0) hYes (gCF 3 f_exchanged (aCons (gVar 1) (aCons (gVar 2) (aCons (gVar 0) aNil)))) [some (.int m), some (PU ps)]) ((arrI 5 (rangeI ps.length)).map PT) = .ok (((arrI 5 (rangeI ps.length)).map PT).map fun u => match u with | .tup r => (match intsU r with | some r => PT (mv m (prs ps r)) | _ => .non) | _ => .non) := by
    refine lcP_map fun u hu => ?_
    obtain ⟨r, hr, rfl⟩ := List.mem_map.mp hu
    have ex := exchanged_ok (src := r) hm g.inn (arr_in _ h4 r hr).2
    simp only [PSall, ev0, List.map_cons, List.map_nil, List.length_cons, List.length_nil, List.cons_append, List.nil_append, Nat.reduceAdd, Nat.reduceSub, List.replicate_succ, List.replicate_zero, List.getElem?_cons_zero, List.getElem?_cons_succ, List.set_cons_zero, List.set_cons_succ, Option.getD_some, Option.getD_none, if_true, if_false, Bool.false_eq_true, e_fnN, Bool.not_true, Bool.not_false, PT, ex, ints_map]
  rw [List.map_map] at e
  have d : decide ((4 : Int) < ((ps.length : Nat) : Int)) = false := decide_eq_false (by omega)
  have ar := arr_all ps.length n1 h4
  have pm : f_pile_mix [.int m, PU ps] = .ok (PU (mixI m ps)) := by
    simp only [PU] at e
    simp only [f_pile_mix, b_pile_mix, PSall, ev0, List.map_cons, List.map_nil, List.length_cons, List.length_nil, List.cons_append, List.nil_append, Nat.reduceAdd, Nat.reduceSub, List.replicate_succ, List.replicate_zero, List.getElem?_cons_zero, List.getElem?_cons_succ, List.set_cons_zero, List.set_cons_succ, Option.getD_some, Option.getD_none, if_true, if_false, Bool.false_eq_true, e_fnN, Bool.not_true, Bool.not_false, PU, List.length_map, d, rngLB_n ps.length (by omega), rangeU_I, ar, e]
    unfold mixI
    rw [List.map_map]
    congr 2
    refine List.map_congr_left fun r hr => ?_
    show (match intsU (r.map U.int) with | some r => PT (mv m (prs ps r)) | _ => .non) = _
    rw [ints_map]; rfl
  have pl : pLen [PU ps] = .ok (.int (ps.length : Nat)) := by
    unfold PU
    rw [p_lenT, List.length_map]
  unfold f__law_told
  dsimp only
  rw [pl]
  dsimp only
  rw [if_neg (by omega), pm]
theorem told_many {m sz : Nat} {ps : List (List Int)} (g : Good m sz ps) (h4 : 4 < ps.length) : f__law_told [.int m, PU ps] = .ok (.str "many") := by
  have pl : pLen [PU ps] = .ok (.int (ps.length : Nat)) := by
    unfold PU
    rw [p_lenT, List.length_map]
  unfold f__law_told
  dsimp only
  rw [pl]
  dsimp only
  rw [if_pos (by omega)]
/-! ### drawn piles -/
theorem piles_ok {s : U} {m : Nat} (h : StU s) (m1 : 1 ≤ m) (m8 : m ≤ 8) : ∃ (sz : Nat) (ps : List (List Int)) (s' : U), f__law_piles [s, .int m] = .ok (PU ps, s') ∧ Good m sz ps ∧ StU s' := by
  have sl : sizeLine = 16777216 := rfl
  have l2 : (2 : Nat) ≤ sizeLine := by decide
  -- the size
  obtain ⟨r1, s1, ea, q0, q1, h1⟩ : ∃ r s1, gCI 2 0 f__law_take (aCons (gIf (gB (gOp pGt (gVar 1) (gC (.int 1)))) (gOp pIx (gLstD (aCons (gVar 1) (aCons (gC (.int 2)) aNil))) (gCI 2 0 f__law_take (aCons (gC (.int 2)) aNil))) (gC (.int 1))) aNil) [some s, some (.int m), none, none, none] = .ok (.int r, [some s1, some (.int m), none, none, none]) ∧ 0 ≤ r ∧ r < m ∧ StU s1 := by
    by_cases c : 1 < m
    · obtain ⟨b, s1, e1, b0, b1, h1⟩ := take_ok (m := 2) h (by decide) (by decide)
      have d : decide ((1 : Int) < (m : Int)) = true := decide_eq_true (by omega)
      have hb : b = 0 ∨ b = 1 := by omega
      rcases hb with rfl | rfl
      · obtain ⟨r, s2, e2, c0, c1, h2⟩ := take_ok (m := (m : Int)) h1 (by omega) (by omega)
        refine ⟨r, s2, ?_, c0, c1, h2⟩
        simp only [PSall, ev0, List.map_cons, List.map_nil, List.length_cons, List.length_nil, List.cons_append, List.nil_append, Nat.reduceAdd, Nat.reduceSub, List.replicate_succ, List.replicate_zero, List.getElem?_cons_zero, List.getElem?_cons_succ, List.set_cons_zero, List.set_cons_succ, Option.getD_some, Option.getD_none, if_true, if_false, Bool.false_eq_true, e_fnN, Bool.not_true, Bool.not_false, d, l2, e1, e2]
      · obtain ⟨r, s2, e2, c0, c1, h2⟩ := take_ok (m := 2) h1 (by decide) (by decide)
        refine ⟨r, s2, ?_, c0, by omega, h2⟩
        simp only [PSall, ev0, List.map_cons, List.map_nil, List.length_cons, List.length_nil, List.cons_append, List.nil_append, Nat.reduceAdd, Nat.reduceSub, List.replicate_succ, List.replicate_zero, List.getElem?_cons_zero, List.getElem?_cons_succ, List.set_cons_zero, List.set_cons_succ, Option.getD_some, Option.getD_none, if_true, if_false, Bool.false_eq_true, e_fnN, Bool.not_true, Bool.not_false, d, l2, e1, e2]
    · obtain ⟨r, s2, e2, c0, c1, h2⟩ := take_ok (m := 1) h (by decide) (by decide)
      have d : decide ((1 : Int) < (m : Int)) = false := decide_eq_false (by omega)
      refine ⟨r, s2, ?_, c0, by omega, h2⟩
      simp only [PSall, ev0, List.map_cons, List.map_nil, List.length_cons, List.length_nil, List.cons_append, List.nil_append, Nat.reduceAdd, Nat.reduceSub, List.replicate_succ, List.replicate_zero, List.getElem?_cons_zero, List.getElem?_cons_succ, List.set_cons_zero, List.set_cons_succ, Option.getD_some, Option.getD_none, if_true, if_false, Bool.false_eq_true, e_fnN, Bool.not_true, Bool.not_false, d, e2]
  obtain ⟨z, hz⟩ : ∃ z : Nat, 1 + r1 = z := ⟨(1 + r1).toNat, by omega⟩
  have z1 : 1 ≤ z := by omega
  have zm : z ≤ m := by omega
  have dv : (m : Int) / (z : Int) = ((m / z : Nat) : Int) := by omega
  have dp : 1 ≤ m / z := (Nat.le_div_iff_mul_le (by omega)).mpr (by omega)
  have dl : m / z ≤ m := Nat.div_le_self m z
  obtain ⟨r2, s2, eb, c0, c1, h2⟩ := take_ok (m := ((m / z : Nat) : Int)) h1 (by omega) (by omega)
  obtain ⟨c, hc⟩ : ∃ c : Nat, 1 + r2 = c := ⟨(1 + r2).toNat, by omega⟩
  have cd : c ≤ m / z := by omega
  have cz : c * z ≤ m := Nat.le_trans (Nat.mul_le_mul_right z cd) (Nat.div_mul_le_self m z)
  obtain ⟨os, s3, ec, ho, h3⟩ := order_ok (m := m) h2 (by omega)
  have lo : os.length = m := by have := ho.length_eq; rw [rangeI_len] at this; exact this
  have e : lcP (lcF [none, some 4, some 2] (sgN 0) hYes (gSl pSl (gVar 1) (oSome (gOp pMulI (gVar 0) (gVar 2))) (oSome (gOp pAdd (gOp pMulI (gVar 0) (gVar 2)) (gVar 2)))) [some s3, some (.int m), some (.int z), some (.int c), some (.tup (os.map .int))]) ((rangeI c).map U.int) = .ok (((rangeI c).map U.int).map fun u => match u with | .int x => PT ((os.drop (x.toNat * z)).take z) | _ => .non) := by
    refine lcP_map fun u hu => ?_
    obtain ⟨x, hx, rfl⟩ := List.mem_map.mp hu
    obtain ⟨b0, b1⟩ := mem_rangeI.mp hx
    obtain ⟨k, rfl⟩ : ∃ k : Nat, x = k := ⟨x.toNat, by omega⟩
    have kc : k + 1 ≤ c := by omega
    have kz : (k + 1) * z ≤ m := Nat.le_trans (Nat.mul_le_mul_right z kc) cz
    rw [Nat.succ_mul] at kz
    have cm : cMul (k : Int) (z : Int) = true := cMul_r (by omega) (by omega)
    have e1 : (k : Int) * (z : Int) = ((k * z : Nat) : Int) := by push_cast; rfl
    have e2 : ((k * z : Nat) : Int) + (z : Int) = ((k * z + z : Nat) : Int) := by push_cast; rfl
    have e3 := cut_mid (os.map U.int) (k * z) (k * z + z) (by omega) (by rw [List.length_map, lo]; omega)
    rw [Nat.add_sub_cancel_left, ← List.map_drop, ← List.map_take] at e3
    simp only [PSall, ev0, List.map_cons, List.map_nil, List.length_cons, List.length_nil, List.cons_append, List.nil_append, Nat.reduceAdd, Nat.reduceSub, List.replicate_succ, List.replicate_zero, List.getElem?_cons_zero, List.getElem?_cons_succ, List.set_cons_zero, List.set_cons_succ, Option.getD_some, Option.getD_none, if_true, if_false, Bool.false_eq_true, e_fnN, Bool.not_true, Bool.not_false, cm, e1, e2, e3, Int.toNat_natCast, PT]
  rw [List.map_map] at e
  refine ⟨z, (List.range c).map fun k => (os.drop (k * z)).take z, s3, ?_, ⟨?_, ?_, by omega, fun p hp => ?_, fun p hp x hx => ?_⟩, h3⟩
  · have cv : cDiv (m : Int) (z : Int) = true := cDiv_of (by omega) (by omega)
    simp only [f__law_piles, b__law_piles, PSall, ev0, List.map_cons, List.map_nil, List.length_cons, List.length_nil, List.cons_append, List.nil_append, Nat.reduceAdd, Nat.reduceSub, List.replicate_succ, List.replicate_zero, List.getElem?_cons_zero, List.getElem?_cons_succ, List.set_cons_zero, List.set_cons_succ, Option.getD_some, Option.getD_none, if_true, if_false, Bool.false_eq_true, e_fnN, Bool.not_true, Bool.not_false] at ea ⊢
    simp only [PSall, ev0, List.map_cons, List.map_nil, List.length_cons, List.length_nil, List.cons_append, List.nil_append, Nat.reduceAdd, Nat.reduceSub, List.replicate_succ, List.replicate_zero, List.getElem?_cons_zero, List.getElem?_cons_succ, List.set_cons_zero, List.set_cons_succ, Option.getD_some, Option.getD_none, if_true, if_false, Bool.false_eq_true, e_fnN, Bool.not_true, Bool.not_false, ea, hz, cv, dv, eb, hc, ec, rngB_n c (by omega), rangeU_I, e]
    unfold PU rangeI
    rw [List.map_map, List.map_map]; rfl
  · rw [List.length_map, List.length_range]; omega
  · rw [List.length_map, List.length_range]; omega
  · obtain ⟨k, hk, rfl⟩ := List.mem_map.mp hp
    have kc : k + 1 ≤ c := by have := List.mem_range.mp hk; omega
    have kz : (k + 1) * z ≤ m := Nat.le_trans (Nat.mul_le_mul_right z kc) cz
    rw [Nat.succ_mul] at kz
    rw [List.length_take, List.length_drop, lo]; omega
  · obtain ⟨k, hk, rfl⟩ := List.mem_map.mp hp
    exact mem_rangeI.mp (ho.mem_iff.mp (List.mem_of_mem_drop (List.mem_of_mem_take hx)))
end Hc
end
section
set_option Elab.async false
set_option linter.all false
set_option maxRecDepth 100000
set_option maxHeartbeats 4000000
namespace Hc
open PySem L2
theorem cut_ok {m : Nat} {pl : List Int} (hm : m ≤ 1000) (l1 : 1 ≤ pl.length) (l8 : pl.length ≤ 8) (hp : ∀ x ∈ pl, 0 ≤ x ∧ x < m) : f_cut [.int m, .tup (pl.map .int)] = .ok (PU (cutI m (pl.map fun x => [x]))) ∧ f__law_turns [.int m, PU (pl.map fun x => [x])] = .ok (PU (cutI m (pl.map fun x => [x]))) := by
  have g : Good m 1 (pl.map fun x => [x]) := ⟨by rw [List.length_map]; exact l1, by rw [List.length_map]; exact l8, by decide, fun p h => by obtain ⟨x, _, rfl⟩ := List.mem_map.mp h; rfl, fun p h y hy => by
    obtain ⟨x, hx, rfl⟩ := List.mem_map.mp h
    rw [List.mem_singleton] at hy
    subst hy
    exact hp y hx⟩
  refine ⟨?_, turns_ok hm g⟩
  have l2 : (1 : Nat) ≤ sizeLine := by decide
  have e : lcP (lcF [none] (sgN 0) hYes (gTupD (aCons (gVar 0) aNil)) [some (.int m), some (.tup (pl.map .int))]) (pl.map U.int) = .ok ((pl.map U.int).map fun u => .tup [u]) := by
    refine lcP_map fun u hu => ?_
    simp only [PSall, ev0, List.map_cons, List.map_nil, List.length_cons, List.length_nil, List.cons_append, List.nil_append, Nat.reduceAdd, Nat.reduceSub, List.replicate_succ, List.replicate_zero, List.getElem?_cons_zero, List.getElem?_cons_succ, List.set_cons_zero, List.set_cons_succ, Option.getD_some, Option.getD_none, if_true, if_false, Bool.false_eq_true, e_fnN, Bool.not_true, Bool.not_false, l2]
  have ep : (pl.map U.int).map (fun u => U.tup [u]) = (pl.map fun x => [x]).map PT := by
    rw [List.map_map, List.map_map]; rfl
  rw [ep] at e
  have pc := pile_cut_ok hm g
  simp only [f_cut, b_cut, PSall, ev0, List.map_cons, List.map_nil, List.length_cons, List.length_nil, List.cons_append, List.nil_append, Nat.reduceAdd, Nat.reduceSub, List.replicate_succ, List.replicate_zero, List.getElem?_cons_zero, List.getElem?_cons_succ, List.set_cons_zero, List.set_cons_succ, Option.getD_some, Option.getD_none, if_true, if_false, Bool.false_eq_true, e_fnN, Bool.not_true, Bool.not_false, e]
  show finF .S (SR.of ((f_pile_cut [.int m, PU (pl.map fun x => [x])]).bind _) _) = _
  rw [pc]; rfl
theorem due_few {m sz : Nat} {ps : List (List Int)} {a b c : Option U} {i s p : U} (hm : m ≤ 1000) (g : Good m sz ps) (h4 : ps.length ≤ 4) :
    lcP (lcF [none, some 3, some 5] (sgN 0) hYes (gCF 3 f__law_moved (aCons (gVar 1) (aCons (gVar 2) (aCons (gVar 0) aNil)))) [a, some i, some s, some (.int m), some p, some (PU ps), some (.str "many")]) ((arrI 5 (rangeI ps.length)).map fun r => .lst (r.map .int)) = .ok ((mixI m ps).map PT) := by
  have n8 := g.n8
  have s8 := g.s8
  have e : lcP (lcF [none, some 3, some 5] (sgN 0) hYes (gCF 3 f__law_moved (aCons (gVar 1) (aCons (gVar 2) (aCons (gVar 0) aNil)))) [a, some i, some s, some (.int m), some p, some (PU ps), some (.str "many")]) ((arrI 5 (rangeI ps.length)).map fun r => .lst (r.map .int)) = .ok (((arrI 5 (rangeI ps.length)).map fun r => U.lst (r.map .int)).map fun u => match u with | .lst r => (match intsU r with | some r => PT (mv m (prs ps r)) | _ => .non) | _ => .non) := by
    refine lcP_map fun u hu => ?_
    obtain ⟨r, hr, rfl⟩ := List.mem_map.mp hu
    have mo := moved_ok (m := m) (sz := sz) (row := r) hm (by omega) (by omega) g.len (arr_in _ h4 r hr).1 (arr_in _ h4 r hr).2
    simp only [PSall, ev0, List.map_cons, List.map_nil, List.length_cons, List.length_nil, List.cons_append, List.nil_append, Nat.reduceAdd, Nat.reduceSub, List.replicate_succ, List.replicate_zero, List.getElem?_cons_zero, List.getElem?_cons_succ, List.set_cons_zero, List.set_cons_succ, Option.getD_some, Option.getD_none, if_true, if_false, Bool.false_eq_true, e_fnN, Bool.not_true, Bool.not_false, mo, ints_map, PT]
  rw [e, List.map_map]
  unfold mixI
  rw [List.map_map]
  congr 1
  refine List.map_congr_left fun r hr => ?_
  show (match intsU (r.map U.int) with | some r => PT (mv m (prs ps r)) | _ => .non) = _
  rw [ints_map]; rfl
theorem pure_law (ns : List Int) (hl : ns.length ≤ 63) : f_law [.scr (ns.map .int)] = .ok (.bl true) := by
  have sz : sizeLine = 16777216 := rfl
  have two : (2 : Nat) ≤ sizeLine := by decide
  have one : (1 : Nat) ≤ sizeLine := by decide
  obtain ⟨z, hz⟩ : ∃ z : Nat, (if (if (4 : Int) < (((ns.map U.int).length : Nat) : Int) then 4 else (((ns.map U.int).length : Nat) : Int)) > 1 then (if (4 : Int) < (((ns.map U.int).length : Nat) : Int) then 4 else (((ns.map U.int).length : Nat) : Int)) else 1) = z := ⟨(if (if (4 : Int) < (((ns.map U.int).length : Nat) : Int) then 4 else (((ns.map U.int).length : Nat) : Int)) > 1 then (if (4 : Int) < (((ns.map U.int).length : Nat) : Int) then 4 else (((ns.map U.int).length : Nat) : Int)) else 1).toNat, by split <;> (try split) <;> omega⟩
  have zb : z ≤ 1000 := by split at hz <;> (try split at hz) <;> omega
  have loop := forGo_inv (us := rangeU 0 z) (sg := sgN 1) (s := ?_) (fun _ ρ => ∃ a b c d e f : Option U, ρ = [some (.scr (ns.map .int)), a, b, c, d, e, f]) ?_ (ρ := [some (.scr (ns.map .int)), none, none, none, none, none, none]) ⟨_, _, _, _, _, _, rfl⟩
  rotate_left
  · exact (sSeq (sSet 2 (gCF 2 f__law_state (aCons (gVar 0) (aCons (gVar 1) aNil))))
  (sSeq (sSet 3 (gOp pAdd (gC (.int 1)) (gCI 2 2 f__law_take (aCons (gC (.int 8)) aNil))))
  (sSeq (sSet 4 (gSl pSl (gCI 2 2 f__law_order (aCons (gVar 3) aNil)) oNone (oSome (gOp pAdd (gC (.int 1)) (gCI 2 2 f__law_take (aCons (gVar 3) aNil))))))
  (sSeq (sIf (hNot (gB (gCF 2 (f__law_same 20) (aCons (gCF 2 f_cut (aCons (gVar 3) (aCons (gVar 4) aNil))) (aCons (gCF 2 f__law_turns (aCons (gVar 3) (aCons (gCB pTuple (aCons (gLCp (gSeq (gVar 4)) [none] (sgN 0) hYes (gTupD (aCons (gVar 0) aNil))) aNil)) aNil))) aNil))))) (sRet (gC (.bl false))) sNext)
  (sFor (gSeq (gLstD (aCons (gCI 2 2 f__law_piles (aCons (gVar 3) aNil)) (aCons (gCI 2 2 f__law_piles (aCons (gVar 3) aNil)) aNil)))) (sgN 5)
  (sSeq (sIf (hNot (gB (gCF 2 (f__law_same 20) (aCons (gCF 2 f_pile_cut (aCons (gVar 3) (aCons (gVar 5) aNil))) (aCons (gCF 2 f__law_turns (aCons (gVar 3) (aCons (gVar 5) aNil))) aNil))))) (sRet (gC (.bl false))) sNext)
  (sSeq (sSet 6 (gC (.str "many")))
  (sSeq (sIf (gB (gOp pLt (gCB pLen (aCons (gVar 5) aNil)) (gC (.int 5)))) (sSet 6 (gCB pTuple (aCons (gLCp (gSeq (gCF 1 (f__law_rows 20) (aCons (gRngL (aCons (gCB pLen (aCons (gVar 5) aNil)) aNil)) aNil))) [none, some 3, some 5] (sgN 0) hYes (gCF 3 f__law_moved (aCons (gVar 1) (aCons (gVar 2) (aCons (gVar 0) aNil))))) aNil))) sNext)
  (sIf (hNot (gB (gCF 2 (f__law_same 20) (aCons (gCF 2 f__law_told (aCons (gVar 3) (aCons (gVar 5) aNil))) (aCons (gVar 6) aNil))))) (sRet (gC (.bl false))) sNext)))))))))
  · rintro i u ρ hu ⟨a, b, c, d, e, f, rfl⟩
    have hi : i < z := by
      have := (List.getElem?_eq_some_iff.mp hu).1
      rw [rangeU_len] at this; exact this
    obtain rfl : u = .int i := by
      rw [rangeU_I, List.getElem?_map, rangeI_get hi] at hu
      exact (Option.some.inj hu).symm
    obtain ⟨s0, e0, h0⟩ := state_ok (us := []) (u := .scr (ns.map .int)) (ns := ns) (k := i) (.inl rfl) (by omega)
    obtain ⟨m, s1, e1, m0, m1, h1⟩ := take_ok (m := 8) h0 (by decide) (by decide)
    obtain ⟨k, hk⟩ : ∃ k : Nat, 1 + m = k := ⟨(1 + m).toNat, by omega⟩
    obtain ⟨os, s2, e2, ho, h2⟩ := order_ok (m := k) h1 (by omega)
    have lo : os.length = k := by have := ho.length_eq; rw [rangeI_len] at this; exact this
    obtain ⟨r, s3, e3, r0, r1, h3⟩ := take_ok (m := (k : Int)) h2 (by omega) (by omega)
    obtain ⟨j, hj⟩ : ∃ j : Nat, 1 + r = j := ⟨(1 + r).toNat, by omega⟩
    obtain ⟨q1, q2⟩ := cut_ok (m := k) (pl := os.take j) (by omega) (by rw [List.length_take, lo]; omega) (by rw [List.length_take, lo]; omega) fun x hx => mem_rangeI.mp (ho.mem_iff.mp (List.mem_of_mem_take hx))
    obtain ⟨z1, ps1, s4, e4, g1, h4⟩ := piles_ok (m := k) h3 (by omega) (by omega)
    obtain ⟨z2, ps2, s5, e5, g2, h5⟩ := piles_ok (m := k) h4 (by omega) (by omega)
    have ec := cut_take (os.map U.int) j
    rw [← List.map_take] at ec
    have et : lcP (lcF [none] (sgN 0) hYes (gTupD (aCons (gVar 0) aNil)) [some (.scr (ns.map .int)), some (.int i), some s3, some (.int k), some (.tup ((os.take j).map .int)), e, f]) ((os.take j).map U.int) = .ok (((os.take j).map U.int).map fun u => .tup [u]) := by
      refine lcP_map fun u hu => ?_
      simp only [PSall, ev0, List.map_cons, List.map_nil, List.length_cons, List.length_nil, List.cons_append, List.nil_append, Nat.reduceAdd, Nat.reduceSub, List.replicate_succ, List.replicate_zero, List.getElem?_cons_zero, List.getElem?_cons_succ, List.set_cons_zero, List.set_cons_succ, Option.getD_some, Option.getD_none, if_true, if_false, Bool.false_eq_true, e_fnN, Bool.not_true, Bool.not_false, one]
    have ep : ((os.take j).map U.int).map (fun u => U.tup [u]) = ((os.take j).map fun x => [x]).map PT := by
      rw [List.map_map, List.map_map]; rfl
    rw [ep] at et
    have inner : ∀ ps : List (List Int), (∃ z, Good k z ps) → ∀ a b : Option U, ∃ c : U, ((sSeq (sIf (hNot (gB (gCF 2 (f__law_same 20) (aCons (gCF 2 f_pile_cut (aCons (gVar 3) (aCons (gVar 5) aNil))) (aCons (gCF 2 f__law_turns (aCons (gVar 3) (aCons (gVar 5) aNil))) aNil))))) (sRet (gC (.bl false))) sNext)
  (sSeq (sSet 6 (gC (.str "many")))
  (sSeq (sIf (gB (gOp pLt (gCB pLen (aCons (gVar 5) aNil)) (gC (.int 5)))) (sSet 6 (gCB pTuple (aCons (gLCp (gSeq (gCF 1 (f__law_rows 20) (aCons (gRngL (aCons (gCB pLen (aCons (gVar 5) aNil)) aNil)) aNil))) [none, some 3, some 5] (sgN 0) hYes (gCF 3 f__law_moved (aCons (gVar 1) (aCons (gVar 2) (aCons (gVar 0) aNil))))) aNil))) sNext)
  (sIf (hNot (gB (gCF 2 (f__law_same 20) (aCons (gCF 2 f__law_told (aCons (gVar 3) (aCons (gVar 5) aNil))) (aCons (gVar 6) aNil))))) (sRet (gC (.bl false))) sNext))))) [some (.scr (ns.map .int)), some (.int i), some s5, some (.int k), some (.tup ((os.take j).map .int)), some (PU ps), b] = .nx [some (.scr (ns.map .int)), some (.int i), some s5, some (.int k), some (.tup ((os.take j).map .int)), some (PU ps), some c] := by
      rintro ps ⟨zz, g⟩ a b
      have pc := pile_cut_ok (m := k) (by omega) g
      have tu := turns_ok (m := k) (by omega) g
      have sa := same_PU (cutI k ps)
      have n1 := g.n1
      by_cases few : ps.length ≤ 4
      · refine ⟨PU (mixI k ps), ?_⟩
        have dd : decide (((ps.length : Nat) : Int) < 5) = true := decide_eq_true (by omega)
        have tf := told_few (m := k) (by omega) g few
        have ro := row_all ps.length n1 few
        have df := due_few (m := k) (a := some (.scr (ns.map .int))) (b := none) (c := none) (i := .int i) (s := s5) (p := .tup ((os.take j).map .int)) (by omega) g few
        have sb := same_PU (mixI k ps)
        simp only [PU] at pc tu sa tf df sb
        simp only [PSall, ev0, List.map_cons, List.map_nil, List.length_cons, List.length_nil, List.cons_append, List.nil_append, Nat.reduceAdd, Nat.reduceSub, List.replicate_succ, List.replicate_zero, List.getElem?_cons_zero, List.getElem?_cons_succ, List.set_cons_zero, List.set_cons_succ, Option.getD_some, Option.getD_none, if_true, if_false, Bool.false_eq_true, e_fnN, Bool.not_true, Bool.not_false, PU, pc, tu, sa, List.length_map, dd, rngLB_n ps.length (by omega), rangeU_I, ro, df, tf, sb]
      · refine ⟨.str "many", ?_⟩
        have dd : decide (((ps.length : Nat) : Int) < 5) = false := decide_eq_false (by omega)
        have tf := told_many (m := k) g (by omega)
        have sb : f__law_same 20 [.str "many", .str "many"] = .ok (.bl true) := same_str
        simp only [PU] at pc tu sa tf
        simp only [PSall, ev0, List.map_cons, List.map_nil, List.length_cons, List.length_nil, List.cons_append, List.nil_append, Nat.reduceAdd, Nat.reduceSub, List.replicate_succ, List.replicate_zero, List.getElem?_cons_zero, List.getElem?_cons_succ, List.set_cons_zero, List.set_cons_succ, Option.getD_some, Option.getD_none, if_true, if_false, Bool.false_eq_true, e_fnN, Bool.not_true, Bool.not_false, PU, pc, tu, sa, List.length_map, dd, tf, sb]
    obtain ⟨c1, i1⟩ := inner ps1 ⟨z1, g1⟩ e f
    obtain ⟨c2, i2⟩ := inner ps2 ⟨z2, g2⟩ (some (PU ps1)) (some c1)
    have lp : forGo (sgN 5) ((sSeq (sIf (hNot (gB (gCF 2 (f__law_same 20) (aCons (gCF 2 f_pile_cut (aCons (gVar 3) (aCons (gVar 5) aNil))) (aCons (gCF 2 f__law_turns (aCons (gVar 3) (aCons (gVar 5) aNil))) aNil))))) (sRet (gC (.bl false))) sNext)
  (sSeq (sSet 6 (gC (.str "many")))
  (sSeq (sIf (gB (gOp pLt (gCB pLen (aCons (gVar 5) aNil)) (gC (.int 5)))) (sSet 6 (gCB pTuple (aCons (gLCp (gSeq (gCF 1 (f__law_rows 20) (aCons (gRngL (aCons (gCB pLen (aCons (gVar 5) aNil)) aNil)) aNil))) [none, some 3, some 5] (sgN 0) hYes (gCF 3 f__law_moved (aCons (gVar 1) (aCons (gVar 2) (aCons (gVar 0) aNil))))) aNil))) sNext)
  (sIf (hNot (gB (gCF 2 (f__law_same 20) (aCons (gCF 2 f__law_told (aCons (gVar 3) (aCons (gVar 5) aNil))) (aCons (gVar 6) aNil))))) (sRet (gC (.bl false))) sNext))))) [PU ps1, PU ps2] [some (.scr (ns.map .int)), some (.int i), some s5, some (.int k), some (.tup ((os.take j).map .int)), e, f] = .nx [some (.scr (ns.map .int)), some (.int i), some s5, some (.int k), some (.tup ((os.take j).map .int)), some (PU ps2), some c2] := by
      rw [for_cons]
      simp only [e_sgN, of_ok, List.set_cons_zero, List.set_cons_succ]
      rw [i1, turn_nx, for_cons]
      simp only [e_sgN, of_ok, List.set_cons_zero, List.set_cons_succ]
      rw [i2, turn_nx, for_nil]
    refine ⟨[some (.scr (ns.map .int)), some (.int i), b, c, d, e, f], [some (.scr (ns.map .int)), some (.int i), some s5, some (.int k), some (.tup ((os.take j).map .int)), some (PU ps2), some c2], rfl, .inl ?_, _, _, _, _, _, _, rfl⟩
    have sc := same_PU (cutI k ((os.take j).map fun x => [x]))
    simp only [PU] at q2 et
    simp only [PU] at q1 sc e4 e5 lp
    simp only [PSall, ev0, List.map_cons, List.map_nil, List.length_cons, List.length_nil, List.cons_append, List.nil_append, Nat.reduceAdd, Nat.reduceSub, List.replicate_succ, List.replicate_zero, List.getElem?_cons_zero, List.getElem?_cons_succ, List.set_cons_zero, List.set_cons_succ, Option.getD_some, Option.getD_none, if_true, if_false, Bool.false_eq_true, e_fnN, Bool.not_true, Bool.not_false, PU, e0, e1, hk, e2, e3, hj, ec, q1, et, q2, sc, e4, e5, two, lp]
  · obtain ⟨ρ', e, a, b, c, d, e', f, rfl⟩ := loop
    simp only [f_law, b_law, PSall, ev0, List.map_cons, List.map_nil, List.length_cons, List.length_nil, List.cons_append, List.nil_append, Nat.reduceAdd, Nat.reduceSub, List.replicate_succ, List.replicate_zero, List.getElem?_cons_zero, List.getElem?_cons_succ, List.set_cons_zero, List.set_cons_succ, Option.getD_some, Option.getD_none, if_true, if_false, Bool.false_eq_true, e_fnN, Bool.not_true, Bool.not_false, hz, rngB_n z (by omega), e]
end Hc
end
set_option Elab.async false
set_option linter.all false
set_option maxRecDepth 100000
set_option maxHeartbeats 4000000
namespace Hc
open PySem L2
theorem walk {q : Program} {loose : List Str} {XP : (Str → Option Value) → Heap → Prop} {YP : World → Heap → Prop} {d : DefRec} {K : Params → PySem.W.Frag} (hdf : d.params.defaults = [])
    (hY : ∀ (w : World) (h : Heap), YP w h → (K w.params).In h)
    (F : ∀ (w : World) (mg : Str → Option Value) (fa : Addr) (h : Heap), (K w.params).In h → h.Ns mainGlobals mg → mg d.name = some (.ref fa) →
      ∃ fd : FuncData, (∀ (s : Shared) (u : Value), BindsTo s fd ⟨[u], []⟩ [("script", u)]) ∧ ∀ base : Heap, (K w.params).In base → base.Ns mainGlobals mg → FnOk PySem.Challenge.rw_hushcards_k15_cuts_and_piles.prog w (K w.params) mg base CX0 24 fa fd ["script"] (spLaw (K w.params))) :
    PySem.W.WalkO q loose XP YP PySem.Challenge.rw_hushcards_k15_cuts_and_piles.row.toRowW d [] (fun f vs => PySem.call f vs) :=
  L2.walk_of (l := PySem.Challenge.rw_hushcards_k15_cuts_and_piles) (n := 63) (k := 24) (x := "script") (CX := fun _ => CX0) (sp := fun w => spLaw (K w.params)) rfl (by decide) hdf ⟨rfl, by decide, by decide⟩ hY F (fun _ _ a ns hl hO hS => ⟨a, ns, rfl, scr_of hO hS, hl, fun _ => rfl⟩) fun _ _ _ _ _ z => z
end Hc
open PySem PySem.W PyProof.Rows
set_option maxRecDepth 100000 in
set_option maxHeartbeats 0 in
theorem PySem.Challenge.cw_hushcards_k15_cuts_and_piles_holds : PySem.Challenge.rw_hushcards_k15_cuts_and_piles.Holds := by
  w_on; o_law; k_head; (case hw => w_witness2)
  k_fill
  refine Hc.walk rfl (fun w h Y => PySem.W.kIn_of Y) ?F
  case F =>
    intro w mg fa h KX G hmg
    refine' Hc.all_mk KX G hmg ?a0 ?l0 ?c0 ?k0 ?a1 ?l1 ?c1 ?k1 ?a2 ?l2 ?c2 ?k2 ?a3 ?l3 ?c3 ?k3 ?a4 ?l4 ?c4 ?k4 ?a5 ?l5 ?c5 ?k5 ?a6 ?l6 ?c6 ?k6 ?a7 ?l7 ?c7 ?k7 ?a8 ?l8 ?c8 ?k8 ?a9 ?l9 ?c9 ?k9 ?a10 ?l10 ?c10 ?k10 ?a11 ?l11 ?c11 ?k11 ?a12 ?l12 ?c12 ?k12 ?a13 ?l13 ?c13 ?k13 ?a14 ?l14 ?c14 ?k14 ?a15 ?l15 ?c15 ?k15 ?a16 ?l16 ?c16 ?k16 ?z_all ?z_bool ?z_isinstance ?z_len ?z_list ?z_max ?z_min ?z_range ?z_tuple ?z_zip ?g_MOST_PILES_MIXED ?n_NoPlan ?n_NoWay ?n_NoEnd ?n_NoFormula ?n_TooMany ?n_NoName ?n_BadNote ?n_CardError ?x_exc ?e_ga ?e_gn ?e_cl ?e_gt ?e_tk ?e_ob ?e_be ?x_card ?x_ve ?x_zve ?k_NoPlan ?k_NoWay ?k_NoEnd ?k_NoFormula ?k_TooMany ?k_NoName ?k_BadNote Hc.pure_law
    (case a0 => k_is)
    (case l0 => k_is)
    (case c0 => k_is)
    (case k0 => k_is)
    (case a1 => k_is)
    (case l1 => k_is)
    (case c1 => k_is)
    (case k1 => k_is)
    (case a2 => k_is)
    (case l2 => k_is)
    (case c2 => k_is)
    (case k2 => k_is)
    (case a3 => k_is)
    (case l3 => k_is)
    (case c3 => k_is)
    (case k3 => k_is)
    (case a4 => k_is)
    (case l4 => k_is)
    (case c4 => k_is)
    (case k4 => k_is)
    (case a5 => k_is)
    (case l5 => k_is)
    (case c5 => k_is)
    (case k5 => k_is)
    (case a6 => k_is)
    (case l6 => k_is)
    (case c6 => k_is)
    (case k6 => k_is)
    (case a7 => k_is)
    (case l7 => k_is)
    (case c7 => k_is)
    (case k7 => k_is)
    (case a8 => k_is)
    (case l8 => k_is)
    (case c8 => k_is)
    (case k8 => k_is)
    (case a9 => k_is)
    (case l9 => k_is)
    (case c9 => k_is)
    (case k9 => k_is)
    (case a10 => k_is)
    (case l10 => k_is)
    (case c10 => k_is)
    (case k10 => k_is)
    (case a11 => k_is)
    (case l11 => k_is)
    (case c11 => k_is)
    (case k11 => k_is)
    (case a12 => k_is)
    (case l12 => k_is)
    (case c12 => k_is)
    (case k12 => k_is)
    (case a13 => k_is)
    (case l13 => k_is)
    (case c13 => k_is)
    (case k13 => k_is)
    (case a14 => k_is)
    (case l14 => k_is)
    (case c14 => k_is)
    (case k14 => k_is)
    (case a15 => k_is)
    (case l15 => k_is)
    (case c15 => k_is)
    (case k15 => k_is)
    (case a16 => k_is)
    (case l16 => k_is)
    (case c16 => k_is)
    (case k16 => k_is)
    (case z_all => k_is)
    (case z_bool => k_is)
    (case z_isinstance => k_is)
    (case z_len => k_is)
    (case z_list => k_is)
    (case z_max => k_is)
    (case z_min => k_is)
    (case z_range => k_is)
    (case z_tuple => k_is)
    (case z_zip => k_is)
    (case g_MOST_PILES_MIXED => k_is)
    (case n_NoPlan => k_is)
    (case n_NoWay => k_is)
    (case n_NoEnd => k_is)
    (case n_NoFormula => k_is)
    (case n_TooMany => k_is)
    (case n_NoName => k_is)
    (case n_BadNote => k_is)
    (case n_CardError => k_is)
    (case x_exc => k_exc)
    (case e_ga => k_is)
    (case e_gn => k_is)
    (case e_cl => k_is)
    (case e_gt => k_is)
    (case e_tk => k_is)
    (case e_ob => k_is)
    (case e_be => k_is)
    (case x_card => kts_exm)
    (case x_ve => kit_is)
    (case x_zve => k_is)
    (case k_NoPlan => kit_is)
    (case k_NoWay => kit_is)
    (case k_NoEnd => kit_is)
    (case k_NoFormula => kit_is)
    (case k_TooMany => kit_is)
    (case k_NoName => kit_is)
    (case k_BadNote => kit_is)
