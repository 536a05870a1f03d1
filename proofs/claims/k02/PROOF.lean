import PyProof.Rows.All
import Wide.All
import OpenK.AllK
import Wide.FinOn
import Lean
import PyProof.EqAt
import PyProof.EqKinds
import PyProof.TupleCall
import PySem.Challenge.RW_postnet_k02_refused
set_option Elab.async false
set_option linter.all false
set_option maxRecDepth 100000
/-! THE HAND LAYER, for ints, bools, texts, own classes, LISTS and tuples (index, slices, in, append, pop ..), calls, loops. Paste it whole ahead of your own text; what your proof does not reach may be deleted. -/
namespace L2
open PySem PySem.Spec PyProof.Rows

/-- a key: an int or a str -/
noncomputable abbrev Key := Sum Int Str
noncomputable def keyIs : Key → Value → Bool
  | .inl k, v => Value.isInt k v
  | .inr x, v => Value.isStrOf x v
noncomputable def keyH (w : World) : Key → Int
  | .inl k => hashInt k
  | .inr x => hashStr w x
theorem keyIs_shape : ∀ {k : Key} {v : Value}, keyIs k v = true → (∃ i t, k = Sum.inl i ∧ v = Value.int i t) ∨ (∃ x t, k = Sum.inr x ∧ v = Value.str x t)
  | .inl i, v, h => by
    obtain ⟨t, e⟩ := Value.isInt_shape (k := i) (v := v) h
    exact .inl ⟨i, t, rfl, e⟩
  | .inr x, v, h => by
    obtain ⟨t, e⟩ := Value.isStrOf_shape (x := x) (v := v) h
    exact .inr ⟨x, t, rfl, e⟩
theorem keyIs_int (i : Int) (t : Tok) : keyIs (.inl i) (.int i t) = true := by simp [keyIs, Value.isInt]
theorem keyIs_str (x : Str) (t : Tok) : keyIs (.inr x) (.str x t) = true := by simp [keyIs, Value.isStrOf]
theorem key_ll (a b : Int) : decide ((Sum.inl a : Key) = Sum.inl b) = (a == b) := by
  by_cases e : a = b
  · subst e; simp
  · have h : ¬ (Sum.inl a : Key) = Sum.inl b := fun q => e (Sum.inl.inj q)
    rw [decide_eq_false h]
    exact (beq_eq_false_iff_ne.mpr e).symm
theorem key_rr (a b : Str) : decide ((Sum.inr a : Key) = Sum.inr b) = decide (a = b) := by
  by_cases e : a = b
  · subst e; simp
  · have h : ¬ (Sum.inr a : Key) = Sum.inr b := fun q => e (Sum.inr.inj q)
    rw [decide_eq_false h, decide_eq_false e]
theorem key_lr (a : Int) (b : Str) : decide ((Sum.inl a : Key) = Sum.inr b) = false := decide_eq_false (fun q => nomatch q)
theorem key_rl (a : Str) (b : Int) : decide ((Sum.inr a : Key) = Sum.inl b) = false := decide_eq_false (fun q => nomatch q)

noncomputable def mixKind (prog : Program) (w : World) : PySem.KeyKind prog w Key where
  is := keyIs
  hash := keyH w
  inj := fun v a b ha hb => by
    rcases keyIs_shape ha with ⟨i, t, rfl, rfl⟩ | ⟨x, t, rfl, rfl⟩
    · rcases keyIs_shape hb with ⟨j, u, rfl, e⟩ | ⟨y, u, rfl, e⟩
      · injection e with e1 _; rw [e1]
      · exact nomatch e
    · rcases keyIs_shape hb with ⟨j, u, rfl, e⟩ | ⟨y, u, rfl, e⟩
      · exact nomatch e
      · injection e with e1 _; rw [e1]
  byValue := fun k v h => by
    rcases keyIs_shape h with ⟨i, t, rfl, rfl⟩ | ⟨x, t, rfl, rfl⟩ <;> rfl
  pyHash := fun hv h => by
    rcases keyIs_shape hv with ⟨i, t, rfl, rfl⟩ | ⟨x, t, rfl, rfl⟩
    · exact wpAny_pyHash_int h
    · exact wpAny_pyHash_str h
  eqBool := fun hu hv h => by
    rcases keyIs_shape hu with ⟨i, t, rfl, rfl⟩ | ⟨x, t, rfl, rfl⟩
    · rcases keyIs_shape hv with ⟨j, u, rfl, rfl⟩ | ⟨y, u, rfl, rfl⟩
      · rw [key_ll] at h; exact wpAny_eqBool_int h
      · rw [key_lr] at h; exact SeqAt.EqAt.int_str i t y u _ _ _ _ h
    · rcases keyIs_shape hv with ⟨j, u, rfl, rfl⟩ | ⟨y, u, rfl, rfl⟩
      · rw [key_rl] at h; exact SeqAt.EqAt.str_int x t j u _ _ _ _ h
      · rw [key_rr] at h; exact wpAny_eqBool_str h
  «strs» := fun k x t v h => by
    rcases keyIs_shape h with ⟨i, u, rfl, e⟩ | ⟨y, u, rfl, e⟩
    · exact nomatch e
    · injection e with e1 _
      subst e1
      cases v <;> rfl

theorem mixKind_int (prog : Program) (w : World) (i : Int) (t : Tok) : (mixKind prog w).is (.inl i) (.int i t) = true := keyIs_int i t
theorem mixKind_str (prog : Program) (w : World) (x : Str) (t : Tok) : (mixKind prog w).is (.inr x) (.str x t) = true := keyIs_str x t
end L2

namespace L2
open PySem PySem.Spec PyProof.Rows

/-- a value, without the heap -/
inductive V where
  | non | bl (b : Bool) | int (i : Int) | str (x : Str) | byt (b : Array UInt8) | flt (b : UInt64) | ref (a : Addr) | ty (n : String)
  deriving DecidableEq

noncomputable def RelV : V → Value → Prop
  | .non, u => u = Value.none
  | .bl b, u => u = Value.bool b
  | .int i, u => ∃ t, u = Value.int i t
  | .str x, u => ∃ t, u = Value.str x t
  | .byt b, u => ∃ t, u = Value.bytes b t
  | .flt b, u => ∃ t, u = Value.float b t
  | .ref a, u => u = Value.ref a
  | .ty n, u => u = Value.type n

noncomputable abbrev Vals : List V → List Value → Prop := Paired RelV
theorem Vals.length {xs : List V} {us : List Value} (r : Vals xs us) : xs.length = us.length := Paired.length r
theorem Vals.get : ∀ {xs : List V} {us : List Value} {i : Nat} {x : V}, Vals xs us → xs[i]? = some x → ∃ u, us[i]? = some u ∧ RelV x u
  | _, _, _, _, .nil, e => by simp at e
  | _, _, 0, _, .cons r _, e => by simp at e; subst e; exact ⟨_, rfl, r⟩
  | _, _, i + 1, x, .cons _ t, e => by
    obtain ⟨u, h1, h2⟩ := Vals.get (i := i) (x := x) t (by simpa using e)
    exact ⟨u, by simpa using h1, h2⟩
theorem Vals.set {x : V} {u : Value} (r : RelV x u) : ∀ {xs : List V} {us : List Value} (i : Nat), Vals xs us → Vals (xs.set i x) (us.set i u)
  | _, _, _, .nil => .nil
  | _, _, 0, .cons _ t => .cons r t
  | _, _, i + 1, .cons q t => .cons q (Vals.set r i t)
theorem Vals.append : ∀ {xs ys : List V} {us ws : List Value}, Vals xs us → Vals ys ws → Vals (xs ++ ys) (us ++ ws)
  | _, _, _, _, .nil, s => s
  | _, _, _, _, .cons r t, s => .cons r (Vals.append t s)
theorem Vals.take : ∀ {xs : List V} {us : List Value} (n : Nat), Vals xs us → Vals (xs.take n) (us.take n)
  | _, _, 0, _ => .nil
  | _, _, _ + 1, .nil => .nil
  | _, _, n + 1, .cons r t => .cons r (Vals.take n t)
theorem Vals.drop : ∀ {xs : List V} {us : List Value} (n : Nat), Vals xs us → Vals (xs.drop n) (us.drop n)
  | _, _, 0, r => r
  | _, _, _ + 1, .nil => .nil
  | _, _, n + 1, .cons _ t => Vals.drop n t

noncomputable def RelO : Option V → Option Value → Prop
  | some v, some u => RelV v u
  | none, none => True
  | _, _ => False
noncomputable def KV {κ : Type} : List (κ × V) → List (κ × Value) → Prop := Paired fun (p : κ × V) (q : κ × Value) => p.1 = q.1 ∧ RelV p.2 q.2

/-- a key of a dict (00_mix): an int or a text -/
noncomputable def kV : Key → V
  | .inl i => .int i
  | .inr x => .str x

/-- what stands at a tracked address -/
inductive HO where
  /-- a list -/
  | lst (xs : List V)
  /-- a tuple (never changes) -/
  | tup (xs : List V)
  /-- a dict whose keys are ints and texts; one whose keys are tuples of ints and texts (the empty one is both) -/
  | dK (kvs : List (Key × V)) | dT (kvs : List (List Key × V))
  /-- a set of ints: its members, its size -/
  | set (S : Int → Bool) (n : Nat)
  /-- an instance of the class at C, its dict at dx, its attributes -/
  | ins (C dx : Addr) (fs : List (Str × V))
  /-- the dict of the instance at x -/
  | own (x : Addr)
  /-- the dict of an exception -/
  | xd (fs : List (Str × V))
  /-- a bound method, f of x -/
  | met (f x : Addr)
  /-- a range object lo, lo + 1, .. below hi -/
  | rng (lo hi : Int)
  /-- a thing that is known to the object (the script; a dict while a loop walks it): read, never written while it is so -/
  | frz (o : Obj) (u : HO)
  /-- a code object's table -/
  | tbl (ps : Array Value)
  /-- any other thing, by what is true of its one object (a def of one's own: SetO a S n := HO.ext fun h => ..) -/
  | ext (φ : Heap → Prop)

noncomputable abbrev Hp := Addr → Option HO
noncomputable def upd (H : Hp) (a : Addr) (o : HO) : Hp := fun b => if b = a then some o else H b
theorem upd_same {H : Hp} {a : Addr} {o : HO} : upd H a o a = some o := by unfold upd; rw [if_pos rfl]
theorem upd_ne {H : Hp} {a b : Addr} {o : HO} (h : b ≠ a) : upd H a o b = H b := by unfold upd; rw [if_neg h]
/-- two objects of different content stand apart -/
theorem ne_of {H : Hp} {a b : Addr} {o u : HO} (h : H a = some o) (h' : H b = some u) (d : o ≠ u) : a ≠ b := by
  intro e; subst e; rw [h] at h'; exact d (Option.some.inj h')
theorem ne_of_none {H : Hp} {a b : Addr} {o : HO} (h : H a = some o) (h' : H b = none) : a ≠ b := by
  intro e; subst e; rw [h] at h'; cases h'

section
variable (P : Program) (w : World)
noncomputable def ObjOk (H : Hp) (h : Heap) (a : Addr) : HO → Prop
  | .lst xs => xs.length ≤ sizeLine ∧ ∃ (its : List Value) (n : Nat), Vals xs its ∧ h.get? a = some { cls := .type "list", data := .seq its.toArray n }
  | .tup xs => xs.length ≤ sizeLine ∧ ∃ its : List Value, Vals xs its ∧ IsTup h a its.toArray
  | .dK kvs => kvs.length ≤ sizeLine ∧ (a == sysModules) = false ∧ ∃ vs, KV kvs vs ∧ h.DictOf (mixKind P w) a vs
  | .dT kvs => kvs.length ≤ sizeLine ∧ (a == sysModules) = false ∧ ∃ xs : List (List Key × Addr × Value),
      Paired (fun (p : List Key × V) (q : List Key × Addr × Value) => p.1 = q.1 ∧ H q.2.1 = some (.tup (p.1.map kV)) ∧ RelV p.2 q.2.2) kvs xs ∧
      ∃ o es ep, h.get? a = some o ∧ o.ExactDict ∧ o.data = .dict es ep ∧ es.toList = xs.map (entryOfKey (tupleKind (mixKind P w))) ∧ (xs.map (·.1)).Nodup
  | .set S n => h.SetOf (intKind P w) a S n
  | .ins C dx fs => H dx = some (.own a) ∧ fs.length ≤ 1000 ∧ dx ≠ a ∧ h.get? a = some (PySem.W.instObj C dx) ∧
      ∃ mA, h.Ns1 dx mA ∧ (∀ f, RelO (fs.lookup f) (mA f)) ∧ PySem.Within mA (fs.map (·.1))
  | .own _ => ∃ o, h.get? a = some o
  | .xd fs => ∃ mA, h.Ns1 a mA ∧ ∀ f, RelO (fs.lookup f) (mA f)
  | .rng lo hi => ∃ t u v, h.get? a = some { cls := .type "range", data := .fields #[.int lo t, .int hi u, .int 1 v] }
  | .frz o u => h.get? a = some o ∧ ObjOk H h a u
  | .tbl ps => h.get? a = some { cls := .none, data := .fields ps }
  | .met f x => h.get? a = some (PySem.W.methodObj (.ref f) (.ref x))
  | .ext φ => φ h ∧ (∃ o, h.get? a = some o) ∧ ∀ h1 h2 : Heap, φ h1 → (∀ o, h1.get? a = some o → h2.get? a = some o) → φ h2
/-- the abstract heap is held -/
noncomputable def HOk (H : Hp) (h : Heap) : Prop := ∀ a o, H a = some o → ObjOk P w H h a o
end

section
variable {P : Program} {w : World} {H H' : Hp} {h h' : Heap} {a : Addr} {o : HO}
theorem ObjOk.lt (x : ObjOk P w H h a o) : a < h.objs.size := by
  cases o with
  | lst xs => obtain ⟨_, _, _, _, e⟩ := x; exact Heap.lt_size e
  | tup xs => obtain ⟨_, _, _, p⟩ := x; exact p.lt
  | dK kvs => obtain ⟨_, _, _, _, o, _, _, e, _⟩ := x; exact Heap.lt_size e
  | dT kvs => obtain ⟨_, _, _, _, o, _, _, e, _⟩ := x; exact Heap.lt_size e
  | set S n => obtain ⟨o, _, _, _, e, _⟩ := x; exact Heap.lt_size e
  | ins C dx fs => obtain ⟨_, _, _, e, _⟩ := x; exact Heap.lt_size e
  | own y => obtain ⟨_, e⟩ := x; exact Heap.lt_size e
  | xd fs => obtain ⟨_, ⟨_, _, _, e, _⟩, _⟩ := x; exact Heap.lt_size e
  | rng lo hi => obtain ⟨_, _, _, e⟩ := x; exact Heap.lt_size e
  | frz ob u => obtain ⟨e, _⟩ := x; exact Heap.lt_size e
  | tbl ps => exact Heap.lt_size (show h.get? a = some _ from x)
  | met f y => exact Heap.lt_size (show h.get? a = some _ from x)
  | ext φ => obtain ⟨_, ⟨_, e⟩, _⟩ := x; exact Heap.lt_size e
theorem Paired.mapP {α β : Type} {F G : α → β → Prop} : ∀ {l₁ : List α} {l₂ : List β}, Paired F l₁ l₂ → (∀ a b, F a b → G a b) → Paired G l₁ l₂
  | _, _, .nil, _ => .nil
  | _, _, .cons r t, f => .cons (f _ _ r) (Paired.mapP t f)
/-- what an object's description leans on: its own object, its own dict, the tuples -/
theorem ObjOk.stay (x : ObjOk P w H h a o) (k : ∀ b u, (b = a ∨ H b = some (.own a)) → h.get? b = some u → h'.get? b = some u)
    (ho : ∀ b, H b = some (.own a) → H' b = some (.own a)) (ht : ∀ b xs, H b = some (.tup xs) → H' b = some (.tup xs)) : ObjOk P w H' h' a o := by
  induction o with
  | lst xs => obtain ⟨z, its, n, r, e⟩ := x; exact ⟨z, its, n, r, k _ _ (.inl rfl) e⟩
  | tup xs => obtain ⟨z, its, r, ob, e, c⟩ := x; exact ⟨z, its, r, ob, k _ _ (.inl rfl) e, c⟩
  | dK kvs => obtain ⟨z, y, vs, r, ob, es, ep, e, c⟩ := x; exact ⟨z, y, vs, r, ob, es, ep, k _ _ (.inl rfl) e, c⟩
  | dT kvs =>
    obtain ⟨z, y, xs, r, ob, es, ep, e, c⟩ := x
    exact ⟨z, y, xs, Paired.mapP r fun p q z => ⟨z.1, ht _ _ z.2.1, z.2.2⟩, ob, es, ep, k _ _ (.inl rfl) e, c⟩
  | set S n => obtain ⟨ob, es, ep, t, e, c⟩ := x; exact ⟨ob, es, ep, t, k _ _ (.inl rfl) e, c⟩
  | ins C dx fs =>
    obtain ⟨d, z, ne, e, mA, ⟨od, es, ep, e2, c⟩, r⟩ := x
    exact ⟨ho _ d, z, ne, k _ _ (.inl rfl) e, mA, ⟨od, es, ep, k _ _ (.inr d) e2, c⟩, r⟩
  | own y => obtain ⟨ob, e⟩ := x; exact ⟨ob, k _ _ (.inl rfl) e⟩
  | xd fs => obtain ⟨mA, ⟨od, es, ep, e, c⟩, r⟩ := x; exact ⟨mA, ⟨od, es, ep, k _ _ (.inl rfl) e, c⟩, r⟩
  | rng lo hi => obtain ⟨t, u, v, e⟩ := x; exact ⟨t, u, v, k _ _ (.inl rfl) e⟩
  | frz ob u ih => obtain ⟨e, q⟩ := x; exact ⟨k _ _ (.inl rfl) e, ih q⟩
  | tbl ps =>
    have e : h.get? a = some { cls := .none, data := .fields ps } := x
    show h'.get? a = some { cls := .none, data := .fields ps }
    exact k a _ (.inl rfl) e
  | met f y =>
    have e : h.get? a = some (PySem.W.methodObj (.ref f) (.ref y)) := x
    show h'.get? a = some (PySem.W.methodObj (.ref f) (.ref y))
    exact k a _ (.inl rfl) e
  | ext φ => obtain ⟨p, ⟨o, e⟩, st⟩ := x; exact ⟨st _ _ p fun o q => k _ _ (.inl rfl) q, ⟨o, k _ _ (.inl rfl) e⟩, st⟩
theorem HOk.lt (x : HOk P w H h) (e : H a = some o) : a < h.objs.size := (x a o e).lt
theorem HOk.fresh (x : HOk P w H h) (e : h.objs.size ≤ a) : H a = none := by
  cases q : H a with
  | none => rfl
  | some u => exact absurd (Nat.lt_of_lt_of_le (x.lt q) e) (Nat.lt_irrefl _)
/-- every object of the heap is kept -/
theorem HOk.kept (x : HOk P w H h) (k : ∀ b u, h.get? b = some u → h'.get? b = some u) : HOk P w H h' := fun a o e =>
  (x a o e).stay (fun b u _ q => k b u q) (fun _ q => q) fun _ _ q => q
/-- a new object is laid and tracked -/
theorem HOk.laid (x : HOk P w H h) (k : ∀ b u, h.get? b = some u → h'.get? b = some u) (hp : h.objs.size ≤ a) (new : ObjOk P w (upd H a o) h' a o) : HOk P w (upd H a o) h' := fun b u e => by
  have hn := x.fresh hp
  by_cases hb : b = a
  · subst hb; rw [upd_same] at e; cases e; exact new
  · rw [upd_ne hb] at e
    exact (x b u e).stay (fun c v _ q => k c v q) (fun c q => by rw [upd_ne (ne_of_none q hn)]; exact q) fun c xs q => by rw [upd_ne (ne_of_none q hn)]; exact q
end

/-- what may be read as u: it is u, or a known u -/
noncomputable def Rd (H : Hp) (a : Addr) (u : HO) : Prop := H a = some u ∨ ∃ o, H a = some (.frz o u)
theorem Rd.ok {P : Program} {w : World} {H : Hp} {h : Heap} {a : Addr} {u : HO} (r : Rd H a u) (x : HOk P w H h) : ObjOk P w H h a u := by
  rcases r with r | ⟨o, r⟩
  · exact x a u r
  · obtain ⟨_, q⟩ := x a _ r
    exact q
/-- what may be written -/
noncomputable def Mut : Option HO → Prop
  | some (.lst _) => True
  | some (.dK _) => True
  | some (.dT _) => True
  | some (.set _ _) => True
  | some (.ins _ _ _) => True
  | some (.ext _) => True
  | _ => False
section
variable {P : Program} {w : World} {H : Hp} {h h' : Heap} {x e : Addr} {o' : HO}
/-- the object at e is changed: x itself, or the dict of the instance x -/
theorem HOk.write (ok : HOk P w H h) (mu : Mut (H x)) (he : e = x ∨ H e = some (.own x)) (k : ∀ b u, b ≠ e → h.get? b = some u → h'.get? b = some u) (heo : ∃ u, h'.get? e = some u)
    (new : ObjOk P w (upd H x o') h' x o') : HOk P w (upd H x o') h' := fun b u q => by
  have nown : ∀ c y, H c = some (.own y) → c ≠ x := fun c y r z => by subst z; rw [r] at mu; exact mu
  have ntup : ∀ c xs, H c = some (.tup xs) → c ≠ x := fun c xs r z => by subst z; rw [r] at mu; exact mu
  by_cases hb : b = x
  · subst hb; rw [upd_same] at q; cases q; exact new
  · rw [upd_ne hb] at q
    by_cases hbe : b = e
    · have q' : H b = some (.own x) := by
        rcases he with z | z
        · exact absurd (hbe.trans z) hb
        · rw [hbe]; exact z
      rw [q] at q'; cases q'
      obtain ⟨v, hv⟩ := heo
      exact ⟨v, by rw [hbe]; exact hv⟩
    · refine (ok b u q).stay (fun c v hc r => k c v ?_ r) (fun c r => by rw [upd_ne (nown c b r)]; exact r) fun c xs r => by rw [upd_ne (ntup c xs r)]; exact r
      rcases hc with rfl | hc
      · exact hbe
      · rintro rfl
        rcases he with z | z
        · exact nown c b hc z
        · rw [hc] at z; cases z; exact hb rfl
end

/-! ### kept unless tracked; of the frames at fs (the callers') the slots may change (an exception that passes writes there); of the records at ex (iterators) nothing is said -/
structure Un (fs ex : List Addr) (H H' : Hp) (h h' : Heap) : Prop where
  keep : ∀ b o, h.get? b = some o → H b = none → b ∉ fs → b ∉ ex → h'.get? b = some o
  slot : ∀ b o, h.get? b = some o → H b = none → b ∈ fs → b ∉ ex → ∃ sl, h'.get? b = some { o with slots := sl }
  free : ∀ b o, h.get? b = some o → H b = none → b ∉ ex → H' b = none
  there : ∀ b o, h.get? b = some o → b ∉ ex → ∃ o', h'.get? b = some o'
  tups : ∀ b xs, H b = some (.tup xs) → H' b = some (.tup xs)
  frzs : ∀ b o u, H b = some (.frz o u) → H' b = some (.frz o u)
  tbls : ∀ b ps, H b = some (.tbl ps) → ∃ more, H' b = some (.tbl (ps ++ more))
section
variable {fs fs' ex ex' : List Addr} {H H1 H2 : Hp} {h h1 h2 h' : Heap} {a x e : Addr} {o : HO}
theorem Un.any (u : Un fs ex H H1 h h1) {b : Addr} {ob : Obj} (q : h.get? b = some ob) (n : H b = none) (hx : b ∉ ex) : ∃ sl, h1.get? b = some { ob with slots := sl } := by
  by_cases hb : b ∈ fs
  · exact u.slot b ob q n hb hx
  · exact ⟨ob.slots, u.keep b ob q n hb hx⟩
theorem Un.kept (k : ∀ b u, h.get? b = some u → h'.get? b = some u) : Un fs ex H H h h' :=
  ⟨fun b ob q _ _ _ => k b ob q, fun b ob q _ _ _ => ⟨ob.slots, k b ob q⟩, fun _ _ _ n _ => n, fun b ob q _ => ⟨ob, k b ob q⟩, fun _ _ q => q, fun _ _ _ q => q, fun _ ps q => ⟨#[], by rw [q]; simp⟩⟩
theorem Un.refl : Un fs ex H H h h := Un.kept fun _ _ q => q
theorem Un.laid (k : ∀ b u, h.get? b = some u → h'.get? b = some u) (hp : h.objs.size ≤ a) (hn : H a = none) : Un fs ex H (upd H a o) h h' where
  keep := fun b u q _ _ _ => k b u q
  slot := fun b u q _ _ _ => ⟨u.slots, k b u q⟩
  free := fun b u q n _ => by rw [upd_ne (Nat.ne_of_lt (Nat.lt_of_lt_of_le (Heap.lt_size q) hp))]; exact n
  there := fun b u q _ => ⟨u, k b u q⟩
  tups := fun b xs q => by rw [upd_ne (ne_of_none q hn)]; exact q
  frzs := fun b u xs q => by rw [upd_ne (ne_of_none q hn)]; exact q
  tbls := fun b ps q => ⟨#[], by rw [upd_ne (ne_of_none q hn), q]; simp⟩
theorem Un.write (mu : Mut (H x)) (he : e = x ∨ H e = some (.own x)) (k : ∀ b u, b ≠ e → h.get? b = some u → h'.get? b = some u) (heo : ∃ u, h'.get? e = some u) : Un fs ex H (upd H x o) h h' := by
  have hx : ∀ b, H b = none → b ≠ x := fun b n z => by subst z; rw [n] at mu; exact mu
  have hb : ∀ b, H b = none → b ≠ e := fun b n z => by
    subst z
    rcases he with r | r
    · exact hx b n r
    · rw [n] at r; cases r
  have hm : ∀ b u, H b = some u → ¬ Mut (some u) → b ≠ x := fun b u q nm z => by subst z; rw [q] at mu; exact nm mu
  refine ⟨fun b u q n _ _ => k b u (hb b n) q, fun b u q n _ _ => ⟨u.slots, k b u (hb b n) q⟩, fun b u q n _ => by rw [upd_ne (hx b n)]; exact n, fun b u q _ => ?_,
    fun b xs q => by rw [upd_ne (hm b _ q fun z => z)]; exact q, fun b u xs q => by rw [upd_ne (hm b _ q fun z => z)]; exact q, fun b ps q => ⟨#[], by rw [upd_ne (hm b _ q fun z => z), q]; simp⟩⟩
  by_cases hbe : b = e
  · subst hbe; exact heo
  · exact ⟨u, k b u hbe q⟩
end

/-! ### the heap without what is tracked -/
noncomputable def trk (h : Heap) (H : Hp) : List Addr := (List.range h.objs.size).filter fun a => (H a).isSome
noncomputable def hidT (h : Heap) (H : Hp) : Heap := PySem.W.hideAll h (trk h H)
theorem hidT_size (h : Heap) (H : Hp) : (hidT h H).objs.size = h.objs.size := PySem.W.hideAll_size _ _
theorem hidT_get {h : Heap} {H : Hp} {b : Addr} {o : Obj} (e : h.get? b = some o) (n : H b = none) : (hidT h H).get? b = some o :=
  PySem.W.hideAll_get _ e fun hm => by
    have q : (H b).isSome = true := (List.mem_filter.mp hm).2
    rw [n] at q; simp at q
theorem of_hidT {h : Heap} {H : Hp} {b : Addr} {o : Obj} (e : (hidT h H).get? b = some o) : h.get? b = some o ∧ H b = none := by
  have e' : h.get? b = some o := PySem.W.of_hideAll (trk h H) e
  refine ⟨e', ?_⟩
  cases q : H b with
  | none => rfl
  | some x =>
    have hm : b ∈ trk h H := List.mem_filter.mpr ⟨List.mem_range.mpr (Heap.lt_size e'), by simp [q]⟩
    have z : (hidT h H).get? b = none := PySem.W.hideAll_none (trk h H) hm
    rw [z] at e; cases e

/-! ### OpenK's ledger, filled with every new object but one -/
noncomputable def allNews (g h : Heap) (L : Addr) : List (Addr × Obj) := (List.range h.objs.size).filterMap fun a => if a = L ∨ (g.get? a).isSome = true then none else (h.get? a).map fun o => (a, o)
theorem mem_allNews {g h : Heap} {L a : Addr} {o : Obj} (h1 : a ≠ L) (h2 : g.get? a = none) (h3 : h.get? a = some o) : (a, o) ∈ allNews g h L :=
  List.mem_filterMap.mpr ⟨a, List.mem_range.mpr (Heap.lt_size h3), by simp [h1, h2, h3]⟩
theorem of_mem_allNews {g h : Heap} {L : Addr} {p : Addr × Obj} (hp : p ∈ allNews g h L) : p.1 ≠ L ∧ g.get? p.1 = none ∧ h.get? p.1 = some p.2 := by
  obtain ⟨b, _, e⟩ := List.mem_filterMap.mp hp
  split at e
  · cases e
  · rename_i hn
    cases q : h.get? b with
    | none => rw [q] at e; simp at e
    | some u =>
      rw [q] at e
      simp only [Option.map_some, Option.some.injEq] at e
      subst e
      refine ⟨fun z => hn (.inl z), ?_, q⟩
      show g.get? b = none
      cases r : g.get? b with
      | none => rfl
      | some v => exact (hn (.inr (by simp [r]))).elim
theorem news_all {g h : Heap} {L : Addr} : News g L h (allNews g h L) := fun p hp => let ⟨a, b, c⟩ := of_mem_allNews hp; ⟨c, a, b⟩
end L2

namespace L2
open PySem PySem.Spec PyProof.Rows

/-- the module's facts, over the base: the heap at the law's entry without what is tracked there -/
structure Mod (K : PySem.W.Frag) (mg : Str → Option Value) (base : Heap) : Prop where
  kin : K.In base
  glob : base.Ns mainGlobals mg
  blt : ∃ mb, base.Ns builtinsNs mb ∧ ∀ x : Str, x ≠ "__name__" → mb x = bootBuiltins x
  nolimit : base.NoLimit

/-- the context: a def's body (or a comprehension's block) running. base: fixed through the whole law; s₀, H₀: the entry; outer: the frames whose slots others may change (a def's callers); stack: all frames that run;
   ex: iterators that were made ahead of the entry and are walked here (a comprehension's); fn: the names whose cells were made at the entry (a def: all; a comprehension's block: its own); calm: not within an except suite; pn: pins that every state bears; xe: what is wanted of an exception that leaves the code -/
structure Cx where
  prog : Program
  w : World
  K : PySem.W.Frag
  mg : Str → Option Value
  base : Heap
  A : Around
  N : List Str
  s₀ : Shared
  H₀ : Hp
  env : Env
  outer : List Env
  stack : List Env
  ex : List Addr
  fn : Str → Bool
  calm : Bool
  pn : List (Addr × Obj)
  xe : Value → Shared → Prop
/-- the callers' frames -/
noncomputable def frs (l : List Env) : List Addr := l.filterMap (·.frame)
noncomputable abbrev Cx.fs (X : Cx) : List Addr := frs X.outer

noncomputable def Vis (sc : Scope) (x : Str) : Prop := sc.names.lookup x = some .local ∨ sc.names.lookup x = some .cell ∨ sc.names.lookup x = some .free
noncomputable def Loc (sc : Scope) (x : Str) : Prop := sc.names.lookup x = some .local ∨ sc.names.lookup x = some .cell
noncomputable def Look (env : Env) (h : Heap) (m : Str → Option Value) (x : Str) (u : Value) : Prop :=
  (env.kindOf x = some .local ∧ m x = some u) ∨ ((env.kindOf x = some .cell ∨ env.kindOf x = some .free) ∧ ∃ c, env.cells.lookup x = some c ∧ h.IsCell c (some u))

structure Cx.Ok (X : Cx) : Prop where
  mod : Mod X.K X.mg X.base
  kind : X.env.scope.kind = .function
  glob : X.env.globals = mainGlobals
  blt : X.env.builtins = builtinsNs
  above : X.s₀.heap.objs.size ≤ X.env.locals
  inj : ∀ x y c, X.env.cells.lookup x = some c → X.env.cells.lookup y = some c → x = y
  has : ∀ x, (X.env.kindOf x = some .cell ∨ X.env.kindOf x = some .free) → ∃ c, X.env.cells.lookup x = some c
  cab : ∀ x c, X.fn x = true → X.env.cells.lookup x = some c → X.s₀.heap.objs.size ≤ c
  hd : X.calm = true → X.A.handled = none
  frames : X.A.frames = some X.stack
  stk : X.stack = X.outer ∨ (X.stack = X.env :: X.outer ∧ X.env.frame = some X.env.locals)
  exf : ∀ b ∈ X.ex, b ≠ X.env.locals ∧ ∀ x c, X.env.cells.lookup x = some c → c ≠ b
  bs : ∀ b o, X.base.get? b = some o → X.s₀.heap.get? b = some o ∧ X.H₀ b = none
  bsz : X.base.objs.size ≤ X.s₀.heap.objs.size
  noex : ∀ b o, X.base.get? b = some o → b ∉ X.ex
  exfs : ∀ b ∈ X.ex, b ∉ X.fs
  funs : X.s₀.heap.FunFrames X.base X.outer
  frf : ∀ b ∈ X.fs, X.H₀ b = none

structure Inv (X : Cx) (pins : List (Addr × Obj)) (σ : List (Option V)) (H : Hp) (s : Shared) : Prop where
  ok : X.Ok
  os : s.os = X.s₀.os
  bare : AllBare s.gens
  base : Un X.fs X.ex X.H₀ H X.s₀.heap s.heap
  loc : ∃ m, s.heap.Ns X.env.locals m ∧ ∀ (i : Nat) (x : Str) (v : V), X.N[i]? = some x → σ[i]? = some (some v) → Vis X.env.scope x → ∃ u, RelV v u ∧ Look X.env s.heap m x u
  cell : ∀ x c, X.env.cells.lookup x = some c → ∃ v, s.heap.IsCell c v
  free : H X.env.locals = none
  freeC : ∀ x c, X.env.cells.lookup x = some c → H c = none
  pin : ∀ p ∈ X.pn ++ pins, s.heap.get? p.1 = some p.2 ∧ H p.1 = none ∧ p.1 ≠ X.env.locals ∧ p.1 ∉ X.fs ∧ ∀ v, p.2.data ≠ .cell v
  hok : HOk X.prog X.w H s.heap
  len : σ.length = X.N.length

section
variable {X : Cx} {pins : List (Addr × Obj)} {σ : List (Option V)} {H H' : Hp} {s : Shared} {h' : Heap}

theorem Cx.Ok.nofr (ok : X.Ok) {b : Addr} {o : Obj} (e : X.base.get? b = some o) : b ∉ X.fs := fun hb => by
  have := (ok.funs.mem hb).1
  rw [e] at this; cases this
theorem Inv.bs (I : Inv X pins σ H s) : ∀ b o, X.base.get? b = some o → s.heap.get? b = some o ∧ H b = none := fun b o e =>
  ⟨I.base.keep b o (I.ok.bs b o e).1 (I.ok.bs b o e).2 (I.ok.nofr e) (I.ok.noex b o e), I.base.free b o (I.ok.bs b o e).1 (I.ok.bs b o e).2 (I.ok.noex b o e)⟩
theorem Inv.bk (I : Inv X pins σ H s) : ∀ b o, X.base.get? b = some o → s.heap.get? b = some o := fun b o e => (I.bs b o e).1
theorem Inv.mod (I : Inv X pins σ H s) : Mod X.K X.mg X.base := I.ok.mod
theorem Inv.kIn (I : Inv X pins σ H s) : X.K.In s.heap := I.ok.mod.kin.keeps I.bk
/-- the frame over the base: for OpenK's rules (K.In X.base is I.mod.kin) -/
theorem Inv.fr (I : Inv X pins σ H s) : ∃ m, Fr X.base X.env.locals s.heap m :=
  let ⟨m, hn, _⟩ := I.loc
  ⟨m, hn, I.bk, Nat.le_trans I.ok.bsz I.ok.above⟩
theorem Inv.lt (I : Inv X pins σ H s) : X.env.locals < s.heap.objs.size := let ⟨_, hn, _⟩ := I.loc; hn.lt
theorem Inv.sz (I : Inv X pins σ H s) : X.s₀.heap.objs.size ≤ s.heap.objs.size := Nat.le_trans I.ok.above (Nat.le_of_lt I.lt)
theorem Inv.nofs (I : Inv X pins σ H s) {a : Addr} (h : s.heap.objs.size ≤ a) : a ∉ X.fs := fun hb => by
  obtain ⟨_, o, ho, _⟩ := I.ok.funs.mem hb
  exact absurd (Nat.lt_of_lt_of_le (Heap.lt_size ho) (Nat.le_trans I.sz h)) (Nat.lt_irrefl _)
theorem Inv.cne (I : Inv X pins σ H s) : ∀ x c, X.env.cells.lookup x = some c → c ≠ X.env.locals := fun x c e z => by
  obtain ⟨v, o, ho, hd⟩ := I.cell x c e
  obtain ⟨m, ⟨o', es, ep, ho', hd', _⟩, _⟩ := I.loc
  rw [z, ho'] at ho; cases ho; rw [hd'] at hd; cases hd
theorem Inv.funs (I : Inv X pins σ H s) : s.heap.FunFrames X.base X.outer := by
  have all : ∀ (l : List Env), (∀ b ∈ frs l, b ∈ X.fs) → X.s₀.heap.FunFrames X.base l → s.heap.FunFrames X.base l := by
    intro l
    induction l with
    | nil => intro _ _; trivial
    | cons env r ih =>
      intro hs hl
      obtain ⟨hk, ⟨L, o, hf, hn, ho, hd⟩, hr⟩ := hl
      have hL : L ∈ X.fs := hs L (by unfold frs; rw [List.filterMap_cons, hf]; exact List.mem_cons_self)
      obtain ⟨sl, e⟩ := I.base.slot L o ho (I.ok.frf L hL) hL fun z => I.ok.exfs L z hL
      exact ⟨hk, ⟨L, _, hf, hn, e, hd⟩, ih (fun b hb => hs b (by unfold frs; rw [List.filterMap_cons, hf]; exact List.mem_cons_of_mem _ hb)) hr⟩
  exact all X.outer (fun _ hb => hb) I.ok.funs

/-- the frames that run, for a call -/
theorem Inv.stack (I : Inv X pins σ H s) : s.heap.FunFrames X.base X.stack := by
  rcases I.ok.stk with e | ⟨e, hf⟩
  · rw [e]; exact I.funs
  · rw [e]
    obtain ⟨m, hn, _⟩ := I.loc
    refine .cons (by rw [I.ok.kind]; decide) hf hn ?_ I.funs
    exact Heap.get?_none_of_le (Nat.le_trans I.ok.bsz I.ok.above)
theorem Inv.stkSub (I : Inv X pins σ H s) : ∀ b ∈ frs X.stack, b ∈ X.env.locals :: X.fs := fun b hb => by
  rcases I.ok.stk with e | ⟨e, hf⟩
  · rw [e] at hb; exact List.mem_cons_of_mem _ hb
  · rw [e] at hb
    unfold frs at hb
    rw [List.filterMap_cons, hf] at hb
    exact hb
theorem Inv.stkFree (I : Inv X pins σ H s) : ∀ b ∈ frs X.stack, H b = none := fun b hb => by
  rcases List.mem_cons.mp (I.stkSub b hb) with e | hb
  · rw [e]; exact I.free
  · obtain ⟨_, o, ho, _⟩ := I.ok.funs.mem hb
    exact I.base.free b o ho (I.ok.frf b hb) fun z => I.ok.exfs b z hb

/-- THE STEP: the untracked objects but the frame and the records at ch are kept (the callers' frames up to slots), the frame's map is kept, the new abstract heap is held -/
theorem Inv.step {g' : Array GenState} {t' : Nat} {d' : Drawn} {ch : List Addr} (I : Inv X pins σ H s)
    (hch : ∀ b ∈ ch, (b ∈ X.ex ∨ X.s₀.heap.objs.size ≤ b) ∧ b ≠ X.env.locals ∧ (∀ x c, X.env.cells.lookup x = some c → c ≠ b) ∧ ∀ p ∈ X.pn ++ pins, p.1 ≠ b)
    (keep : ∀ b o, b ≠ X.env.locals → b ∉ X.fs → b ∉ ch → s.heap.get? b = some o → H b = none → h'.get? b = some o)
    (slot : ∀ b o, b ≠ X.env.locals → b ∈ X.fs → b ∉ ch → s.heap.get? b = some o → H b = none → ∃ sl, h'.get? b = some { o with slots := sl }) (free : ∀ b o, b ∉ ch → s.heap.get? b = some o → H b = none → H' b = none)
    (there : ∀ b o, b ∉ ch → s.heap.get? b = some o → ∃ o', h'.get? b = some o')
    (tups : ∀ b xs, H b = some (.tup xs) → H' b = some (.tup xs)) (frzs : ∀ b o u, H b = some (.frz o u) → H' b = some (.frz o u)) (tbls : ∀ b ps, H b = some (.tbl ps) → ∃ more, H' b = some (.tbl (ps ++ more)))
    (ns : ∀ m, s.heap.Ns X.env.locals m → h'.Ns X.env.locals m) (hok : HOk X.prog X.w H' h') (hg : AllBare g') :
    Inv X pins σ H' { s with heap := h', gens := g', drawn := d', toks := t' } := by
  have neL : ∀ b o, X.s₀.heap.get? b = some o → b ≠ X.env.locals := fun b o e => Nat.ne_of_lt (Nat.lt_of_lt_of_le (Heap.lt_size e) I.ok.above)
  have neC : ∀ b o, X.s₀.heap.get? b = some o → b ∉ X.ex → b ∉ ch := fun b o e hx hb => by
    rcases (hch b hb).1 with z | z
    · exact hx z
    · exact absurd (Nat.lt_of_lt_of_le (Heap.lt_size e) z) (Nat.lt_irrefl _)
  have cellK : ∀ x c, X.env.cells.lookup x = some c → ∀ v, s.heap.IsCell c v → h'.IsCell c v := fun x c e v ⟨o, ho, hd⟩ => by
    have nch : c ∉ ch := fun z => (hch c z).2.2.1 x c e rfl
    by_cases hc : c ∈ X.fs
    · obtain ⟨sl, q⟩ := slot c o (I.cne x c e) hc nch ho (I.freeC x c e)
      exact ⟨_, q, hd⟩
    · exact ⟨o, keep c o (I.cne x c e) hc nch ho (I.freeC x c e), hd⟩
  refine ⟨I.ok, I.os, hg, ⟨fun b o e n hb hx => ?_, fun b o e n hb hx => ?_, fun b o e n hx => ?_, fun b o e hx => ?_, fun b xs e => tups b xs (I.base.tups b xs e), fun b o xs e => frzs b o xs (I.base.frzs b o xs e), fun b ps e => ?_⟩, ?_, fun x c e => ?_, ?_, fun x c e => ?_, fun p hp => ?_, hok, I.len⟩
  · exact keep b o (neL b o e) hb (neC b o e hx) (I.base.keep b o e n hb hx) (I.base.free b o e n hx)
  · obtain ⟨sl, e1⟩ := I.base.slot b o e n hb hx
    obtain ⟨sl', e2⟩ := slot b _ (neL b o e) hb (neC b o e hx) e1 (I.base.free b o e n hx)
    exact ⟨sl', e2⟩
  · obtain ⟨o', e1⟩ := I.base.there b o e hx
    exact free b o' (neC b o e hx) e1 (I.base.free b o e n hx)
  · obtain ⟨o', e1⟩ := I.base.there b o e hx
    exact there b o' (neC b o e hx) e1
  · obtain ⟨m1, e1⟩ := I.base.tbls b ps e
    obtain ⟨m2, e2⟩ := tbls b _ e1
    exact ⟨m1 ++ m2, by rw [e2, Array.append_assoc]⟩
  · obtain ⟨m, hn, hl⟩ := I.loc
    refine ⟨m, ns m hn, fun i x v e1 e2 e3 => ?_⟩
    obtain ⟨u, r, l⟩ := hl i x v e1 e2 e3
    refine ⟨u, r, ?_⟩
    rcases l with l | ⟨k, c, e, z⟩
    · exact .inl l
    · exact .inr ⟨k, c, e, cellK x c e _ z⟩
  · obtain ⟨v, z⟩ := I.cell x c e
    exact ⟨v, cellK x c e v z⟩
  · obtain ⟨m, ⟨o, _, _, ho, _⟩, _⟩ := I.loc
    exact free _ o (fun z => (hch _ z).2.1 rfl) ho I.free
  · obtain ⟨v, o, ho, hd⟩ := I.cell x c e
    exact free c o (fun z => (hch c z).2.2.1 x c e rfl) ho (I.freeC x c e)
  · obtain ⟨e, n, ne, nf, d⟩ := I.pin p hp
    have nch : p.1 ∉ ch := fun z => (hch p.1 z).2.2.2 p hp rfl
    exact ⟨keep p.1 p.2 ne nf nch e n, free p.1 p.2 nch e n, ne, nf, d⟩
/-- .. where the frame's own object is kept too -/
theorem Inv.un {t' : Nat} (I : Inv X pins σ H s) (u : Un X.fs [] H H' s.heap h') (hok : HOk X.prog X.w H' h') : Inv X pins σ H' { s with heap := h', toks := t' } := by
  obtain ⟨m, ⟨o, es, ep, ho, r⟩, _⟩ := id I.loc
  obtain ⟨sl, hL⟩ := u.any ho I.free (by simp)
  exact I.step (g' := s.gens) (d' := s.drawn) (ch := []) (fun _ z => nomatch z) (fun b o _ hb _ e n => u.keep b o e n hb (by simp)) (fun b o _ hb _ e n => u.slot b o e n hb (by simp)) (fun b o _ e n => u.free b o e n (by simp)) (fun b o _ e => u.there b o e (by simp)) u.tups u.frzs u.tbls (fun m' hm => by
    obtain ⟨o', es', ep', ho', r'⟩ := hm
    rw [ho] at ho'; cases ho'
    exact ⟨_, es', ep', hL, r'⟩) hok I.bare
/-- behind a call (or a comprehension's block): the slots of this frame may have changed too, the records at ch may have turned -/
theorem Inv.call {g' : Array GenState} {t' : Nat} {d' : Drawn} {ch : List Addr} (I : Inv X pins σ H s) (u : Un (frs X.stack) ch H H' s.heap h') (hok : HOk X.prog X.w H' h') (hg : AllBare g')
    (hch : ∀ b ∈ ch, (b ∈ X.ex ∨ X.s₀.heap.objs.size ≤ b) ∧ b ≠ X.env.locals ∧ (∀ x c, X.env.cells.lookup x = some c → c ≠ b) ∧ ∀ p ∈ X.pn ++ pins, p.1 ≠ b) :
    Inv X pins σ H' { s with heap := h', gens := g', drawn := d', toks := t' } := by
  obtain ⟨m, ⟨o, es, ep, ho, r⟩, _⟩ := id I.loc
  obtain ⟨sl, hL⟩ := u.any ho I.free fun z => (hch _ z).2.1 rfl
  exact I.step (ch := ch) hch (fun b o hL hb hc e n => u.keep b o e n (fun z => (List.mem_cons.mp (I.stkSub b z)).elim hL hb) hc) (fun b o _ _ hc e n => u.any e n hc) (fun b o hc e n => u.free b o e n hc) (fun b o hc e => u.there b o e hc) u.tups u.frzs u.tbls (fun m' hm => by
    obtain ⟨o', es', ep', ho', r'⟩ := hm
    rw [ho] at ho'; cases ho'
    exact ⟨_, es', ep', hL, r'⟩) hok hg
/-- an untracked record of ours (an iterator) has turned -/
theorem Inv.turned {t' : Nat} {it : Addr} (I : Inv X pins σ H s) (k : ∀ b o, b ≠ it → s.heap.get? b = some o → h'.get? b = some o) (hn : H it = none) (hL : it ≠ X.env.locals)
    (h1 : it ∈ X.ex ∨ X.s₀.heap.objs.size ≤ it) (h2 : ∀ x c, X.env.cells.lookup x = some c → c ≠ it) (h3 : ∀ p ∈ X.pn ++ pins, p.1 ≠ it) : Inv X pins σ H { s with heap := h', toks := t' } := by
  have nit : ∀ b u, H b = some u → b ≠ it := fun b u e z => by rw [z, hn] at e; cases e
  refine I.step (g' := s.gens) (d' := s.drawn) (ch := [it]) (fun b hb => ?_) (fun b o _ _ hc e _ => k b o (fun z => hc (by simp [z])) e) (fun b o _ _ hc e _ => ⟨o.slots, k b o (fun z => hc (by simp [z])) e⟩) (fun _ _ _ _ n => n)
    (fun b o hc e => ⟨o, k b o (fun z => hc (by simp [z])) e⟩) (fun _ _ e => e) (fun _ _ _ e => e) (fun b ps e => ⟨#[], by rw [e]; simp⟩) (fun m hm => ?_) (fun b u e => ?_) I.bare
  · have e : b = it := by simpa using hb
    subst e
    exact ⟨h1, hL, h2, h3⟩
  · obtain ⟨o, es, ep, ho, r⟩ := hm
    exact ⟨o, es, ep, k _ o (Ne.symm hL) ho, r⟩
  · refine (I.hok b u e).stay (fun c v hc q => k c v ?_ q) (fun _ q => q) fun _ _ q => q
    rcases hc with z | z
    · rw [z]; exact nit b u e
    · exact nit c _ z
theorem Inv.tok (I : Inv X pins σ H s) (t : Nat) : Inv X pins σ H { s with toks := t } := I.un (h' := s.heap) (t' := t) Un.refl I.hok
/-- all objects kept -/
theorem Inv.kept {t' : Nat} (I : Inv X pins σ H s) (k : ∀ b u, s.heap.get? b = some u → h'.get? b = some u) : Inv X pins σ H { s with heap := h', toks := t' } := I.un (Un.kept k) (I.hok.kept k)
/-- a new object laid and tracked -/
theorem Inv.laid {a : Addr} {o : HO} {t' : Nat} (I : Inv X pins σ H s) (k : ∀ b u, s.heap.get? b = some u → h'.get? b = some u) (hp : s.heap.objs.size ≤ a) (new : ObjOk X.prog X.w (upd H a o) h' a o) :
    Inv X pins σ (upd H a o) { s with heap := h', toks := t' } := I.un (Un.laid k hp (I.hok.fresh hp)) (I.hok.laid k hp new)
/-- an object written -/
theorem Inv.write {x e : Addr} {o : HO} {t' : Nat} (I : Inv X pins σ H s) (mu : Mut (H x)) (he : e = x ∨ H e = some (.own x)) (k : ∀ b u, b ≠ e → s.heap.get? b = some u → h'.get? b = some u) (heo : ∃ u, h'.get? e = some u)
    (new : ObjOk X.prog X.w (upd H x o) h' x o) : Inv X pins σ (upd H x o) { s with heap := h', toks := t' } := I.un (Un.write mu he k heo) (I.hok.write mu he k heo new)
theorem Inv.pins_of {pins' : List (Addr × Obj)} (I : Inv X pins σ H s) (h : ∀ p ∈ pins', s.heap.get? p.1 = some p.2 ∧ H p.1 = none ∧ p.1 ≠ X.env.locals ∧ p.1 ∉ X.fs ∧ ∀ v, p.2.data ≠ .cell v) : Inv X pins' σ H s :=
  ⟨I.ok, I.os, I.bare, I.base, I.loc, I.cell, I.free, I.freeC, fun p hp => (List.mem_append.mp hp).elim (fun z => I.pin p (List.mem_append_left _ z)) (h p), I.hok, I.len⟩

theorem nodup_ix {N : List Str} (hN : N.Nodup) {i j : Nat} {x : Str} (a : N[i]? = some x) (b : N[j]? = some x) : i = j := by
  obtain ⟨h1, e1⟩ := List.getElem?_eq_some_iff.mp a
  obtain ⟨h2, e2⟩ := List.getElem?_eq_some_iff.mp b
  exact (List.getElem_inj hN).mp (e1.trans e2.symm)

/-- a name is stored; what changed -/
theorem store_ok2 {M : Model} {A : Around} {E : Value → Shared → Prop} {i : Nat} {x : Str} {v : V} {u : Value} {Q : Unit → Shared → Prop} (I : Inv X pins σ H s) (hN : X.N.Nodup) (hi : X.N[i]? = some x) (hx : Loc X.env.scope x) (r : RelV v u)
    (h : ∀ s', Inv X pins (σ.set i (some v)) H s' → (∃ a, Heap.SameBut a s.heap s'.heap ∧ (a = X.env.locals ∨ X.env.cells.lookup x = some a)) → Q () s') (hf : X.fn x = true ∨ X.env.scope.names.lookup x = some .local := by first | exact .inl rfl | exact .inr rfl | assumption) : wpAny M A (storeName X.env x u) Q E s := by
  obtain ⟨m, hn, hl⟩ := id I.loc
  have hcls : (X.env.scope.kind == .class || (X.env.scope.kind == .module && X.env.locals != X.env.globals)) = false := by rw [I.ok.kind]; rfl
  have hiσ : i < σ.length := by rw [I.len]; exact (List.getElem?_eq_some_iff.mp hi).1
  have cne := I.cne
  have tracked : ∀ {a : Addr} {h' : Heap}, (∃ o, s.heap.get? a = some o ∧ H a = none) → Heap.SameBut a s.heap h' → HOk X.prog X.w H h' := fun {a h'} ha hs b ob e => by
    obtain ⟨_, _, hfree⟩ := ha
    refine (I.hok b ob e).stay (fun c w' hc q => (hs.2 c ?_).trans q) (fun _ q => q) fun _ _ q => q
    rintro rfl
    rcases hc with rfl | hc
    · rw [hfree] at e; cases e
    · rw [hfree] at hc; cases hc
  rcases hx with hk | hk
  · refine wpAny_storeName_local hk hn (fun h' hn' hs => ?_) hcls
    obtain ⟨oL, _, _, hoL, _⟩ := id hn
    refine h _ ⟨I.ok, I.os, I.bare, ⟨fun b o e n hb hx => ?_, fun b o e n hb hx => ?_, I.base.free, fun b o e hx => ?_, I.base.tups, I.base.frzs, I.base.tbls⟩, ⟨_, hn', fun j y v' e1 e2 e3 => ?_⟩, fun y c e => ?_, I.free, I.freeC, fun p hp => ?_, tracked ⟨oL, hoL, I.free⟩ hs, by simpa using I.len⟩ ⟨_, hs, .inl rfl⟩
    · exact (hs.2 b (Nat.ne_of_lt (Nat.lt_of_lt_of_le (Heap.lt_size e) I.ok.above))).trans (I.base.keep b o e n hb hx)
    · obtain ⟨sl, e1⟩ := I.base.slot b o e n hb hx
      exact ⟨sl, (hs.2 b (Nat.ne_of_lt (Nat.lt_of_lt_of_le (Heap.lt_size e) I.ok.above))).trans e1⟩
    · obtain ⟨o', e1⟩ := I.base.there b o e hx
      exact ⟨o', (hs.2 b (Nat.ne_of_lt (Nat.lt_of_lt_of_le (Heap.lt_size e) I.ok.above))).trans e1⟩
    · by_cases hj : j = i
      · subst hj
        rw [hi] at e1; cases e1
        rw [List.getElem?_set_self hiσ] at e2
        cases e2
        exact ⟨u, r, .inl ⟨hk, by simp⟩⟩
      · rw [List.getElem?_set_ne (Ne.symm hj)] at e2
        obtain ⟨u', r', q⟩ := hl j y v' e1 e2 e3
        refine ⟨u', r', ?_⟩
        rcases q with ⟨k, e⟩ | ⟨k, c, e, z⟩
        · refine .inl ⟨k, ?_⟩
          have : y ≠ x := fun e => hj (nodup_ix hN e1 (e ▸ hi))
          simp [this, e]
        · exact .inr ⟨k, c, e, z.sameBut hs (cne y c e)⟩
    · obtain ⟨w', z⟩ := I.cell y c e
      exact ⟨w', z.sameBut hs (cne y c e)⟩
    · obtain ⟨e, n, ne, nf, d⟩ := I.pin p hp
      exact ⟨(hs.2 p.1 ne).trans e, n, ne, nf, d⟩
  · have hfn : X.fn x = true := by
      rcases hf with z | z
      · exact z
      · rw [z] at hk; cases hk
    obtain ⟨c, hc⟩ := I.ok.has x (.inl hk)
    obtain ⟨w', z⟩ := I.cell x c hc
    refine wpAny_storeName_cell I.ok.kind hk hc z (fun h' hc' hs => ?_)
    obtain ⟨oc, hoc, hocd⟩ := id z
    refine h { s with heap := h' } ⟨I.ok, I.os, I.bare, ⟨fun b o e n hb hx => ?_, fun b o e n hb hx => ?_, I.base.free, fun b o e hx => ?_, I.base.tups, I.base.frzs, I.base.tbls⟩, ⟨m, hn.sameBut hs (Ne.symm (cne x c hc)), fun j y v' e1 e2 e3 => ?_⟩, fun y c' e => ?_, I.free, I.freeC, fun p hp => ?_, tracked ⟨oc, hoc, I.freeC x c hc⟩ hs, by simpa using I.len⟩ ⟨c, hs, .inr hc⟩
    · exact (hs.2 b (Nat.ne_of_lt (Nat.lt_of_lt_of_le (Heap.lt_size e) (I.ok.cab x c hfn hc)))).trans (I.base.keep b o e n hb hx)
    · obtain ⟨sl, e1⟩ := I.base.slot b o e n hb hx
      exact ⟨sl, (hs.2 b (Nat.ne_of_lt (Nat.lt_of_lt_of_le (Heap.lt_size e) (I.ok.cab x c hfn hc)))).trans e1⟩
    · obtain ⟨o', e1⟩ := I.base.there b o e hx
      exact ⟨o', (hs.2 b (Nat.ne_of_lt (Nat.lt_of_lt_of_le (Heap.lt_size e) (I.ok.cab x c hfn hc)))).trans e1⟩
    · by_cases hj : j = i
      · subst hj
        rw [hi] at e1; cases e1
        rw [List.getElem?_set_self hiσ] at e2
        cases e2
        exact ⟨u, r, .inr ⟨.inl hk, c, hc, hc'⟩⟩
      · rw [List.getElem?_set_ne (Ne.symm hj)] at e2
        obtain ⟨u', r', q⟩ := hl j y v' e1 e2 e3
        refine ⟨u', r', ?_⟩
        rcases q with q | ⟨k, c', e, z'⟩
        · exact .inl q
        · refine .inr ⟨k, c', e, z'.sameBut hs ?_⟩
          rintro rfl
          exact hj (nodup_ix hN e1 (I.ok.inj _ _ _ e hc ▸ hi))
    · by_cases hcc : c' = c
      · subst hcc; exact ⟨_, hc'⟩
      · obtain ⟨w2, z2⟩ := I.cell y c' e
        exact ⟨w2, z2.sameBut hs hcc⟩
    · obtain ⟨e, n, ne, nf, d⟩ := I.pin p hp
      refine ⟨(hs.2 p.1 ?_).trans e, n, ne, nf, d⟩
      intro q
      rw [q, hoc] at e
      have q' : oc = p.2 := Option.some.inj e
      exact d w' (by rw [← q']; exact hocd)
theorem store_ok {M : Model} {A : Around} {E : Value → Shared → Prop} {i : Nat} {x : Str} {v : V} {u : Value} {Q : Unit → Shared → Prop} (I : Inv X pins σ H s) (hN : X.N.Nodup) (hi : X.N[i]? = some x) (hx : Loc X.env.scope x) (r : RelV v u)
    (h : ∀ s', Inv X pins (σ.set i (some v)) H s' → Q () s') (hf : X.fn x = true ∨ X.env.scope.names.lookup x = some .local := by first | exact .inl rfl | exact .inr rfl | assumption) : wpAny M A (storeName X.env x u) Q E s :=
  store_ok2 I hN hi hx r (fun s' I' _ => h s' I') hf
/-- behind a call or a block, the state as it is -/
theorem Inv.call' {s' : Shared} {ch : List Addr} (I : Inv X pins σ H s) (ho : s'.os = s.os) (u : Un (frs X.stack) ch H H' s.heap s'.heap) (hok : HOk X.prog X.w H' s'.heap) (hg : AllBare s'.gens)
    (hch : ∀ b ∈ ch, (b ∈ X.ex ∨ X.s₀.heap.objs.size ≤ b) ∧ b ≠ X.env.locals ∧ (∀ x c, X.env.cells.lookup x = some c → c ≠ b) ∧ ∀ p ∈ X.pn ++ pins, p.1 ≠ b) : Inv X pins σ H' s' := by
  obtain ⟨h', g', d', t', o'⟩ := s'
  have e : o' = s.os := ho
  subst e
  exact I.call (g' := g') (t' := t') (d' := d') u hok hg hch
end

/-! ### the judgements -/
/-- an exception: its class, its own dict's address (where it has one), the abstract heap behind it -/
noncomputable abbrev XK := Value → Option Addr → Hp → Prop
noncomputable abbrev St := List (Option V)
noncomputable abbrev VK := V → Hp → Prop
/-- an expression's reading; a test's; an argument list's -/
noncomputable abbrev TE := St → Hp → VK → Prop
noncomputable abbrev TT := St → Hp → (Bool → Hp → Prop) → Prop
noncomputable abbrev TA := St → Hp → (List V → Hp → Prop) → Prop
/-- what is wanted behind a statement -/
structure Ends where
  nx : St → Hp → Prop
  rt : VK
  bk : St → Hp → Prop := fun _ _ => False
  ct : St → Hp → Prop := fun _ _ => False
noncomputable abbrev TS := Ends → St → Hp → Prop

noncomputable def EP (X : Cx) (pins : List (Addr × Obj)) (σ : St) (Q : VK) (u : Value) (s' : Shared) : Prop := ∃ v H', Inv X pins σ H' s' ∧ RelV v u ∧ Q v H'
noncomputable def TP (X : Cx) (pins : List (Addr × Obj)) (σ : St) (Q : Bool → Hp → Prop) (b : Bool) (s' : Shared) : Prop := ∃ H', Inv X pins σ H' s' ∧ Q b H'
noncomputable def AP (X : Cx) (pins : List (Addr × Obj)) (σ : St) (Q : List V → Hp → Prop) (us : List Value) (s' : Shared) : Prop := ∃ vs H', Inv X pins σ H' s' ∧ Vals vs us ∧ Q vs H'
noncomputable def SP (X : Cx) (pins : List (Addr × Obj)) (D : Ends) (f : Flow) (s' : Shared) : Prop :=
  match f with
  | .next => ∃ σ' H', Inv X pins σ' H' s' ∧ D.nx σ' H'
  | .brk => ∃ σ' H', Inv X pins σ' H' s' ∧ D.bk σ' H'
  | .cont => ∃ σ' H', Inv X pins σ' H' s' ∧ D.ct σ' H'
  | .ret u => ∃ v σ' H', Inv X pins σ' H' s' ∧ RelV v u ∧ D.rt v H'

noncomputable def PE (X : Cx) (e : Expr) (t : TE) : Prop :=
  ∀ (pins : List (Addr × Obj)) (s : Shared) (σ : St) (H : Hp) (Q : VK), Inv X pins σ H s → t σ H Q → wpAny (model X.prog X.w) X.A (eval e X.env) (EP X pins σ Q) X.xe s
noncomputable def PT (X : Cx) (e : Expr) (t : TT) : Prop :=
  ∀ (pins : List (Addr × Obj)) (s : Shared) (σ : St) (H : Hp) (Q : Bool → Hp → Prop), Inv X pins σ H s → t σ H Q → wpAny (model X.prog X.w) X.A (isTrue e X.env (eval e X.env)) (TP X pins σ Q) X.xe s
/-- a test whatever its 'whole' is (and, or) -/
noncomputable def PW (X : Cx) (e : Expr) (t : TT) : Prop :=
  ∀ (whole : Sem Value) (pins : List (Addr × Obj)) (s : Shared) (σ : St) (H : Hp) (Q : Bool → Hp → Prop), Inv X pins σ H s → t σ H Q → wpAny (model X.prog X.w) X.A (isTrue e X.env whole) (TP X pins σ Q) X.xe s
theorem PW.pt {X : Cx} {e : Expr} {t : TT} (h : PW X e t) : PT X e t := h _
/-- an argument list (no star), from the left -/
noncomputable def PA (X : Cx) (es : List Expr) (t : TA) : Prop :=
  ∀ (pos : Pos) (pins : List (Addr × Obj)) (s : Shared) (σ : St) (H : Hp) (Q : List V → Hp → Prop), Inv X pins σ H s → t σ H Q → wpAny (model X.prog X.w) X.A (spliced (backTo pos (starEach es X.env))) (AP X pins σ Q) X.xe s
noncomputable def PS (X : Cx) (st : Stmt) (t : TS) : Prop :=
  ∀ (pins : List (Addr × Obj)) (s : Shared) (σ : St) (H : Hp) (D : Ends), Inv X pins σ H s → t D σ H → wpAny (model X.prog X.w) X.A (exec st X.env) (SP X pins D) X.xe s
noncomputable def PSs (X : Cx) (st : List Stmt) (t : TS) : Prop :=
  ∀ (pins : List (Addr × Obj)) (s : Shared) (σ : St) (H : Hp) (D : Ends), Inv X pins σ H s → t D σ H → wpAny (model X.prog X.w) X.A (execs st X.env) (SP X pins D) X.xe s
/-- weaken the end -/
theorem thn {α : Type} {t : Sem α} {Q Q' : α → Shared → Prop} {M : Model} {A : Around} {E : Value → Shared → Prop} {s : Shared} (h : wpAny M A t Q E s) (hQ : ∀ a s, Q a s → Q' a s) : wpAny M A t Q' E s := wpAny_mono h hQ fun _ _ x => x
end L2

namespace L2
open PySem PySem.Spec PyProof.Rows
section
variable {X : Cx}


/-! ### names and constants -/
noncomputable def tVar (i : Nat) : TE := fun σ H Q => ∃ v, σ[i]? = some (some v) ∧ Q v H
noncomputable def tC (v : V) : TE := fun _ H Q => Q v H
theorem pe_var {i : Nat} {x : Str} {pos : Pos} (hN : X.N[i]? = some x) (hv : Vis X.env.scope x) (hd : (x == ("__debug__" : Str)) = false := by decide) (hcd : (x == ("__classdict__" : Str)) = false := by decide) : PE X (.Name x pos) (tVar i) := by
  intro pins s σ H Q I h
  obtain ⟨v, e, h⟩ := h
  obtain ⟨m, hn, hl⟩ := I.loc
  obtain ⟨u, r, l⟩ := hl i x v hN e hv
  have fin : EP X pins σ Q u s := ⟨v, H, I, r, h⟩
  rcases l with ⟨hk, hm⟩ | ⟨hk, c, hc, hcell⟩
  · exact wpAny_Name (wpAny_loadName_local I.ok.kind hk hn hm fin) hd
  · rcases hk with hk | hk
    · exact wpAny_Name (wpAny_loadName_cell I.ok.kind hk hc hcell fin) hd
    · exact wpAny_Name (wpAny_loadName_free I.ok.kind hk hc hcell fin hcd) hd
theorem pe_int {i j pos} : PE X (.Constant (.int i) j pos) (tC (.int i)) := fun _ _ _ H _ I h => wpAny_Constant_int ⟨.int i, H, I.tok _, ⟨_, rfl⟩, h⟩
theorem pe_bl {b j pos} : PE X (.Constant (.bool b) j pos) (tC (.bl b)) := fun _ _ _ H _ I h => Constant_bool ⟨.bl b, H, I, rfl, h⟩
theorem pe_non {j pos} : PE X (.Constant .none j pos) (tC .non) := fun _ _ _ H _ I h => Constant_none ⟨.non, H, I, rfl, h⟩
theorem pe_str {x j pos} : PE X (.Constant (.str x) j pos) (tC (.str x)) := fun _ _ _ H _ I h => Calls.Constant_str ⟨.str x, H, I.tok _, ⟨_, rfl⟩, h⟩

/-- a global name of the def -/
noncomputable def Gl (X : Cx) (x : Str) : Prop := X.env.kindOf x = some .globalImplicit
theorem ld_glob {E : Value → Shared → Prop} {pins : List (Addr × Obj)} {s : Shared} {σ : St} {H : Hp} {x : Str} {u : Value} {pos : Pos} {Q : Value → Shared → Prop} (I : Inv X pins σ H s) (hg : Gl X x) (hm : X.mg x = some u) (h : Q u s)
    (hd : (x == ("__debug__" : Str)) = false := by decide) : wpAny (model X.prog X.w) X.A (eval (.Name x pos) X.env) Q E s :=
  Calls.Name_function_global I.ok.kind hg (Calls.loadGlobal_global (by rw [I.ok.glob]; exact I.mod.glob.keeps I.bk) hm h) hd
theorem ld_blt {E : Value → Shared → Prop} {pins : List (Addr × Obj)} {s : Shared} {σ : St} {H : Hp} {x : Str} {u : Value} {pos : Pos} {Q : Value → Shared → Prop} (I : Inv X pins σ H s) (hg : Gl X x) (hm : X.mg x = none) (hv : bootBuiltins x = some u) (h : Q u s)
    (hn : x ≠ "__name__" := by decide) (hd : (x == ("__debug__" : Str)) = false := by decide) : wpAny (model X.prog X.w) X.A (eval (.Name x pos) X.env) Q E s := by
  obtain ⟨mb, h1, h2⟩ := I.mod.blt
  exact Calls.Name_function_global I.ok.kind hg (Calls.loadGlobal_builtin (by rw [I.ok.glob]; exact I.mod.glob.keeps I.bk) hm (by rw [I.ok.blt]; exact h1.keeps I.bk) ((h2 x hn).trans hv) h) hd
/-- a module's constant, a class, a function, as a value -/
theorem pe_glob {x : Str} {v : V} {u : Value} {pos : Pos} (hg : Gl X x) (hm : X.mg x = some u) (r : RelV v u) (hd : (x == ("__debug__" : Str)) = false := by decide) : PE X (.Name x pos) (tC v) :=
  fun _ _ _ H _ I h => ld_glob I hg hm ⟨v, H, I, r, h⟩ hd
theorem pe_bltn {x : Str} {v : V} {u : Value} {pos : Pos} (hg : Gl X x) (hm : X.mg x = none) (hv : bootBuiltins x = some u) (r : RelV v u) (hn : x ≠ "__name__" := by decide) (hd : (x == ("__debug__" : Str)) = false := by decide) : PE X (.Name x pos) (tC v) :=
  fun _ _ _ H _ I h => ld_blt I hg hm hv ⟨v, H, I, r, h⟩ hn hd

/-! ### arithmetic -/
variable {a b : Expr} {ta tb : TE} {pos : Pos}

/-! ### comparisons -/
noncomputable def PC (X : Cx) (op : CmpOp) (a b : Expr) (t : TE) : Prop :=
  ∀ (pins : List (Addr × Obj)) (s : Shared) (σ : St) (H : Hp) (Q : VK), Inv X pins σ H s → t σ H Q →
    wpAny (model X.prog X.w) X.A (eval a X.env) (fun v s₁ => wpAny (model X.prog X.w) X.A (eval b X.env) (fun u s₂ => wpAny (model X.prog X.w) X.A (compareOp op v u) (EP X pins σ Q) X.xe s₂) X.xe s₁) X.xe s
theorem nobehind (b : Expr) {op : CmpOp} (h : op ≠ .In) (h2 : op ≠ .NotIn) : behindInMarks op b = false := by
  have e1 : (op == CmpOp.In) = false := by cases op <;> first | rfl | exact absurd rfl h
  have e2 : (op == CmpOp.NotIn) = false := by cases op <;> first | rfl | exact absurd rfl h2
  cases b <;> simp [behindInMarks, e1, e2]
/-- is None -/
noncomputable def tIsN (ta : TE) : TE := fun σ H Q => ta σ H fun x H1 => Q (.bl (decide (x = .non))) H1
noncomputable def tNotN (ta : TE) : TE := fun σ H Q => ta σ H fun x H1 => Q (.bl (!decide (x = .non))) H1
theorem RelV.none_iff {x : V} {v : Value} (r : RelV x v) : (v == Value.none) = decide (x = .non) := by
  cases x with
  | non => cases r; rfl
  | bl _ => cases r; rfl
  | int _ => obtain ⟨t, rfl⟩ := r; rfl
  | str _ => obtain ⟨t, rfl⟩ := r; rfl
  | byt _ => obtain ⟨t, rfl⟩ := r; rfl
  | flt _ => obtain ⟨t, rfl⟩ := r; rfl
  | ref _ => cases r; rfl
  | ty _ => cases r; rfl
theorem pc_isN {j pos'} (ha : PE X a ta) : PC X .Is a (.Constant .none j pos') (tIsN ta) := by
  intro pins s σ H Q I h
  refine thn (ha pins s σ H _ I h) fun v s1 ⟨x, H1, I1, r1, q1⟩ => ?_
  exact Constant_none (is_none_gen ⟨.bl _, H1, I1, by rw [r1.none_iff]; rfl, q1⟩)
theorem pc_notN {j pos'} (ha : PE X a ta) : PC X .IsNot a (.Constant .none j pos') (tNotN ta) := by
  intro pins s σ H Q I h
  refine thn (ha pins s σ H _ I h) fun v s1 ⟨x, H1, I1, r1, q1⟩ => ?_
  exact Constant_none (isnot_none_gen ⟨.bl _, H1, I1, by rw [r1.none_iff]; rfl, q1⟩)
/-- a comparison as a value, as a test -/
noncomputable def tB (t : TE) : TT := fun σ H Q => t σ H fun x H1 => ∃ c, x = .bl c ∧ Q c H1
theorem pe_cmp {op : CmpOp} {t : TE} (h : PC X op a b t) (h1 : behindInMarks op b = false := by first | exact nobehind _ (by decide) (by decide) | rfl) : PE X (.Compare a [op] [b] pos) t := fun pins s σ H Q I hw => wpAny_Compare1 (h pins s σ H Q I hw) h1
theorem pt_cmp {op : CmpOp} {t : TE} (h : PC X op a b t) (h1 : behindInMarks op b = false := by first | exact nobehind _ (by decide) (by decide) | rfl) : PT X (.Compare a [op] [b] pos) (tB t) := by
  intro pins s σ H Q I hw
  refine wpAny_isTrue_Compare1 (thn (h pins s σ H _ I hw) fun v s1 h1 => thn h1 fun u s2 h2 => thn h2 fun c s3 ⟨x, H1, I1, r1, q1⟩ => ?_) h1
  obtain ⟨d, rfl, q⟩ := q1
  cases r1
  exact wpAny_truthy_bool ⟨H1, I1, q⟩
/-- an expression whose value is a bool, as a test -/
theorem pt_val {e : Expr} {t : TE} (h : PE X e t) (he : ∀ whole, isTrue e X.env whole = (do let v ← whole; standAt e.pos; holding [v] (truthy v)) := by intro _; rfl) : PT X e (tB t) := by
  intro pins s σ H Q I hw
  refine isTrue_plain (thn (h pins s σ H _ I hw) fun v s1 ⟨x, H1, I1, r1, q1⟩ => ?_) (he _)
  obtain ⟨d, rfl, q⟩ := q1
  cases r1
  exact wpAny_truthy_bool ⟨H1, I1, q⟩

/-! ### and, or, not -/
variable {tA tB' : TT} {rest : List Expr}
noncomputable def tAnd (t u : TT) : TT := fun σ H Q => t σ H fun c H1 => if c = true then u σ H1 Q else Q false H1
noncomputable def tOr (t u : TT) : TT := fun σ H Q => t σ H fun c H1 => if c = true then Q true H1 else u σ H1 Q
noncomputable def tNot (t : TT) : TT := fun σ H Q => t σ H fun c H1 => Q (!c) H1
theorem pw_and1 (ha : PT X a tA) : PW X (.BoolOp .And [a] pos) tA := by
  intro wh pins s σ H Q I h
  refine isTrue_and (thn (ha pins s σ H Q I h) fun c s1 e => ?_)
  cases c with
  | true => exact isTrue_and_nil e
  | false => exact e
theorem pw_or1 (ha : PT X a tA) : PW X (.BoolOp .Or [a] pos) tA := by
  intro wh pins s σ H Q I h
  refine isTrue_or (thn (ha pins s σ H Q I h) fun c s1 e => ?_)
  cases c with
  | false => exact isTrue_or_nil e
  | true => exact e
theorem pw_and (ha : PT X a tA) (hb : PW X (.BoolOp .And (b :: rest) pos) tB') : PW X (.BoolOp .And (a :: b :: rest) pos) (tAnd tA tB') := by
  intro wh pins s σ H Q I h
  refine isTrue_and (thn (ha pins s σ H _ I h) fun c s1 ⟨H1, I1, q1⟩ => ?_)
  cases c with
  | true => exact hb wh pins s1 σ H1 Q I1 q1
  | false => exact ⟨H1, I1, q1⟩
theorem pw_or (ha : PT X a tA) (hb : PW X (.BoolOp .Or (b :: rest) pos) tB') : PW X (.BoolOp .Or (a :: b :: rest) pos) (tOr tA tB') := by
  intro wh pins s σ H Q I h
  refine isTrue_or (thn (ha pins s σ H _ I h) fun c s1 ⟨H1, I1, q1⟩ => ?_)
  cases c with
  | true => exact ⟨H1, I1, q1⟩
  | false => exact hb wh pins s1 σ H1 Q I1 q1
theorem pt_not (ha : PT X a tA) : PT X (.UnaryOp .Not a pos) (tNot tA) := by
  intro pins s σ H Q I h
  exact isTrue_not (ha pins s σ H (fun c H1 => Q (!c) H1) I h)
/-- .. as values (bools) -/
noncomputable def tAndV (ta tb : TE) : TE := fun σ H Q => ta σ H fun x H1 => ∃ c, x = .bl c ∧ if c = true then tb σ H1 Q else Q (.bl false) H1
noncomputable def tOrV (ta tb : TE) : TE := fun σ H Q => ta σ H fun x H1 => ∃ c, x = .bl c ∧ if c = true then Q (.bl true) H1 else tb σ H1 Q
theorem pe_one {op} {t : TE} (h : PE X a t) : PE X (.BoolOp op [a] pos) t := fun pins s σ H Q I hw => BoolOp_one (h pins s σ H Q I hw)
theorem pe_and (ha : PE X a ta) (hb : PE X (.BoolOp .And (b :: rest) pos) tb) : PE X (.BoolOp .And (a :: b :: rest) pos) (tAndV ta tb) := by
  intro pins s σ H Q I h
  refine BoolOp_and (thn (ha pins s σ H _ I h) fun v s1 ⟨x, H1, I1, r1, q1⟩ => ?_)
  obtain ⟨c, rfl, q1⟩ := q1
  cases r1
  refine wpAny_truthy_bool ?_
  cases c with
  | true => exact hb pins s1 σ H1 Q I1 q1
  | false => exact ⟨.bl false, H1, I1, rfl, q1⟩
theorem pe_or (ha : PE X a ta) (hb : PE X (.BoolOp .Or (b :: rest) pos) tb) : PE X (.BoolOp .Or (a :: b :: rest) pos) (tOrV ta tb) := by
  intro pins s σ H Q I h
  refine BoolOp_or (thn (ha pins s σ H _ I h) fun v s1 ⟨x, H1, I1, r1, q1⟩ => ?_)
  obtain ⟨c, rfl, q1⟩ := q1
  cases r1
  refine wpAny_truthy_bool ?_
  cases c with
  | false => exact hb pins s1 σ H1 Q I1 q1
  | true => exact ⟨.bl true, H1, I1, rfl, q1⟩
end
end L2

namespace L2
open PySem PySem.Spec PyProof.Rows

/-! ### a list, a tuple that is read: tracked, frozen, or an object of the module -/
noncomputable def SqL (K : PySem.W.Frag) (H : Hp) (a : Addr) (xs : List V) : Prop :=
  Rd H a (.lst xs) ∨
    ∃ (o : Obj) (its : Array Value) (n : Nat), K.lookup a = some o ∧ o.cls = .type "list" ∧ o.dict = none ∧ o.data = .seq its n ∧ its.size ≤ sizeLine ∧ Vals xs its.toList
noncomputable def SqT (K : PySem.W.Frag) (H : Hp) (a : Addr) (xs : List V) : Prop :=
  Rd H a (.tup xs) ∨
    ∃ (o : Obj) (its : Array Value) (n : Nat), K.lookup a = some o ∧ o.cls = .type "tuple" ∧ o.data = .seq its n ∧ its.size ≤ sizeLine ∧ Vals xs its.toList
noncomputable def absV : Value → Option V
  | .none => some .non
  | .bool b => some (.bl b)
  | .int i _ => some (.int i)
  | .str x _ => some (.str x)
  | .bytes b _ => some (.byt b)
  | .float b _ => some (.flt b)
  | .ref a => some (.ref a)
  | .type n => some (.ty n)
  | _ => none
theorem RelV.abs {x : V} {u : Value} (r : RelV x u) : absV u = some x := by
  cases x with
  | non => cases r; rfl
  | bl _ => cases r; rfl
  | int _ => obtain ⟨t, rfl⟩ := r; rfl
  | str _ => obtain ⟨t, rfl⟩ := r; rfl
  | byt _ => obtain ⟨t, rfl⟩ := r; rfl
  | flt _ => obtain ⟨t, rfl⟩ := r; rfl
  | ref _ => cases r; rfl
  | ty _ => cases r; rfl
theorem RelV.inj {x y : V} {u : Value} (r : RelV x u) (q : RelV y u) : x = y := Option.some.inj (r.abs.symm.trans q.abs)
theorem Vals.inj : ∀ {xs ys : List V} {us : List Value}, Vals xs us → Vals ys us → xs = ys
  | _, _, _, .nil, .nil => rfl
  | _, _, _, .cons r t, .cons r' t' => by rw [r.inj r', Vals.inj t t']
section
variable {X : Cx} {pins : List (Addr × Obj)} {σ : St} {H : Hp} {s : Shared} {a : Addr} {xs ys : List V}
theorem SqL.of {K : PySem.W.Frag} (h : H a = some (.lst xs)) : SqL K H a xs := .inl (.inl h)
theorem SqT.of {K : PySem.W.Frag} (h : H a = some (.tup xs)) : SqT K H a xs := .inl (.inl h)
theorem Inv.list (I : Inv X pins σ H s) (h : SqL X.K H a xs) : ∃ its : List Value, Vals xs its ∧ PlainL s.heap a its.toArray ∧ xs.length ≤ sizeLine := by
  rcases h with h | ⟨o, its, n, hk, hc, hd, hs, hz, r⟩
  · obtain ⟨z, its, n, r, e⟩ := h.ok I.hok
    exact ⟨its, r, ⟨_, n, e, rfl, rfl, rfl⟩, z⟩
  · refine ⟨its.toList, r, ⟨o, n, I.kIn a o hk, hc, hd, by simpa using hs⟩, ?_⟩
    have e := r.length
    simp only [Array.length_toList] at e
    lia
theorem Inv.tuple (I : Inv X pins σ H s) (h : SqT X.K H a xs) : ∃ its : List Value, Vals xs its ∧ IsTup s.heap a its.toArray ∧ xs.length ≤ sizeLine := by
  rcases h with h | ⟨o, its, n, hk, hc, hs, hz, r⟩
  · obtain ⟨z, its, r, p⟩ := h.ok I.hok
    exact ⟨its, r, p, z⟩
  · refine ⟨its.toList, r, ⟨o, I.kIn a o hk, hc, n, by simpa using hs⟩, ?_⟩
    have e := r.length
    simp only [Array.length_toList] at e
    lia
theorem Inv.list_inj (I : Inv X pins σ H s) (h : SqL X.K H a xs) (h' : SqL X.K H a ys) : xs = ys := by
  obtain ⟨its, r, ⟨o, n, e, _, _, d⟩, _⟩ := I.list h
  obtain ⟨its', r', ⟨o', n', e', _, _, d'⟩, _⟩ := I.list h'
  rw [e] at e'; cases e'
  rw [d] at d'
  injection d' with d1 _
  have : its = its' := by simpa using congrArg Array.toList d1
  subst this
  exact r.inj r'
end

/-! ### another wish about exceptions -/
noncomputable abbrev Cx.wish (X : Cx) (E : Value → Shared → Prop) : Cx := { X with xe := E }
/-- no exception leaves -/
noncomputable abbrev Cx.nox (X : Cx) : Cx := X.wish fun _ _ => False
theorem Cx.Ok.wish {X : Cx} (ok : X.Ok) (E : Value → Shared → Prop) : (X.wish E).Ok :=
  ⟨ok.mod, ok.kind, ok.glob, ok.blt, ok.above, ok.inj, ok.has, ok.cab, ok.hd, ok.frames, ok.stk, ok.exf, ok.bs, ok.bsz, ok.noex, ok.exfs, ok.funs, ok.frf⟩
theorem Cx.Ok.unwish {X : Cx} {E : Value → Shared → Prop} (ok : (X.wish E).Ok) : X.Ok :=
  ⟨ok.mod, ok.kind, ok.glob, ok.blt, ok.above, ok.inj, ok.has, ok.cab, ok.hd, ok.frames, ok.stk, ok.exf, ok.bs, ok.bsz, ok.noex, ok.exfs, ok.funs, ok.frf⟩
section
variable {X : Cx} {pins : List (Addr × Obj)} {σ : St} {H : Hp} {s : Shared} {E : Value → Shared → Prop}
theorem Inv.wish (I : Inv X pins σ H s) (E : Value → Shared → Prop) : Inv (X.wish E) pins σ H s := ⟨I.ok.wish E, I.os, I.bare, I.base, I.loc, I.cell, I.free, I.freeC, I.pin, I.hok, I.len⟩
theorem Inv.unwish (I : Inv (X.wish E) pins σ H s) : Inv X pins σ H s := ⟨I.ok.unwish, I.os, I.bare, I.base, I.loc, I.cell, I.free, I.freeC, I.pin, I.hok, I.len⟩
theorem SP.unwish {D : Ends} {f : Flow} {s' : Shared} (h : SP (X.wish E) pins D f s') : SP X pins D f s' := by
  cases f with
  | next => obtain ⟨σ', H', I, q⟩ := h; exact ⟨σ', H', I.unwish, q⟩
  | brk => obtain ⟨σ', H', I, q⟩ := h; exact ⟨σ', H', I.unwish, q⟩
  | cont => obtain ⟨σ', H', I, q⟩ := h; exact ⟨σ', H', I.unwish, q⟩
  | ret u => obtain ⟨v, σ', H', I, r, q⟩ := h; exact ⟨v, σ', H', I.unwish, r, q⟩
theorem PSs.nox {st : List Stmt} {t : TS} (h : PSs X.nox st t) : PSs X st t := fun pins s σ H D I hw =>
  wpAny_mono (h pins s σ H D (I.wish _) hw) (fun _ _ q => q.unwish) fun _ _ z => False.elim z
end

/-! ### blocks and small statements -/
section
variable {X : Cx} {st : Stmt} {rest : List Stmt} {t u : TS} {e : Expr} {te : TE} {pos : Pos}
noncomputable def tNext : TS := fun D σ H => D.nx σ H
noncomputable def tSeq (t u : TS) : TS := fun D σ H => t { D with nx := u D } σ H
theorem pss_nil : PSs X [] tNext := fun _ _ σ H _ I h => wpAny_execs_nil ⟨σ, H, I, h⟩
theorem pss_cons (h1 : PS X st t) (h2 : PSs X rest u) : PSs X (st :: rest) (tSeq t u) := by
  intro pins s σ H D I h
  refine wpAny_execs_cons (thn (h1 pins s σ H { D with nx := u D } I h) fun f s1 q => ?_)
  cases f with
  | next =>
    obtain ⟨σ', H', I', q⟩ := q
    exact h2 pins s1 σ' H' D I' q
  | ret v => exact q
  | brk => exact q
  | cont => exact q
theorem pss_one (h1 : PS X st t) : PSs X [st] t := by
  intro pins s σ H D I h
  refine wpAny_execs_cons (thn (h1 pins s σ H D I h) fun f s1 q => ?_)
  cases f with
  | next => exact wpAny_execs_nil q
  | ret v => exact q
  | brk => exact q
  | cont => exact q
/-- in a def's body nothing is shown -/
theorem Inv.quiet {pins : List (Addr × Obj)} {σ : St} {H : Hp} {s : Shared} (I : Inv X pins σ H s) : interactive X.env = false := by simp [interactive, I.ok.kind]
/-- an expression whose value is dropped -/
noncomputable def tDrop (te : TE) : TS := fun D σ H => te σ H fun _ H1 => D.nx σ H1
theorem ps_expr (he : PE X e te) (hs : swapsWith e none pos.line X.env = pure false := by rfl) : PS X (.Expr e pos) (tDrop te) := by
  intro pins s σ H D I h
  exact wpAny_Expr_any (thn (he pins s σ H _ I h) fun v s1 ⟨x, H1, I1, r1, q1⟩ => ⟨σ, H1, I1, q1⟩) I.quiet hs
noncomputable def tRet (te : TE) : TS := fun D σ H => te σ H D.rt
theorem ps_ret (he : PE X e te) : PS X (.Return (some e) pos) (tRet te) := by
  intro pins s σ H D I h
  exact wpAny_Return_some (thn (he pins s σ H _ I h) fun v s1 ⟨x, H1, I1, r1, q1⟩ => ⟨x, σ, H1, I1, r1, q1⟩)
noncomputable def tIfS (c : TT) (t u : TS) : TS := fun D σ H => c σ H fun b H1 => if b = true then t D σ H1 else u D σ H1
theorem ps_if {c : Expr} {a b : List Stmt} {tc : TT} (hc : PT X c tc) (ha : PSs X a t) (hb : PSs X b u) : PS X (.If c a b pos) (tIfS tc t u) := by
  intro pins s σ H D I h
  refine wpAny_If (thn (hc pins s σ H _ I h) fun d s1 ⟨H1, I1, q1⟩ => ?_)
  cases d with
  | true => exact ha pins s1 σ H1 D I1 q1
  | false => exact hb pins s1 σ H1 D I1 q1
/-- code that the proof never comes to -/
noncomputable def tNever : TS := fun _ _ _ => False
theorem ps_never : PS X st tNever := fun _ _ _ _ _ _ h => h.elim
theorem pss_never {sts : List Stmt} : PSs X sts tNever := fun _ _ _ _ _ _ h => h.elim
end

/-! ### targets -/
noncomputable abbrev TG := V → St → Hp → (St → Hp → Prop) → Prop
noncomputable abbrev TGs := List V → St → Hp → (St → Hp → Prop) → Prop
noncomputable def PG (X : Cx) (target : Expr) (t : TG) : Prop :=
  ∀ (pins : List (Addr × Obj)) (s : Shared) (σ : St) (H : Hp) (v : V) (u : Value) (Q : St → Hp → Prop), Inv X pins σ H s → RelV v u → t v σ H Q →
    wpAny (model X.prog X.w) X.A (assign target X.env u) (fun _ s' => ∃ σ' H', Inv X pins σ' H' s' ∧ Q σ' H') X.xe s
/-- several targets, one after another -/
noncomputable def PGs (X : Cx) (ts : List Expr) (t : TGs) : Prop :=
  ∀ (pins : List (Addr × Obj)) (s : Shared) (σ : St) (H : Hp) (vs : List V) (us : List Value) (Q : St → Hp → Prop), Inv X pins σ H s → Vals vs us → t vs σ H Q →
    wpAny (model X.prog X.w) X.A (assignInOrder ((assignEach ts X.env).map (·.2)) us) (fun _ s' => ∃ σ' H', Inv X pins σ' H' s' ∧ Q σ' H') X.xe s
/-- o[i] = v, by values -/
noncomputable abbrev TSet := V → V → V → Hp → (Hp → Prop) → Prop
noncomputable def PSet (X : Cx) (t : TSet) : Prop :=
  ∀ (pins : List (Addr × Obj)) (s : Shared) (σ : St) (H : Hp) (o i v : V) (ov iv u : Value) (Q : Hp → Prop), Inv X pins σ H s → RelV o ov → RelV i iv → RelV v u → t o i v H Q →
    wpAny (model X.prog X.w) X.A (setItem ov iv u) (fun _ s' => ∃ H', Inv X pins σ H' s' ∧ Q H') X.xe s
section
variable {X : Cx} {pos : Pos}
noncomputable def gName (i : Nat) : TG := fun v σ H Q => Q (σ.set i (some v)) H
theorem pg_name {i : Nat} {x : Str} (hN : X.N.Nodup) (hi : X.N[i]? = some x) (hx : Loc X.env.scope x) (hf : X.fn x = true ∨ X.env.scope.names.lookup x = some .local := by first | exact .inl rfl | exact .inr rfl | assumption) : PG X (.Name x pos) (gName i) := by
  intro pins s σ H v u Q I r h
  exact wpAny_assign_Name (store_ok I hN hi hx r (fun s' I' => ⟨_, H, I', h⟩) hf)
noncomputable def gNil : TGs := fun vs σ H Q => vs = [] ∧ Q σ H
noncomputable def gCons (t : TG) (u : TGs) : TGs := fun vs σ H Q => ∃ v r, vs = v :: r ∧ t v σ H fun σ' H' => u r σ' H' Q
theorem pgs_nil : PGs X [] gNil := by
  intro pins s σ H vs us Q I r h
  obtain ⟨e, h⟩ := h
  subst e
  cases r
  exact assignInOrder_nil ⟨σ, H, I, h⟩
theorem pgs_cons {e : Expr} {es : List Expr} {t : TG} {u : TGs} (h1 : PG X e t) (h2 : PGs X es u)
    (hs : (assignEach (e :: es) X.env).map (·.2) = assign e X.env :: (assignEach es X.env).map (·.2) := by rfl) : PGs X (e :: es) (gCons t u) := by
  intro pins s σ H vs us Q I r h
  obtain ⟨v, vr, e1, h⟩ := h
  subst e1
  cases r with
  | cons r rr =>
    rw [hs]
    refine assignInOrder_cons (thn (h1 pins s σ H _ _ _ I r h) fun _ s1 ⟨σ1, H1, I1, q1⟩ => ?_)
    exact h2 pins s1 σ1 H1 _ _ Q I1 rr q1
/-- (a, b, ..) = a tuple of that length -/
noncomputable def gTup (K : PySem.W.Frag) (n : Nat) (t : TGs) : TG := fun v σ H Q => ∃ a xs, v = .ref a ∧ SqT K H a xs ∧ xs.length = n ∧ t xs σ H Q
theorem pg_tup {es : List Expr} {k : Nat} {t : TGs} {n : Nat} (hc : X.calm = true) (h : PGs X es t)
    (hn : (assignEach es X.env).length = n := by rfl) (hst : (assignEach es X.env).findIdx? (·.1) = none := by rfl) : PG X (.Tuple es k pos) (gTup X.K n t) := by
  intro pins s σ H v u Q I r hw
  obtain ⟨a, xs, e1, hq, hl, hw⟩ := hw
  subst e1
  cases r
  obtain ⟨its, rv, ht, hz⟩ := I.tuple hq
  refine assign_Tuple_tuple (I.ok.hd hc) ht (by simp [hn, ← hl, rv.length]) hst fun h' hx => ?_
  have I1 : Inv X pins σ H { s with heap := h' } := I.kept (t' := s.toks) fun b o e => hx b o (Nat.ne_of_lt (Heap.lt_size e)) e
  exact h pins _ σ H xs _ Q I1 (by simpa using rv) hw
/-- o[i] = .. -/
noncomputable def gSub (to ti : TE) (t : TSet) : TG := fun v σ H Q => to σ H fun o H1 => ti σ H1 fun i H2 => t o i v H2 fun H3 => Q σ H3
theorem pg_sub {o i : Expr} {to ti : TE} {t : TSet} (ho : PE X o to) (hi : PE X i ti) (hs : PSet X t)
    (ha : ∀ v, assign (.Subscript o i pos) X.env v = (do
      let ov ← holding [v] (eval o X.env)
      let iv ← holding [v, ov] (eval i X.env)
      standAt pos
      holding [v, ov, iv] (setItem ov iv v)
      release [v, ov, iv] []) := by intro _; rfl) : PG X (.Subscript o i pos) (gSub to ti t) := by
  intro pins s σ H v u Q I r h
  rw [ha]
  refine wpAny_bind (wpAny_holding (thn (ho pins s σ H _ I h) fun ov s1 ⟨x, H1, I1, r1, q1⟩ => ?_))
  refine wpAny_bind (wpAny_holding (thn (hi pins s1 σ H1 _ I1 q1) fun iv s2 ⟨y, H2, I2, r2, q2⟩ => ?_))
  refine wpAny_bind (wpAny_standAt (wpAny_bind (wpAny_holding (thn (hs pins s2 σ H2 x y v ov iv u _ I2 r1 r2 r q2) fun _ s3 ⟨H3, I3, q3⟩ => ?_))))
  exact wpAny_release ⟨σ, H3, I3, q3⟩
/-- target = value -/
noncomputable def tAsg (te : TE) (g : TG) : TS := fun D σ H => te σ H fun x H1 => g x σ H1 D.nx
theorem ps_asg {tg e : Expr} {te : TE} {g : TG} (he : PE X e te) (hg : PG X tg g) (hs : swapsWithSole [tg] e pos.line X.env = pure false := by rfl) (hw : swappedStores [tg] e X.env = pure none := by rfl)
    (h1 : (assignEach [tg] X.env).map (·.2) = [assign tg X.env] := by rfl) : PS X (.Assign [tg] e pos) (tAsg te g) := by
  intro pins s σ H D I h
  refine wpAny_Assign_stores (thn (he pins s σ H _ I h) fun v s1 ⟨x, H1, I1, r1, q1⟩ => ?_) hs hw
  rw [h1]
  exact thn (hg pins s1 σ H1 x v _ I1 r1 q1) fun _ s2 q => q
/-- name = value -/
theorem ps_set {i : Nat} {x : Str} {e : Expr} {te : TE} {pos' : Pos} (hN : X.N.Nodup) (hi : X.N[i]? = some x) (hx : Loc X.env.scope x) (he : PE X e te) (hs : swapsWith e (some (.Name x pos')) pos.line X.env = pure false := by rfl) (hf : X.fn x = true ∨ X.env.scope.names.lookup x = some .local := by first | exact .inl rfl | exact .inr rfl | assumption) :
    PS X (.Assign [.Name x pos'] e pos) (tAsg te (gName i)) := by
  intro pins s σ H D I h
  refine wpAny_Assign_Name (thn (he pins s σ H _ I h) fun v s1 ⟨y, H1, I1, r1, q1⟩ => ?_) hs
  exact store_ok I1 hN hi hx r1 (fun s2 I2 => ⟨_, H1, I2, q1⟩) hf
end

/-! ### while -/
section
variable {X : Cx} {pos : Pos}
/-- the invariant W with its measure -/
noncomputable def tWhile (c : TT) (tb : TS) : TS := fun D σ H => ∃ W : Nat → St → Hp → Prop, (∃ m, W m σ H) ∧ ∀ m σ H, W m σ H →
  c σ H fun b H1 => if b = true then ∃ N : St → Hp → Prop, (∀ σ' H', N σ' H' → ∃ m', m' < m ∧ W m' σ' H') ∧ tb { D with nx := N, ct := N, bk := D.nx } σ H1 else D.nx σ H1
theorem ps_while {c : Expr} {body : List Stmt} {tc : TT} {tb : TS} (hp : PassesOwn (model X.prog X.w) X.A X.env X.xe) (hc : PT X c tc) (hb : PSs X body tb) : PS X (.While c body [] pos) (tWhile tc tb) := by
  intro pins s σ H D I h
  obtain ⟨W, ⟨m0, w0⟩, turn⟩ := h
  refine wpAny_While (codeAny_whileLoop (fun n s' => ∃ σ' H', Inv X pins σ' H' s' ∧ W n σ' H') ?_ m0 ⟨σ, H, I, w0⟩)
  rintro n s1 ⟨σ1, H1, I1, w1⟩
  refine wpAny_passesOwn hp (thn (hc pins s1 σ1 H1 _ I1 (turn n σ1 H1 w1)) fun b s2 ⟨H2, I2, q2⟩ => ?_)
  cases b with
  | true =>
    obtain ⟨N, hN, q2⟩ := q2
    rw [if_pos rfl]
    refine wpAny_passesOwn hp (thn (hb pins s2 σ1 H2 _ I2 q2) fun f s3 q3 => ?_)
    cases f with
    | next =>
      obtain ⟨σ3, H3, I3, n3⟩ := q3
      obtain ⟨m', hm, w3⟩ := hN σ3 H3 n3
      exact ⟨m', hm, σ3, H3, I3, w3⟩
    | cont =>
      obtain ⟨σ3, H3, I3, n3⟩ := q3
      obtain ⟨m', hm, w3⟩ := hN σ3 H3 n3
      exact ⟨m', hm, σ3, H3, I3, w3⟩
    | brk => exact q3
    | ret v => exact q3
  | false =>
    rw [if_neg Bool.false_ne_true]
    exact wpAny_execs_nil ⟨σ1, H2, I2, q2⟩
end

/-! ### what a loop or a comprehension walks -/
/-- at turn i: it yields x (the heap may grow), or it stops -/
structure It where
  go : Nat → Hp → Prop
  yld : Nat → Hp → V → Hp → Prop
  stop : Nat → Hp → Prop
/-- the iterator's own objects may turn: they are not the frame's, not pinned, younger than the entry (or a comprehension's own) -/
noncomputable def FpOk (X : Cx) (pins : List (Addr × Obj)) (H : Hp) (b : Addr) : Prop :=
  H b = none ∧ b ≠ X.env.locals ∧ b ∉ X.fs ∧ (b ∈ X.ex ∨ X.s₀.heap.objs.size ≤ b) ∧ (∀ x c, X.env.cells.lookup x = some c → c ≠ b) ∧ ∀ p ∈ X.pn ++ pins, p.1 ≠ b
theorem Inv.fpOk {X : Cx} {pins : List (Addr × Obj)} {σ : St} {H H' : Hp} {s : Shared} {b : Addr} (I : Inv X pins σ H s) (hb : s.heap.objs.size ≤ b) (hn : H' b = none) : FpOk X pins H' b := by
  refine ⟨hn, Nat.ne_of_gt (Nat.lt_of_lt_of_le I.lt hb), I.nofs hb, .inr (Nat.le_trans I.sz hb), fun x c e z => ?_, fun p hp z => ?_⟩
  · obtain ⟨v, q⟩ := I.cell x c e
    exact absurd (Nat.lt_of_lt_of_le q.lt (by rw [z]; exact hb)) (Nat.lt_irrefl _)
  · exact absurd (Nat.lt_of_lt_of_le (Heap.lt_size (I.pin p hp).1) (by rw [z]; exact hb)) (Nat.lt_irrefl _)
structure Turn (P : Program) (w : World) (K : PySem.W.Frag) (tg : Expr) (J : It) (fp : List Addr) (it : Addr) (tn : Nat → Heap → Prop) : Prop where
  mem : it ∈ fp
  obj : ∀ i h, tn i h → ∀ b ∈ fp, ∃ o, h.get? b = some o ∧ ∀ v, o.data ≠ .cell v
  keep : ∀ i h h', tn i h → (∀ b ∈ fp, ∀ o, h.get? b = some o → h'.get? b = some o) → tn i h'
  item : ∀ (X : Cx), X.prog = P → X.w = w → X.K = K → X.calm = true → ∀ (i : Nat) (pins : List (Addr × Obj)) (s : Shared) (σ : St) (H : Hp) (E : Value → Shared → Prop), Inv X pins σ H s → (∀ b ∈ fp, FpOk X pins H b) → tn i s.heap → J.go i H →
    wpAny (model P w) X.A (pyNext (.ref it)) (fun r s1 => ∃ u, r = some u ∧
      wpAny (model P w) X.A (letOwnedTupleGo tg (.ref it) u) (fun _ s2 => ∃ x H', Inv X pins σ H' s2 ∧ RelV x u ∧ J.yld i H x H' ∧ tn (i + 1) s2.heap ∧ ∀ b ∈ fp, H' b = none) E s1) E s
  done : ∀ (X : Cx), X.prog = P → X.w = w → X.K = K → X.calm = true → ∀ (i : Nat) (pins : List (Addr × Obj)) (s : Shared) (σ : St) (H : Hp) (E : Value → Shared → Prop), Inv X pins σ H s → (∀ b ∈ fp, FpOk X pins H b) → tn i s.heap → J.stop i H →
    wpAny (model P w) X.A (pyNext (.ref it)) (fun r s1 => r = none ∧ Inv X pins σ H s1) E s
  self : ∀ (A : Around) (i : Nat) (s : Shared) (Q : Value → Shared → Prop) (E : Value → Shared → Prop), tn i s.heap → Q (.ref it) s → wpAny (model P w) A (pyIter (.ref it)) Q E s
noncomputable abbrev TI := St → Hp → (It → Hp → Prop) → Prop
/-- an iterator has come -/
noncomputable def PIE (X : Cx) (pins : List (Addr × Obj)) (σ : St) (tg : Expr) (R : It → Hp → Prop) (itv : Value) (s2 : Shared) : Prop :=
  ∃ (it : Addr) (fp : List Addr) (tn : Nat → Heap → Prop) (J : It) (H' : Hp), itv = .ref it ∧ Inv X pins σ H' s2 ∧ Turn X.prog X.w X.K tg J fp it tn ∧ tn 0 s2.heap ∧ (∀ b ∈ fp, FpOk X pins H' b) ∧ R J H'
noncomputable def PI (X : Cx) (tg iter : Expr) (wi : TI) : Prop :=
  ∀ (pins : List (Addr × Obj)) (s : Shared) (σ : St) (H : Hp) (R : It → Hp → Prop), Inv X pins σ H s → wi σ H R →
    wpAny (model X.prog X.w) X.A (eval iter X.env) (fun v s1 => wpAny (model X.prog X.w) X.A (pyIter v) (PIE X pins σ tg R) X.xe s1) X.xe s

/-- the step ahead of the store is nothing for an iterator that keeps no tuple -/
theorem go_of {M : Model} {A : Around} {E : Value → Shared → Prop} {s : Shared} {tg : Expr} {it : Addr} {u : Value} {o : Obj} {n : String} {vs : Array Value} {Q : Unit → Shared → Prop} (ho : s.heap.get? it = some o) (hc : o.cls = .type n) (hd : o.data = .fields vs)
    (hn : ["enumerate", "zip", "dict_itemiterator", "dict_reverseitemiterator", "odict_iterator", "itertools.zip_longest", "itertools.pairwise"].contains n = false) (hQ : Q () s) : wpAny M A (letOwnedTupleGo tg (.ref it) u) Q E s := by
  unfold letOwnedTupleGo
  cases tg <;> first
    | exact wpAny_pure hQ
    | (cases u <;> first
        | exact wpAny_pure hQ
        | (refine wpAny_bind (wpAny_load ho ?_)
           rw [hc, hd]
           show wpAny M A (if (["enumerate", "zip", "dict_itemiterator", "dict_reverseitemiterator", "odict_iterator", "itertools.zip_longest", "itertools.pairwise"].contains n && vs[0]? == some (rawInt _)) = true then _ else _) Q E s
           rw [if_neg (by intro h; rw [hn, Bool.false_and] at h; cases h)]
           exact wpAny_pure hQ))

/-- the list at a, as it stands at each turn (a loop may append to it) -/
noncomputable def Itl (K : PySem.W.Frag) (a : Addr) : It :=
  ⟨fun i H => ∃ xs x, SqL K H a xs ∧ xs[i]? = some x, fun i H x H' => H' = H ∧ ∀ xs, SqL K H a xs → xs[i]? = some x, fun i H => ∃ xs, SqL K H a xs ∧ xs.length ≤ i⟩
/-- lo, lo + 1, .. (n of them) -/
noncomputable def Itr (lo : Int) (n : Nat) : It := ⟨fun i _ => i < n, fun i H x H' => H' = H ∧ x = .int (lo + i), fun i _ => n ≤ i⟩
theorem turn_list {P : Program} {w : World} {K : PySem.W.Frag} {tg : Expr} (a it : Addr) : Turn P w K tg (Itl K a) [it] it (fun i h => h.IsListIter it a i) where
  mem := by simp
  obj := fun i h st b hb => by
    have e : b = it := by simpa using hb
    subst e
    obtain ⟨o, e, c, d⟩ := st
    exact ⟨o, e, fun v z => by rw [d] at z; cases z⟩
  keep := fun i h h' st k => st.at fun o e => k it (by simp) o e
  item := by
    intro X hP hw hK hc i pins s σ H E I hf st hg
    subst hP hw hK
    obtain ⟨xs, x, hq, hx⟩ := hg
    obtain ⟨its, rv, p, hz⟩ := I.list hq
    obtain ⟨u, hu, ru⟩ := rv.get hx
    obtain ⟨f0, f1, f2, f3, f4, f5⟩ := hf it (by simp)
    refine wpAny_pyNext_list_item st p.isList (x := u) (by simpa using hu) fun h' st' sb => ?_
    have I1 : Inv X pins σ H { s with heap := h' } := I.turned (t' := s.toks) (fun b o hb e => (sb.2 b hb).trans e) f0 f1 f3 f4 f5
    obtain ⟨o, e, c, d⟩ := id st'
    exact ⟨u, rfl, go_of (s := { s with heap := h' }) e c d (by decide) ⟨x, H, I1, ru, ⟨rfl, fun ys hy => by rw [I.list_inj hy hq]; exact hx⟩, st', fun b hb => (hf b hb).1⟩⟩
  done := by
    intro X hP hw hK hc i pins s σ H E I hf st hg
    subst hP hw hK
    obtain ⟨xs, hq, hx⟩ := hg
    obtain ⟨its, rv, p, hz⟩ := I.list hq
    obtain ⟨f0, f1, f2, f3, f4, f5⟩ := hf it (by simp)
    have hl := rv.length
    exact wpAny_pyNext_list_end (I.ok.hd hc) st p.isList (by simp; lia) fun h' eb => ⟨rfl, I.turned (t' := s.toks) (fun b o hb e => eb b o hb e) f0 f1 f3 f4 f5⟩
  self := fun _ _ _ _ _ st h => wpAny_pyIter_listiter st h
theorem turn_range {P : Program} {w : World} {K : PySem.W.Frag} {tg : Expr} (it : Addr) (lo : Int) (n : Nat) : Turn P w K tg (Itr lo n) [it] it (fun i h => IsRangeIter h it (lo + (i : Nat) * 1) ((n : Int) - (i : Nat)) 1) where
  mem := by simp
  obj := fun i h st b hb => by
    have e : b = it := by simpa using hb
    subst e
    exact ⟨_, st, fun v z => by
      have z' : Data.fields _ = Data.cell v := z
      cases z'⟩
  keep := fun i h h' st k => k it (by simp) _ st
  item := by
    intro X hP hw hK hc i pins s σ H E I hf st hg
    subst hP hw hK
    obtain ⟨f0, f1, f2, f3, f4, f5⟩ := hf it (by simp)
    have W := Walks.range (prog := X.prog) (w := X.w) (I.ok.hd hc) it lo 1 n
    refine W.item i s _ _ hg st fun v h' tk hv st' kk => ?_
    obtain ⟨t, rfl⟩ := hv
    have I1 : Inv X pins σ H { s with heap := h', toks := tk } := I.turned (fun b o hb e => kk b o (by simpa using hb) e) f0 f1 f3 f4 f5
    refine ⟨_, rfl, go_of (s := { s with heap := h', toks := tk }) (n := "range_iterator") st' rfl rfl (by decide) ⟨.int (lo + i), H, I1, ⟨t, ?_⟩, ⟨rfl, rfl⟩, st', fun b hb => (hf b hb).1⟩⟩
    rw [Int.mul_one]
  done := by
    intro X hP hw hK hc i pins s σ H E I hf st hg
    subst hP hw hK
    obtain ⟨f0, f1, f2, f3, f4, f5⟩ := hf it (by simp)
    exact wpAny_pyNext_range_end (I.ok.hd hc) st (by have : n ≤ i := hg; lia) fun h' eb => ⟨rfl, I.turned (t' := s.toks) (fun b o hb e => eb b o hb e) f0 f1 f3 f4 f5⟩
  self := fun _ _ _ _ _ st h => wpAny_pyIter_rangeiter st h
end L2

namespace L2
open PySem PySem.Spec PyProof.Rows
section
variable {X : Cx} {tg : Expr}
noncomputable def iList (K : PySem.W.Frag) (tl : TE) : TI := fun σ H R => tl σ H fun x H1 => ∃ a, x = .ref a ∧ (∃ xs, SqL K H1 a xs) ∧ R (Itl K a) H1
theorem pi_list {l : Expr} {tl : TE} (hl : PE X l tl) : PI X tg l (iList X.K tl) := by
  intro pins s σ H R I h
  refine thn (hl pins s σ H _ I h) fun v s1 ⟨x, H1, I1, r1, q1⟩ => ?_
  obtain ⟨a, e, ⟨xs, hq⟩, q⟩ := q1
  subst e
  cases r1
  obtain ⟨its, rv, p, hz⟩ := I1.list hq
  refine wpAny_pyIter_list p.isList ?_
  refine ⟨s1.heap.objs.size, [s1.heap.objs.size], _, _, H1, rfl, I1.kept (t' := s1.toks) fun b o e => Heap.get?_push_of_some _ e, turn_list a _, ⟨_, Heap.get?_push_size _ rfl, rfl, rfl⟩, fun b hb => ?_, q⟩
  have e : b = s1.heap.objs.size := by simpa using hb
  subst e
  exact I1.fpOk (Nat.le_refl _) (I1.hok.fresh (Nat.le_refl _))
/-- a range object just made, walked -/
theorem range_it {pins : List (Addr × Obj)} {σ : St} {H : Hp} {s : Shared} {R : It → Hp → Prop} {E : Value → Shared → Prop} {lo hi : Int} {t u v : Tok} {tk : Nat} (I : Inv X pins σ H s) (h1 : -(2 ^ 62) ≤ lo) (h2 : lo < 2 ^ 62) (h3 : -(2 ^ 62) ≤ hi) (h4 : hi < 2 ^ 62)
    (q : R (Itr lo (hi - lo).toNat) H) : wpAny (model X.prog X.w) X.A (pyIter (.ref s.heap.objs.size)) (PIE X pins σ tg R) E { s with heap := s.heap.push { cls := .type "range", data := .fields #[.int lo t, .int hi u, .int 1 v] }, toks := tk } := by
  refine wpAny_pyIter_range (IsRange.new ..) (small_one h1 h2 h3 h4) ?_
  have I1 : Inv X pins σ H { s with heap := s.heap.push { cls := .type "range", data := .fields #[.int lo t, .int hi u, .int 1 v] }, toks := tk } := I.kept fun b o e => Heap.get?_push_of_some _ e
  refine ⟨(s.heap.push { cls := .type "range", data := .fields #[.int lo t, .int hi u, .int 1 v] }).objs.size, [(s.heap.push { cls := .type "range", data := .fields #[.int lo t, .int hi u, .int 1 v] }).objs.size], _, _, H, rfl,
    I1.kept (t' := tk) fun b o e => Heap.get?_push_of_some _ e, turn_range _ lo (hi - lo).toNat, ?_, fun b hb => ?_, q⟩
  · have e1 : lo + ((0 : Nat) : Int) * 1 = lo := by simp
    have e2 : (((hi - lo).toNat : Nat) : Int) - ((0 : Nat) : Int) = Builtin.Range.rangeSize lo hi 1 := by rw [rangeSize_one]; split <;> lia
    show IsRangeIter _ _ (lo + ((0 : Nat) : Int) * 1) ((((hi - lo).toNat : Nat) : Int) - ((0 : Nat) : Int)) 1
    rw [e1, e2]
    exact Heap.get?_push_size _ rfl
  · have e : b = (s.heap.push { cls := .type "range", data := .fields #[.int lo t, .int hi u, .int 1 v] }).objs.size := by simpa using hb
    subst e
    exact I1.fpOk (Nat.le_refl _) (I1.hok.fresh (Nat.le_refl _))
noncomputable def iRng1 (ta : TA) : TI := fun σ H R => ta σ H fun vs H1 => ∃ j : Int, vs = [.int j] ∧ -(2 ^ 62) ≤ j ∧ j < 2 ^ 62 ∧ R (Itr 0 j.toNat) H1
theorem pi_range1 {a : Expr} {ta : TA} {p pos : Pos} (hg : Gl X "range") (hm : X.mg "range" = none) (ha : PA X [a] ta) (hs : starEach [a] X.env = [(false, eval a X.env)] := by rfl) : PI X tg (.Call (.Name "range" p) [a] [] pos) (iRng1 ta) := by
  intro pins s σ H R I h
  refine Call_ (ld_blt I hg hm boot_range (PyProof.Rows.callWith_type1 (thn (ha pos pins s σ H _ I h) fun us s1 ⟨vs, H1, I1, r1, q1⟩ => ?_) hs rfl))
  obtain ⟨j, e, q1, q2, q⟩ := q1
  subst e
  cases r1 with
  | cons r rr =>
    cases rr
    obtain ⟨t, rfl⟩ := r
    exact call_range_1 (range_it I1 (by lia) (by lia) q1 q2 (by simpa using q))

/-! ### for -/
/-- W: the invariant by the turn and a measure; N: what the body is to reach -/
noncomputable def tFor (wi : TI) (g : TG) (tb : TS) : TS := fun D σ H => wi σ H fun J H1 => ∃ W : Nat → Nat → St → Hp → Prop, (∃ m, W 0 m σ H1) ∧ ∀ i m σ H, W i m σ H →
  (J.stop i H ∧ D.nx σ H) ∨ (J.go i H ∧ ∃ N : St → Hp → Prop, (∀ σ' H', N σ' H' → ∃ m', m' < m ∧ W (i + 1) m' σ' H') ∧ ∀ x H', J.yld i H x H' → g x σ H' fun σ2 H2 => tb { D with nx := N, ct := N, bk := D.nx } σ2 H2)
/-- the records at fp as they stand -/
noncomputable def pinsAt (fp : List Addr) (h : Heap) : List (Addr × Obj) := fp.filterMap fun b => (h.get? b).map fun o => (b, o)
theorem mem_pinsAt {fp : List Addr} {h : Heap} {b : Addr} {o : Obj} (hb : b ∈ fp) (e : h.get? b = some o) : (b, o) ∈ pinsAt fp h := List.mem_filterMap.mpr ⟨b, hb, by rw [e]; rfl⟩
theorem of_pinsAt {fp : List Addr} {h : Heap} {p : Addr × Obj} (hp : p ∈ pinsAt fp h) : p.1 ∈ fp ∧ h.get? p.1 = some p.2 := by
  obtain ⟨b, hb, e⟩ := List.mem_filterMap.mp hp
  cases q : h.get? b with
  | none => rw [q] at e; cases e
  | some o =>
    rw [q] at e
    have e' : (b, o) = p := Option.some.inj e
    subst e'
    exact ⟨hb, q⟩
theorem Inv.pinned {pins : List (Addr × Obj)} {σ : St} {H : Hp} {s : Shared} {fp : List Addr} (I : Inv X pins σ H s) (hf : ∀ b ∈ fp, FpOk X pins H b) (ho : ∀ b ∈ fp, ∃ o, s.heap.get? b = some o ∧ ∀ v, o.data ≠ .cell v) : Inv X (pins ++ pinsAt fp s.heap) σ H s :=
  I.pins_of fun p hp => (List.mem_append.mp hp).elim (fun z => I.pin p (List.mem_append_right _ z)) fun z => by
    obtain ⟨hb, e⟩ := of_pinsAt z
    obtain ⟨f0, f1, f2, _⟩ := hf p.1 hb
    obtain ⟨o, e', d⟩ := ho p.1 hb
    rw [e] at e'; cases e'
    exact ⟨e, f0, f1, f2, d⟩
theorem Inv.unpinned {pins pl : List (Addr × Obj)} {σ : St} {H : Hp} {s : Shared} (I : Inv X (pins ++ pl) σ H s) : Inv X pins σ H s := I.pins_of fun p hp => I.pin p (List.mem_append_right _ (List.mem_append_left _ hp))
theorem ps_for {iter : Expr} {body : List Stmt} {wi : TI} {g : TG} {tb : TS} {pos : Pos} (hp : PassesOwn (model X.prog X.w) X.A X.env X.xe) (hc : X.calm = true) (hi : PI X tg iter wi) (hg : PG X tg g) (hb : PSs X body tb)
    (hs : ∀ x, foldedSetIterable iter X.env x = pure x := by intro _; rfl) : PS X (.For tg iter body [] pos) (tFor wi g tb) := by
  intro pins s σ H D I h
  refine wpAny_For (thn (hi pins s σ H _ I h) fun v s1 h1 => thn h1 fun itv s2 h2 => ?_) hs
  obtain ⟨it, fp, tn, J, H2, e, I2, T, st2, f2, W, ⟨m0, w0⟩, turn⟩ := h2
  subst e
  -- what stays true of the iterator's objects through the loop
  have stat : ∀ {H' : Hp}, (∀ b ∈ fp, H' b = none) → ∀ b ∈ fp, FpOk X pins H' b := fun hn b hb => ⟨hn b hb, (f2 b hb).2⟩
  refine codeAny_forLoop_any (fun n s' => ∃ i σ' H', Inv X pins σ' H' s' ∧ tn i s'.heap ∧ (∀ b ∈ fp, H' b = none) ∧ W i n σ' H') ?_ m0 ⟨0, σ, H2, I2, st2, fun b hb => (f2 b hb).1, w0⟩
  rintro n s3 ⟨i, σ3, H3, I3, st3, fr3, w3⟩
  rcases turn i n σ3 H3 w3 with ⟨stop, qn⟩ | ⟨go, N, hN, step⟩
  · refine wpAny_passesOwn hp (thn (T.done X rfl rfl rfl hc i pins s3 σ3 H3 X.xe I3 (stat fr3) st3 stop) fun r s4 ⟨hr, I4⟩ => ?_)
    subst hr
    exact wpAny_execs_nil ⟨σ3, H3, I4, qn⟩
  · refine wpAny_passesOwn hp (thn (T.item X rfl rfl rfl hc i pins s3 σ3 H3 X.xe I3 (stat fr3) st3 go) fun r s4 ⟨u, hr, h4⟩ => ?_)
    subst hr
    refine wpAny_passesOwn hp (thn h4 fun _ s5 ⟨x, H5, I5, r5, y5, st5, fr5⟩ => ?_)
    have I5' := I5.pinned (stat fr5) (T.obj _ _ st5)
    refine wpAny_passesOwn hp (thn (hg _ s5 σ3 H5 x u _ I5' r5 (step x H5 y5)) fun _ s6 ⟨σ6, H6, I6, q6⟩ => ?_)
    refine wpAny_passesOwn hp (thn (hb _ s6 σ6 H6 _ I6 q6) fun f s7 q7 => ?_)
    have again : ∀ {σ7 : St} {H7 : Hp}, Inv X (pins ++ pinsAt fp s5.heap) σ7 H7 s7 → N σ7 H7 → ∃ m, m < n ∧ ∃ i σ' H', Inv X pins σ' H' s7 ∧ tn i s7.heap ∧ (∀ b ∈ fp, H' b = none) ∧ W i m σ' H' := fun {σ7 H7} I7 n7 => by
      obtain ⟨m', hm, w7⟩ := hN σ7 H7 n7
      refine ⟨m', hm, i + 1, σ7, H7, I7.unpinned, T.keep _ _ _ st5 fun b hb o e => (I7.pin (b, o) (List.mem_append_right _ (List.mem_append_right _ (mem_pinsAt hb e)))).1, fun b hb => ?_, w7⟩
      obtain ⟨o, e, d⟩ := T.obj _ _ st5 b hb
      exact (I7.pin (b, o) (List.mem_append_right _ (List.mem_append_right _ (mem_pinsAt hb e)))).2.1
    cases f with
    | next => obtain ⟨σ7, H7, I7, n7⟩ := q7; exact again I7 n7
    | cont => obtain ⟨σ7, H7, I7, n7⟩ := q7; exact again I7 n7
    | brk => obtain ⟨σ7, H7, I7, q7⟩ := q7; exact ⟨σ7, H7, I7.unpinned, q7⟩
    | ret v => obtain ⟨x7, σ7, H7, I7, r7, q7⟩ := q7; exact ⟨x7, σ7, H7, I7.unpinned, r7, q7⟩
end

/-! ### the forms one uses -/
/-- over a list that the body leaves as it is -/
theorem for_list {K : PySem.W.Frag} {a : Addr} {xs : List V} {g : TG} {tb : TS} {D : Ends} {σ : St} {H : Hp} (Pv : Nat → St → Hp → Prop) (h0 : Pv 0 σ H) (hl : ∀ i σ H, i ≤ xs.length → Pv i σ H → SqL K H a xs)
    (hs : ∀ i x σ H, xs[i]? = some x → Pv i σ H → g x σ H fun σ2 H2 => tb { D with nx := Pv (i + 1), ct := Pv (i + 1), bk := D.nx } σ2 H2) (hd : ∀ σ H, Pv xs.length σ H → D.nx σ H) :
    ∃ W : Nat → Nat → St → Hp → Prop, (∃ m, W 0 m σ H) ∧ ∀ i m σ H, W i m σ H →
      ((Itl K a).stop i H ∧ D.nx σ H) ∨ ((Itl K a).go i H ∧ ∃ N : St → Hp → Prop, (∀ σ' H', N σ' H' → ∃ m', m' < m ∧ W (i + 1) m' σ' H') ∧ ∀ x H', (Itl K a).yld i H x H' → g x σ H' fun σ2 H2 => tb { D with nx := N, ct := N, bk := D.nx } σ2 H2) := by
  refine ⟨fun i m σ H => m = xs.length - i ∧ i ≤ xs.length ∧ Pv i σ H, ⟨xs.length, by simp, Nat.zero_le _, h0⟩, ?_⟩
  rintro i m σ H ⟨rfl, hi, p⟩
  have q := hl i σ H hi p
  by_cases hlt : i < xs.length
  · refine .inr ⟨⟨xs, xs[i], q, by simp [hlt]⟩, Pv (i + 1), fun σ' H' p' => ⟨xs.length - (i + 1), by lia, rfl, hlt, p'⟩, fun x H' y => ?_⟩
    obtain ⟨e, y⟩ := y
    subst e
    exact hs i x σ _ (y xs q) p
  · have e : i = xs.length := by lia
    subst e
    exact .inl ⟨⟨xs, q, Nat.le_refl _⟩, hd σ H p⟩
theorem for_range {lo : Int} {n : Nat} {g : TG} {tb : TS} {D : Ends} {σ : St} {H : Hp} (Pv : Nat → St → Hp → Prop) (h0 : Pv 0 σ H)
    (hs : ∀ i σ H, i < n → Pv i σ H → g (.int (lo + i)) σ H fun σ2 H2 => tb { D with nx := Pv (i + 1), ct := Pv (i + 1), bk := D.nx } σ2 H2) (hd : ∀ σ H, Pv n σ H → D.nx σ H) :
    ∃ W : Nat → Nat → St → Hp → Prop, (∃ m, W 0 m σ H) ∧ ∀ i m σ H, W i m σ H →
      ((Itr lo n).stop i H ∧ D.nx σ H) ∨ ((Itr lo n).go i H ∧ ∃ N : St → Hp → Prop, (∀ σ' H', N σ' H' → ∃ m', m' < m ∧ W (i + 1) m' σ' H') ∧ ∀ x H', (Itr lo n).yld i H x H' → g x σ H' fun σ2 H2 => tb { D with nx := N, ct := N, bk := D.nx } σ2 H2) := by
  refine ⟨fun i m σ H => m = n - i ∧ i ≤ n ∧ Pv i σ H, ⟨n, by simp, Nat.zero_le _, h0⟩, ?_⟩
  rintro i m σ H ⟨rfl, hi, p⟩
  by_cases hlt : i < n
  · refine .inr ⟨hlt, Pv (i + 1), fun σ' H' p' => ⟨n - (i + 1), by lia, rfl, hlt, p'⟩, fun x H' y => ?_⟩
    obtain ⟨e, y⟩ := y
    subst e y
    exact hs i σ _ hlt p
  · have e : i = n := by lia
    subst e
    exact .inl ⟨Nat.le_refl _, hd σ H p⟩
end L2

namespace L2
open PySem PySem.Spec PyProof.Rows

noncomputable abbrev R2 := V → V → Hp → VK → Prop
/-- a two-place operation on values: f is binaryOp op, inplaceOp op or compareOp op -/
noncomputable def OpR (X : Cx) (f : Value → Value → Sem Value) (r : R2) : Prop :=
  ∀ (pins : List (Addr × Obj)) (s : Shared) (σ : St) (H : Hp) (x y : V) (v u : Value) (Q : VK), Inv X pins σ H s → RelV x v → RelV y u → r x y H Q →
    wpAny (model X.prog X.w) X.A (f v u) (EP X pins σ Q) X.xe s
/-- a one-place operation -/
noncomputable def UnR (X : Cx) (f : Value → Sem Value) (r : V → Hp → VK → Prop) : Prop :=
  ∀ (pins : List (Addr × Obj)) (s : Shared) (σ : St) (H : Hp) (x : V) (v : Value) (Q : VK), Inv X pins σ H s → RelV x v → r x H Q →
    wpAny (model X.prog X.w) X.A (f v) (EP X pins σ Q) X.xe s
/-- a call of a value that is known (a builtin, a type) with values -/
noncomputable def CallR (X : Cx) (f : Value) (r : List V → Hp → VK → Prop) : Prop :=
  ∀ (pins : List (Addr × Obj)) (s : Shared) (σ : St) (H : Hp) (xs : List V) (us : List Value) (Q : VK), Inv X pins σ H s → Vals xs us → r xs H Q →
    wpAny (model X.prog X.w) X.A (call f us) (EP X pins σ Q) X.xe s

noncomputable def tOp (r : R2) (ta tb : TE) : TE := fun σ H Q => ta σ H fun x H1 => tb σ H1 fun y H2 => r x y H2 Q
noncomputable def tUn (r : V → Hp → VK → Prop) (ta : TE) : TE := fun σ H Q => ta σ H fun x H1 => r x H1 Q
/-- ints in, under C, and a value out -/
noncomputable def rI (C : Int → Int → Prop) (g : Int → Int → V) : R2 := fun x y H Q => ∃ i j, x = .int i ∧ y = .int j ∧ C i j ∧ Q (g i j) H
noncomputable def rI0 (g : Int → Int → V) : R2 := fun x y H Q => ∃ i j, x = .int i ∧ y = .int j ∧ Q (g i j) H
noncomputable def rU (g : Int → V) : V → Hp → VK → Prop := fun x H Q => ∃ i, x = .int i ∧ Q (g i) H

section
variable {X : Cx} {a b c : Expr} {ta tb tc : TE} {pos : Pos}

theorem binT (ha : PE X a ta) (hb : PE X b tb) {pins : List (Addr × Obj)} {s : Shared} {σ : St} {H : Hp} {R : V → V → Hp → Prop} (I : Inv X pins σ H s)
    (h : ta σ H fun x H1 => tb σ H1 fun y H2 => R x y H2) {Q : Value → Shared → Prop} {f : Value → Value → Sem Value}
    (hf : ∀ v u s2 x y H2, Inv X pins σ H2 s2 → RelV x v → RelV y u → R x y H2 → wpAny (model X.prog X.w) X.A (f v u) Q X.xe s2) :
    wpAny (model X.prog X.w) X.A (eval a X.env) (fun v s₁ => wpAny (model X.prog X.w) X.A (eval b X.env) (fun u s₂ => wpAny (model X.prog X.w) X.A (f v u) Q X.xe s₂) X.xe s₁) X.xe s := by
  refine thn (ha pins s σ H _ I h) fun v s1 ⟨x, H1, I1, r1, q1⟩ => ?_
  refine thn (hb pins s1 σ H1 _ I1 q1) fun u s2 ⟨y, H2, I2, r2, q2⟩ => ?_
  exact hf v u s2 x y H2 I2 r1 r2 q2

theorem pe_op {op : Operator} {r : R2} (ho : OpR X (binaryOp op) r) (ha : PE X a ta) (hb : PE X b tb) : PE X (.BinOp a op b pos) (tOp r ta tb) := by
  intro pins s σ H Q I h
  exact wpAny_BinOp (binT ha hb I h fun v u s2 x y H2 I2 rx ry q => ho pins s2 σ H2 x y v u Q I2 rx ry q)
theorem pe_un {op : UnaryOp} {r : V → Hp → VK → Prop} (ho : UnR X (unaryOp op) r) (ha : PE X a ta) : PE X (.UnaryOp op a pos) (tUn r ta) := by
  intro pins s σ H Q I h
  exact UnaryOp_ (thn (ha pins s σ H _ I h) fun v s1 ⟨x, H1, I1, r1, q1⟩ => ho pins s1 σ H1 x v Q I1 r1 q1)

/-! ### ints -/
theorem opI {f : Value → Value → Sem Value} {C : Int → Int → Prop} {g : Int → Int → Int}
    (rule : ∀ (i j : Int) (t u : Tok) (s : Shared) (Q : Value → Shared → Prop) (E : Value → Shared → Prop), C i j → Q (.int (g i j) s.toks) { s with toks := s.toks + 1 } → wpAny (model X.prog X.w) X.A (f (.int i t) (.int j u)) Q E s) :
    OpR X f (rI C fun i j => .int (g i j)) := by
  intro pins s σ H x y v u Q I rx ry h
  obtain ⟨i, j, rfl, rfl, hc, q⟩ := h
  obtain ⟨t, rfl⟩ := rx
  obtain ⟨t', rfl⟩ := ry
  exact rule i j t t' s _ _ hc ⟨.int (g i j), H, I.tok _, ⟨_, rfl⟩, q⟩
theorem opI0 {f : Value → Value → Sem Value} {g : Int → Int → Int}
    (rule : ∀ (i j : Int) (t u : Tok) (s : Shared) (Q : Value → Shared → Prop) (E : Value → Shared → Prop), Q (.int (g i j) s.toks) { s with toks := s.toks + 1 } → wpAny (model X.prog X.w) X.A (f (.int i t) (.int j u)) Q E s) :
    OpR X f (rI0 fun i j => .int (g i j)) := by
  intro pins s σ H x y v u Q I rx ry h
  obtain ⟨i, j, rfl, rfl, q⟩ := h
  obtain ⟨t, rfl⟩ := rx
  obtain ⟨t', rfl⟩ := ry
  exact rule i j t t' s _ _ ⟨.int (g i j), H, I.tok _, ⟨_, rfl⟩, q⟩
theorem opB0 {f : Value → Value → Sem Value} {g : Int → Int → Bool}
    (rule : ∀ (i j : Int) (t u : Tok) (s : Shared) (Q : Value → Shared → Prop) (E : Value → Shared → Prop), Q (.bool (g i j)) s → wpAny (model X.prog X.w) X.A (f (.int i t) (.int j u)) Q E s) :
    OpR X f (rI0 fun i j => .bl (g i j)) := by
  intro pins s σ H x y v u Q I rx ry h
  obtain ⟨i, j, rfl, rfl, q⟩ := h
  obtain ⟨t, rfl⟩ := rx
  obtain ⟨t', rfl⟩ := ry
  exact rule i j t t' s _ _ ⟨.bl (g i j), H, I, rfl, q⟩

noncomputable def CDiv (i j : Int) : Prop := 0 < j ∧ j < 1073741824
noncomputable def CPow (i j : Int) : Prop := 0 ≤ j ∧ j ≤ 1000000 ∧ i.natAbs < 2 ^ 64
noncomputable def CMul (i j : Int) : Prop := (-(2 ^ 64) < i ∧ i < 2 ^ 64) ∨ (-(2 ^ 64) < j ∧ j < 2 ^ 64)
theorem CMul.ok {i j : Int} (h : CMul i j) : IntMulOk i j := by
  rcases h with ⟨h1, h2⟩ | ⟨h1, h2⟩
  · exact .of_left (intBits_le_64 h1 h2)
  · exact .of_right (intBits_le_64 h1 h2)

theorem op_add : OpR X (binaryOp .Add) (rI0 fun i j => .int (i + j)) := opI0 fun _ _ _ _ _ _ _ q => add_int q
theorem op_sub : OpR X (binaryOp .Sub) (rI0 fun i j => .int (i - j)) := opI0 fun _ _ _ _ _ _ _ q => sub_int q
theorem op_mul : OpR X (binaryOp .Mult) (rI CMul fun i j => .int (i * j)) := opI fun _ _ _ _ _ _ _ hc q => mul_int q hc.ok
/-- // by a positive divisor -/
theorem op_fdiv : OpR X (binaryOp .FloorDiv) (rI CDiv fun i j => .int (i / j)) := opI fun i j _ _ _ _ _ hc q => by
  have h1 : (0 : Int) < j := hc.1
  have h2 : j < 1073741824 := hc.2
  exact floordiv_int (by lia) (by rw [Int.fdiv_eq_ediv_of_nonneg i (by lia)]; exact q) (.inl (PyProof.noPylong_small (by lia)))
/-- % by a positive divisor of any size -/
theorem op_mod : OpR X (binaryOp .Mod) (rI (fun _ j => 0 < j) fun i j => .int (i % j)) := opI fun i j _ _ _ _ _ hc q => by
  have h1 : (0 : Int) < j := hc
  exact mod_int' (by lia) (by rw [Int.fmod_eq_emod_of_nonneg i (by lia)]; exact q)
theorem op_pow : OpR X (binaryOp .Pow) (rI CPow fun i j => .int (i ^ j.toNat)) := opI fun _ _ _ _ _ _ _ hc q => pow_int_small hc.1 hc.2.1 hc.2.2 q


theorem unI {f : Value → Sem Value} {g : Int → Int}
    (rule : ∀ (i : Int) (t : Tok) (s : Shared) (Q : Value → Shared → Prop) (E : Value → Shared → Prop), Q (.int (g i) s.toks) { s with toks := s.toks + 1 } → wpAny (model X.prog X.w) X.A (f (.int i t)) Q E s) :
    UnR X f (rU fun i => .int (g i)) := by
  intro pins s σ H x v Q I rx h
  obtain ⟨i, rfl, q⟩ := h
  obtain ⟨t, rfl⟩ := rx
  exact rule i t s _ _ ⟨.int (g i), H, I.tok _, ⟨_, rfl⟩, q⟩
theorem un_neg : UnR X (unaryOp .USub) (rU fun i => .int (-i)) := unI fun _ _ _ _ _ q => neg_int q

/-! ### bools among ints: n += (a < b) -/
end

/-! ### comparisons -/
/-- the scalars that == tells apart as data does -/
noncomputable def scal : V → V → Bool
  | .non, .non => true | .non, .int _ => true | .int _, .non => true | .non, .bl _ => true | .bl _, .non => true | .non, .str _ => true | .str _, .non => true
  | .int _, .int _ => true | .bl _, .bl _ => true | .str _, .str _ => true | .byt _, .byt _ => true
  | .int _, .str _ => true | .str _, .int _ => true | .bl _, .str _ => true | .str _, .bl _ => true
  | _, _ => false
noncomputable def rEq : R2 := fun x y H Q => scal x y = true ∧ Q (.bl (decide (x = y))) H
noncomputable def rNe : R2 := fun x y H Q => scal x y = true ∧ Q (.bl (!decide (x = y))) H

theorem dec_int {i j : Int} : decide (V.int i = V.int j) = (i == j) := by
  rw [Bool.eq_iff_iff]
  simp
theorem dec_bl {i j : Bool} : decide (V.bl i = V.bl j) = (i == j) := by
  rw [Bool.eq_iff_iff]
  simp
theorem dec_str {i j : Str} : decide (V.str i = V.str j) = (i == j) := by
  rw [Bool.eq_iff_iff]
  simp
theorem dec_byt {i j : Array UInt8} : decide (V.byt i = V.byt j) = (i.toList == j.toList) := by
  rw [Bool.eq_iff_iff]
  cases i
  cases j
  simp

section
variable {X : Cx} {a b c : Expr} {ta tb tc : TE} {pos : Pos}
theorem fin_bl {pins : List (Addr × Obj)} {σ : St} {H : Hp} {s : Shared} {Q : VK} {k k' : Bool} (I : Inv X pins σ H s) (q : Q (.bl k) H) (e : k = k') : EP X pins σ Q (.bool k') s := by
  subst e
  exact ⟨.bl k, H, I, rfl, q⟩
theorem op_eq : OpR X (compareOp .Eq) rEq := by
  intro pins s σ H x y v u Q I rx ry h
  obtain ⟨hs, q⟩ := h
  cases x with
  | non =>
    cases rx
    cases y with
    | non => cases ry; exact PySem.EqNone.eq_none_none (fin_bl I q (by simp))
    | bl j => cases ry; exact PySem.EqNone.eq_none_bool (fin_bl I q (by simp))
    | int j => obtain ⟨t', rfl⟩ := ry; exact PySem.EqNone.eq_none_int (fin_bl I q (by simp))
    | str j => obtain ⟨t', rfl⟩ := ry; exact PySem.EqNone.eq_none_str (fin_bl I q (by simp))
    | _ => exact absurd (show false = true from hs) Bool.false_ne_true
  | bl i =>
    cases rx
    cases y with
    | non => cases ry; exact PySem.EqNone.eq_bool_none (fin_bl I q (by simp))
    | bl j => cases ry; exact eq_bool (fin_bl I q dec_bl)
    | str j => obtain ⟨t', rfl⟩ := ry; exact PySem.EqMixed.eq_bool_str (fin_bl I q (by simp))
    | _ => exact absurd (show false = true from hs) Bool.false_ne_true
  | int i =>
    obtain ⟨t, rfl⟩ := rx
    cases y with
    | non => cases ry; exact PySem.EqNone.eq_int_none (fin_bl I q (by simp))
    | int j => obtain ⟨t', rfl⟩ := ry; exact eq_int (fin_bl I q dec_int)
    | str j => obtain ⟨t', rfl⟩ := ry; exact PySem.EqMixed.eq_int_str (fin_bl I q (by simp))
    | _ => exact absurd (show false = true from hs) Bool.false_ne_true
  | str i =>
    obtain ⟨t, rfl⟩ := rx
    cases y with
    | non => cases ry; exact PySem.EqNone.eq_str_none (fin_bl I q (by simp))
    | bl j => cases ry; exact PySem.EqMixed.eq_str_bool (fin_bl I q (by simp))
    | int j => obtain ⟨t', rfl⟩ := ry; exact PySem.EqMixed.eq_str_int (fin_bl I q (by simp))
    | str j => obtain ⟨t', rfl⟩ := ry; exact eq_str (fin_bl I q dec_str)
    | _ => exact absurd (show false = true from hs) Bool.false_ne_true
  | byt i =>
    obtain ⟨t, rfl⟩ := rx
    cases y with
    | byt j => obtain ⟨t', rfl⟩ := ry; exact PySem.W.eq_bytes (fin_bl I q dec_byt)
    | _ => exact absurd (show false = true from hs) Bool.false_ne_true
  | _ => cases y <;> exact absurd (show false = true from hs) Bool.false_ne_true
theorem op_ne : OpR X (compareOp .NotEq) rNe := by
  intro pins s σ H x y v u Q I rx ry h
  obtain ⟨hs, q⟩ := h
  cases x with
  | non =>
    cases rx
    cases y with
    | non => cases ry; exact PySem.EqNone.ne_none_none (fin_bl I q (by simp))
    | bl j => cases ry; exact PySem.EqNone.ne_none_bool (fin_bl I q (by simp))
    | int j => obtain ⟨t', rfl⟩ := ry; exact PySem.EqNone.ne_none_int (fin_bl I q (by simp))
    | str j => obtain ⟨t', rfl⟩ := ry; exact PySem.EqNone.ne_none_str (fin_bl I q (by simp))
    | _ => exact absurd (show false = true from hs) Bool.false_ne_true
  | bl i =>
    cases rx
    cases y with
    | non => cases ry; exact PySem.EqNone.ne_bool_none (fin_bl I q (by simp))
    | bl j => cases ry; exact ne_bool (fin_bl I q (congrArg not dec_bl))
    | str j => obtain ⟨t', rfl⟩ := ry; exact PySem.EqMixed.ne_bool_str (fin_bl I q (by simp))
    | _ => exact absurd (show false = true from hs) Bool.false_ne_true
  | int i =>
    obtain ⟨t, rfl⟩ := rx
    cases y with
    | non => cases ry; exact PySem.EqNone.ne_int_none (fin_bl I q (by simp))
    | int j => obtain ⟨t', rfl⟩ := ry; exact ne_int (fin_bl I q (congrArg not dec_int))
    | str j => obtain ⟨t', rfl⟩ := ry; exact PySem.EqMixed.ne_int_str (fin_bl I q (by simp))
    | _ => exact absurd (show false = true from hs) Bool.false_ne_true
  | str i =>
    obtain ⟨t, rfl⟩ := rx
    cases y with
    | non => cases ry; exact PySem.EqNone.ne_str_none (fin_bl I q (by simp))
    | bl j => cases ry; exact PySem.EqMixed.ne_str_bool (fin_bl I q (by simp))
    | int j => obtain ⟨t', rfl⟩ := ry; exact PySem.EqMixed.ne_str_int (fin_bl I q (by simp))
    | str j => obtain ⟨t', rfl⟩ := ry; exact ne_str (fin_bl I q (congrArg not dec_str))
    | _ => exact absurd (show false = true from hs) Bool.false_ne_true
  | byt i =>
    obtain ⟨t, rfl⟩ := rx
    cases y with
    | byt j => obtain ⟨t', rfl⟩ := ry; exact PySem.W.ne_bytes (fin_bl I q (congrArg not dec_byt))
    | _ => exact absurd (show false = true from hs) Bool.false_ne_true
  | _ => cases y <;> exact absurd (show false = true from hs) Bool.false_ne_true

theorem op_lt : OpR X (compareOp .Lt) (rI0 fun i j => .bl (decide (i < j))) := opB0 fun _ _ _ _ _ _ _ q => lt_int q
theorem op_le : OpR X (compareOp .LtE) (rI0 fun i j => .bl (decide (i ≤ j))) := opB0 fun _ _ _ _ _ _ _ q => le_int q
theorem op_gt : OpR X (compareOp .Gt) (rI0 fun i j => .bl (decide (j < i))) := opB0 fun _ _ _ _ _ _ _ q => gt_int q
theorem op_ge : OpR X (compareOp .GtE) (rI0 fun i j => .bl (decide (j ≤ i))) := opB0 fun _ _ _ _ _ _ _ q => ge_int q




theorem nomark (b : Expr) {op : CmpOp} (h : op ≠ .In := by decide) (h2 : op ≠ .NotIn := by decide) : behindInMarks op b = false := by
  have e1 : (op == CmpOp.In) = false := by cases op <;> first | rfl | exact absurd rfl h
  have e2 : (op == CmpOp.NotIn) = false := by cases op <;> first | rfl | exact absurd rfl h2
  cases b <;> simp [behindInMarks, e1, e2]
/-- a comparison as a value; hm: nomark b, or (for in, not in) by with_unfolding_all rfl -/
theorem pe_cmpR {op : CmpOp} {r : R2} (ho : OpR X (compareOp op) r) (ha : PE X a ta) (hb : PE X b tb) (hm : behindInMarks op b = false) : PE X (.Compare a [op] [b] pos) (tOp r ta tb) := by
  intro pins s σ H Q I h
  exact wpAny_Compare1 (binT ha hb I h fun v u s2 x y H2 I2 rx ry q => ho pins s2 σ H2 x y v u Q I2 rx ry q) hm
/-- a reading of a value as a test -/
noncomputable def tTest (t : TE) : TT := fun σ H Q => t σ H fun x H' => ∃ k, x = .bl k ∧ Q k H'
theorem pt_cmpR {op : CmpOp} {r : R2} (ho : OpR X (compareOp op) r) (ha : PE X a ta) (hb : PE X b tb) (hm : behindInMarks op b = false) : PT X (.Compare a [op] [b] pos) (tTest (tOp r ta tb)) := by
  intro pins s σ H Q I h
  refine wpAny_isTrue_Compare1 (thn (ha pins s σ H _ I h) fun v s1 ⟨x, H1, I1, r1, q1⟩ => thn (hb pins s1 σ H1 _ I1 q1) fun u s2 ⟨y, H2, I2, r2, q2⟩ =>
    thn (ho pins s2 σ H2 x y v u _ I2 r1 r2 q2) fun c s3 ⟨z, H3, I3, r3, k, e, q3⟩ => ?_) hm
  subst e
  cases r3
  exact wpAny_truthy_bool ⟨H3, I3, q3⟩

/-! ### truth -/
theorem line63 : (sizeLine : Nat) < 2 ^ 63 := by rw [sizeLine_eq]; decide

/-! ### strs and bytes -/
theorem op_add_str : OpR X (binaryOp .Add) (fun x y H Q => ∃ i j, x = .str i ∧ y = .str j ∧ i.length + j.length ≤ sizeLine ∧ Q (.str (i ++ j)) H) := by
  intro pins s σ H x y v u Q I rx ry h
  obtain ⟨i, j, rfl, rfl, hz, q⟩ := h
  obtain ⟨t, rfl⟩ := rx
  obtain ⟨t', rfl⟩ := ry
  exact add_str (fun t' tk => ⟨.str (i ++ j), H, I.tok _, ⟨_, rfl⟩, q⟩) hz


/-! ### scalar builtins, by CallR -/
theorem vals1 {x : V} {us : List Value} (r : Vals [x] us) : ∃ u, us = [u] ∧ RelV x u := by
  cases r with
  | cons r1 r2 => cases r2; exact ⟨_, rfl, r1⟩
theorem vals2 {x y : V} {us : List Value} (r : Vals [x, y] us) : ∃ u w', us = [u, w'] ∧ RelV x u ∧ RelV y w' := by
  cases r with
  | cons r1 r2 =>
    cases r2 with
    | cons r3 r4 => cases r4; exact ⟨_, _, rfl, r1, r3⟩
theorem call_max2 (hc : X.calm = true) : CallR X (.builtin "max") (fun xs H Q => ∃ i j, xs = [.int i, .int j] ∧ Q (.int (if j > i then j else i)) H) := by
  intro pins s σ H xs us Q I r h
  obtain ⟨i, j, rfl, q⟩ := h
  obtain ⟨u, w', rfl, ⟨t, rfl⟩, ⟨t', rfl⟩⟩ := vals2 r
  refine max_two_ints (I.ok.hd hc) fun h' tk k => ⟨_, H, I.kept k, ?_, q⟩
  by_cases hj : j > i
  · rw [if_pos hj, if_pos hj]; exact ⟨_, rfl⟩
  · rw [if_neg hj, if_neg hj]; exact ⟨_, rfl⟩
theorem call_min2 (hc : X.calm = true) : CallR X (.builtin "min") (fun xs H Q => ∃ i j, xs = [.int i, .int j] ∧ Q (.int (if j < i then j else i)) H) := by
  intro pins s σ H xs us Q I r h
  obtain ⟨i, j, rfl, q⟩ := h
  obtain ⟨u, w', rfl, ⟨t, rfl⟩, ⟨t', rfl⟩⟩ := vals2 r
  refine min_two_ints (I.ok.hd hc) fun h' tk k => ⟨_, H, I.kept k, ?_, q⟩
  by_cases hj : j < i
  · rw [if_pos hj, if_pos hj]; exact ⟨_, rfl⟩
  · rw [if_neg hj, if_neg hj]; exact ⟨_, rfl⟩
end
end L2

namespace L2
open PySem PySem.Spec PyProof.Rows

/-! ### an instance, its attributes a map -/



section
variable {prog : Program} {w : World} {A : Around} {E : Value → Shared → Prop} {s : Shared} {K : PySem.W.Frag} {x dx C f : Addr} {mA : Str → Option Value} {name : Str} {v : Value}





end

/-! ### the attributes as a list of pairs -/


section
variable {P : Program} {w : World} {H H' : Hp} {h h' : Heap} {a C dx : Addr} {fs fs' : List (Str × V)}
end

/-! ### what of the text a class must have -/

section
variable {X : Cx} {pins : List (Addr × Obj)} {σ : St} {H : Hp} {s : Shared} {a C dx : Addr} {fs : List (Str × V)} {f : Str} {v : V} {A : Around} {E : Value → Shared → Prop}






end

/-! ### readings and rules -/

section
variable {X : Cx} {o e value : Expr} {f : Str} {pos pos' tpos : Pos} {ta tv : TE}

end

/-! ### isinstance -/
section
variable {X : Cx} {pins : List (Addr × Obj)} {σ : St} {H : Hp} {s : Shared} {A : Around} {E : Value → Shared → Prop} {Q : Value → Shared → Prop} {c : Value} {b : Bool}
end
end L2

namespace L2
open PySem PySem.Spec PyProof.Rows

/-! ### room -/
structure Room (k : Nat) (A : Around) : Prop where
  hd : A.handled = none
  dp : A.depth + 3 * k + 5 < recursionLimit
  un : A.units + 16 * k + 200 < cLine
theorem Room.mono {j k : Nat} {A : Around} (r : Room k A) (h : j ≤ k) : Room j A := ⟨r.hd, by have := r.dp; lia, by have := r.un; lia⟩
theorem Room.deeper {k : Nat} {A : Around} (r : Room (k + 1) A) (env : Env) : Room k (A.deeper env) :=
  ⟨r.hd, by have := r.dp; show A.depth + 1 + 3 * k + 5 < _; lia, by have := r.un; show A.units + 3 + 16 * k + 200 < _; lia⟩
theorem Room.depth {k : Nat} {A : Around} (r : Room k A) : A.depth < recursionLimit := by have := r.dp; lia
theorem Room.units {k : Nat} {A : Around} (r : Room k A) : A.units + 64 < cLine := by have := r.un; lia

/-! ### argument lists and displays -/
noncomputable def tNil : TA := fun _ H Q => Q [] H
noncomputable def tCons (ta : TE) (tr : TA) : TA := fun σ H Q => ta σ H fun x H1 => tr σ H1 fun xs H2 => Q (x :: xs) H2
section
variable {X : Cx} {e : Expr} {es : List Expr} {te : TE} {t : TA} {pos : Pos}
theorem pa_nil : PA X [] tNil := fun _ _ _ _ H Q I h => Calls.spliced_nil ⟨[], H, I, .nil, h⟩
theorem pa_cons (ha : PE X e te) (hr : PA X es t) (hs : starEach (e :: es) X.env = (false, eval e X.env) :: starEach es X.env := by rfl) : PA X (e :: es) (tCons te t) := by
  intro pos pins s σ H Q I h
  rw [hs]
  show wpAny _ _ (spliced ((false, eval e X.env) :: backTo pos (starEach es X.env))) _ _ s
  refine Calls.spliced_cons (thn (ha pins s σ H _ I h) fun u s1 ⟨x, H1, I1, r1, q1⟩ => ?_)
  exact thn (hr pos pins s1 σ H1 _ I1 q1) fun us s2 ⟨xs, H2, I2, r2, q2⟩ => ⟨x :: xs, H2, I2, .cons r1 r2, q2⟩

/-- a tuple, a list of written items -/
noncomputable def tTup (t : TA) : TE := fun σ H Q => t σ H fun xs H1 => xs.length ≤ sizeLine ∧ ∀ p, H1 p = none → Q (.ref p) (upd H1 p (.tup xs))
noncomputable def tLst (t : TA) : TE := fun σ H Q => t σ H fun xs H1 => xs.length ≤ sizeLine ∧ ∀ p, H1 p = none → Q (.ref p) (upd H1 p (.lst xs))
theorem pe_tup {x1} (h : PA X es t) : PE X (.Tuple es x1 pos) (tTup t) := by
  intro pins s σ H Q I hq
  refine wpAny_Tuple_spliced (thn (h pos pins s σ H _ I hq) fun us s1 ⟨xs, H1, I1, r, z, q⟩ => ⟨by rw [← r.length]; exact z, ?_⟩)
  have hf : H1 s1.heap.objs.size = none := I1.hok.fresh (Nat.le_refl _)
  refine ⟨.ref s1.heap.objs.size, upd H1 s1.heap.objs.size (.tup xs), I1.laid (t' := s1.toks) (fun b u e => Heap.get?_push_of_some _ e) (Nat.le_refl _) ?_, rfl, q _ hf⟩
  exact ⟨z, us, r, ⟨_, Heap.get?_push_size _ rfl, rfl, _, rfl⟩⟩
theorem pe_lst (h : PA X es t) : PE X (.List es pos) (tLst t) := by
  intro pins s σ H Q I hq
  refine wpAny_List_spliced (thn (h pos pins s σ H _ I hq) fun us s1 ⟨xs, H1, I1, r, z, q⟩ => ⟨by rw [← r.length]; exact z, ?_⟩)
  have hf : H1 s1.heap.objs.size = none := I1.hok.fresh (Nat.le_refl _)
  refine ⟨.ref s1.heap.objs.size, upd H1 s1.heap.objs.size (.lst xs), I1.laid (t' := s1.toks) (fun b u e => Heap.get?_push_of_some _ e) (Nat.le_refl _) ?_, rfl, q _ hf⟩
  exact ⟨z, us, 0, r, Heap.get?_push_size _ rfl⟩
end

/-! ### what a def promises -/
/-- a def's promise: the bound arguments in the parameters' order, the heap, the wanted end, the wanted exception -/
noncomputable abbrev Sp := List V → Hp → VK → XK → Prop
/-- how an exception lies behind a call (file 08 gives it): the callers' frames, abstract heap and state ahead of the call, the wish, the exception, the state -/
noncomputable abbrev CXT := List Env → Hp → Shared → XK → Value → Shared → Prop

/-- the state at a call -/
structure Env0 (P : Program) (w : World) (K : PySem.W.Frag) (mg : Str → Option Value) (base : Heap) (A : Around) (outer : List Env) (s : Shared) (H : Hp) : Prop where
  frames : A.frames = some outer
  mod : Mod K mg base
  bs : ∀ b o, base.get? b = some o → s.heap.get? b = some o ∧ H b = none
  bsz : base.objs.size ≤ s.heap.objs.size
  funs : s.heap.FunFrames base outer
  frf : ∀ b ∈ frs outer, H b = none
  hok : HOk P w H s.heap
  bare : AllBare s.gens
/-- a call's end -/
noncomputable def CE (outer : List Env) (P : Program) (w : World) (H : Hp) (s : Shared) (Q : VK) (u : Value) (s' : Shared) : Prop :=
  ∃ v H', s'.os = s.os ∧ AllBare s'.gens ∧ Un (frs outer) [] H H' s.heap s'.heap ∧ HOk P w H' s'.heap ∧ RelV v u ∧ Q v H'
noncomputable def CR (CX : CXT) (outer : List Env) (P : Program) (w : World) (H : Hp) (s : Shared) (Q : VK) (E : XK) (r : Result) (s' : Shared) : Prop :=
  match r with
  | .ok (.ret u) => CE outer P w H s Q u s'
  | .ok _ => False
  | .error e => CX outer H s E e s'
structure FnOk (P : Program) (w : World) (K : PySem.W.Frag) (mg : Str → Option Value) (base : Heap) (CX : CXT) (k : Nat) (f : Addr) (fd : FuncData) (ps : List Str) (sp : Sp) : Prop where
  len : ∀ vs H Q E, sp vs H Q E → vs.length = ps.length
  run : ∀ (A : Around) (outer : List Env) (s : Shared) (H : Hp) (args : Args) (us : List Value) (vs : List V) (Q : VK) (E : XK), Room k A → Env0 P w K mg base A outer s H → BindsTo s fd args (ps.zip us) → Vals vs us → sp vs H Q E →
    codeAny (model P w) A (.call (.ref f) args) (CR CX outer P w H s Q E) s
theorem FnOk.mono {P : Program} {w : World} {K : PySem.W.Frag} {mg : Str → Option Value} {base : Heap} {CX : CXT} {j k : Nat} {f : Addr} {fd : FuncData} {ps : List Str} {sp : Sp} (F : FnOk P w K mg base CX j f fd ps sp) (h : j ≤ k) :
    FnOk P w K mg base CX k f fd ps sp := ⟨F.len, fun A outer s H args us vs Q E hr => F.run A outer s H args us vs Q E (hr.mono h)⟩
/-- a weaker promise -/
theorem FnOk.imp {P : Program} {w : World} {K : PySem.W.Frag} {mg : Str → Option Value} {base : Heap} {CX : CXT} {k : Nat} {f : Addr} {fd : FuncData} {ps : List Str} {sp sp' : Sp} (F : FnOk P w K mg base CX k f fd ps sp)
    (h : ∀ vs H Q E, sp' vs H Q E → sp vs H Q E) : FnOk P w K mg base CX k f fd ps sp' :=
  ⟨fun vs H Q E q => F.len vs H Q E (h _ _ _ _ q), fun A outer s H args us vs Q E hr he hb hv hs => F.run A outer s H args us vs Q E hr he hb hv (h _ _ _ _ hs)⟩


section
variable {X : Cx} {pins : List (Addr × Obj)} {σ : St} {H : Hp} {s s' : Shared}
/-- from a body: what a callee wants -/
theorem Inv.env0 (I : Inv X pins σ H s) : Env0 X.prog X.w X.K X.mg X.base X.A X.stack s H :=
  ⟨I.ok.frames, I.ok.mod, I.bs, Nat.le_trans I.ok.bsz I.sz, I.stack, I.stkFree, I.hok, I.bare⟩
/-- behind a call -/
theorem Inv.after {Q : VK} {u : Value} (I : Inv X pins σ H s) (h : CE X.stack X.prog X.w H s Q u s') : EP X pins σ Q u s' := by
  obtain ⟨v, H', os, bare, un, hok, r, q⟩ := h
  obtain ⟨hh, g, d, t, os'⟩ := s'
  obtain rfl : os' = s.os := os
  exact ⟨v, H', I.call (h' := hh) (g' := g) (d' := d) (t' := t) (ch := []) un hok bare (fun b z => absurd z (by simp)), r, q⟩
end

/-! ### calls -/
/-- f(..): the written arguments, then the defaults dvs; E: what is wanted of an exception -/
noncomputable def tCall (sp : Sp) (dvs : List V) (E : XK) (t : TA) : TE := fun σ H Q => t σ H fun vs H1 => sp (vs ++ dvs) H1 Q E

/-- how the parameters are bound: us the positional arguments, kw the keywords' values by name, ds the defaults that fill up -/
noncomputable def Binds (K : PySem.W.Frag) (fd : FuncData) (ps : List Str) (ds : List Value) : Prop :=
  ∀ (s : Shared) (us : List Value), K.In s.heap → (us ++ ds).length = ps.length → BindsTo s fd ⟨us, []⟩ (ps.zip (us ++ ds))
/-- every parameter is given -/
theorem Binds.all {K : PySem.W.Frag} {fd : FuncData} {ps : List Str} (h : ∀ us : List Value, us.length = ps.length → bindArgs fd ⟨us, []⟩ = pure (ps.zip us)) : Binds K fd ps [] := fun s us _ hl => by
  rw [List.append_nil] at hl ⊢
  exact .of_eq (h us hl)

/-- an exception of a callee reaches what this body wants of exceptions -/
noncomputable def Passes (CX : CXT) (X : Cx) (E : XK) : Prop := ∀ (pins : List (Addr × Obj)) (σ : St) (H : Hp) (s : Shared) (e : Value) (s' : Shared), Inv X pins σ H s → CX X.stack H s E e s' → X.xe e s'

section
variable {X : Cx} {CX : CXT} {k : Nat} {f C : Addr} {fd : FuncData} {ps : List Str} {sp : Sp} {dvs : List V} {ds : List Value} {E : XK} {x m : Str} {p pos apos : Pos} {e o : Expr} {es : List Expr} {ta : TE} {t : TA}

/-- the callee runs -/
theorem run_fn {pins : List (Addr × Obj)} {σ : St} {H : Hp} {s : Shared} {Q : VK} {us : List Value} {vs : List V} (F : FnOk X.prog X.w X.K X.mg X.base CX k f fd ps sp) (hr : Room k X.A) (hb : Binds X.K fd ps ds) (hd : Vals dvs ds) (hx : Passes CX X E)
    (I : Inv X pins σ H s) (r : Vals vs us) (h : sp (vs ++ dvs) H Q E) : wpAny (model X.prog X.w) X.A (call (.ref f) us) (EP X pins σ Q) X.xe s := by
  have r2 : Vals (vs ++ dvs) (us ++ ds) := r.append hd
  have hl : (us ++ ds).length = ps.length := by rw [← r2.length]; exact F.len _ _ _ _ h
  refine wpAny_call (codeAny_mono (F.run X.A X.stack s H ⟨us, []⟩ (us ++ ds) (vs ++ dvs) Q E hr I.env0 (hb s us I.kIn hl) r2 h) fun r s' hq => ?_)
  cases r with
  | error e => exact hx pins σ H s e s' I hq
  | ok fl =>
    cases fl with
    | ret u => exact I.after hq
    | next => exact False.elim hq
    | brk => exact False.elim hq
    | cont => exact False.elim hq

theorem pe_call (F : FnOk X.prog X.w X.K X.mg X.base CX k f fd ps sp) (hr : Room k X.A) (hg : Gl X x) (hm : X.mg x = some (.ref f)) (hk : PySem.W.keepIn X.K (.ref f) = true) (hb : Binds X.K fd ps ds) (hd : Vals dvs ds) (hx : Passes CX X E)
    (ha : PA X (e :: es) t) (hdb : (x == ("__debug__" : Str)) = false := by decide) (he : starEach (e :: es) X.env = (false, eval e X.env) :: starEach es X.env := by rfl) (hpl : (backTo pos (starEach es X.env)).any (·.1) = false := by rfl) :
    PE X (.Call (.Name x p) (e :: es) [] pos) (tCall sp dvs E t) := by
  intro pins s σ H Q I h
  refine wpAny_Call_Name_kw (ld_glob I hg hm ?_ hdb)
  refine PySem.W.callWith_K (h₀ := X.base) I.ok.mod.kin hk (thn (ha pos pins s σ H _ I h) fun us s1 ⟨vs, H1, I1, r, q⟩ => ⟨I1.kIn, ?_⟩) he hpl
  exact run_fn F hr hb hd hx I1 r q



end

/-! ### keywords -/
/-- the values of the keywords, from the left -/
noncomputable def PK (X : Cx) (kws : List Keyword) (t : TA) : Prop :=
  ∀ (pos : Pos) (pins : List (Addr × Obj)) (s : Shared) (σ : St) (H : Hp) (Q : List V → Hp → Prop), Inv X pins σ H s → t σ H Q → wpAny (model X.prog X.w) X.A (evalAll ((backToKw pos (keywordEach kws X.env)).map (·.2))) (AP X pins σ Q) X.xe s
section
variable {X : Cx} {CX : CXT} {k : Nat} {f C : Addr} {fd : FuncData} {ps ks : List Str} {sp : Sp} {E : XK} {x m : Str} {p pos apos kpos : Pos} {e o : Expr} {es : List Expr} {kws : List Keyword} {te ta : TE} {t tk : TA} {nm : Option Str}
theorem pk_nil : PK X [] tNil := fun _ _ _ _ H Q I h => wpAny_evalAll_nil ⟨[], H, I, .nil, h⟩
theorem pk_cons (ha : PE X e te) (hr : PK X kws t) : PK X (⟨nm, e, kpos⟩ :: kws) (tCons te t) := by
  intro pos pins s σ H Q I h
  show wpAny _ _ (evalAll ((do let v ← eval e X.env; standAt pos; pure v) :: (backToKw pos (keywordEach kws X.env)).map (·.2))) _ _ s
  refine wpAny_evalAll_cons (wpAny_bind (thn (ha pins s σ H _ I h) fun u s1 ⟨x, H1, I1, r1, q1⟩ => wpAny_bind (wpAny_standAt (wpAny_pure ?_))))
  exact thn (hr pos pins s1 σ H1 _ I1 q1) fun us s2 ⟨xs, H2, I2, r2, q2⟩ => ⟨x :: xs, H2, I2, .cons r1 r2, q2⟩

variable {g : List Value → List Value → List Value} {gV : List V → List V → List V}
end

/-! ### a def's body keeps its promise -/
/-- names: the parameters first -/
structure FnScope (N P : List Str) (sc : Scope) : Prop where
  kind : sc.kind = .function
  co : sc.isCoroutine = false
  gen : sc.isGenerator = false
  nd : N.Nodup
  pre : N.take P.length = P
  par : ∀ x ∈ P, sc.names.lookup x = some .local ∨ sc.names.lookup x = some .cell
  nofree : ∀ y ∈ sc.names, y.2 ≠ .free

theorem bindL_out {kindOf : Str → Option NameKind} {x : Str} : ∀ {binds : List (Str × Value)} {m : Str → Option Value}, (∀ v, (x, v) ∉ binds) → bindL kindOf binds m x = m x
  | [], _, _ => rfl
  | (n, v) :: r, m, h => by
    unfold bindL
    rw [bindL_out fun w hw => h w (List.mem_cons_of_mem _ hw)]
    split
    · have : x ≠ n := by rintro rfl; exact h v List.mem_cons_self
      simp [this]
    · rfl
theorem bindC_out {kindOf : Str → Option NameKind} {x : Str} : ∀ {binds : List (Str × Value)} {m : Str → Option Value}, (∀ v, (x, v) ∉ binds) → bindC kindOf binds m x = m x
  | [], _, _ => rfl
  | (n, v) :: r, m, h => by
    unfold bindC
    rw [bindC_out fun w hw => h w (List.mem_cons_of_mem _ hw)]
    split
    · rfl
    · have : x ≠ n := by rintro rfl; exact h v List.mem_cons_self
      simp [this]
theorem bindL_get {kindOf : Str → Option NameKind} {x : Str} {v : Value} : ∀ {P : List Str} {vs : List Value} {i : Nat} {m : Str → Option Value}, P.Nodup → P[i]? = some x → vs[i]? = some v → kindOf x = some .local →
    bindL kindOf (P.zip vs) m x = some v
  | [], _, _, _, _, h, _, _ => by simp at h
  | _ :: _, [], _, _, _, _, h, _ => by simp at h
  | p :: P, w :: vs, 0, m, nd, h1, h2, hk => by
    simp at h1 h2; subst h1; subst h2
    show bindL kindOf ((p, w) :: P.zip vs) m p = _
    unfold bindL
    rw [bindL_out fun v hv => (List.nodup_cons.mp nd).1 (List.of_mem_zip hv).1, if_pos hk]
    simp
  | p :: P, w :: vs, i + 1, m, nd, h1, h2, hk => by
    show bindL kindOf ((p, w) :: P.zip vs) m x = _
    unfold bindL
    exact bindL_get (i := i) (List.nodup_cons.mp nd).2 (by simpa using h1) (by simpa using h2) hk
theorem bindC_get {kindOf : Str → Option NameKind} {x : Str} {v : Value} : ∀ {P : List Str} {vs : List Value} {i : Nat} {m : Str → Option Value}, P.Nodup → P[i]? = some x → vs[i]? = some v → kindOf x ≠ some .local →
    bindC kindOf (P.zip vs) m x = some v
  | [], _, _, _, _, h, _, _ => by simp at h
  | _ :: _, [], _, _, _, _, h, _ => by simp at h
  | p :: P, w :: vs, 0, m, nd, h1, h2, hk => by
    simp at h1 h2; subst h1; subst h2
    show bindC kindOf ((p, w) :: P.zip vs) m p = _
    unfold bindC
    rw [bindC_out fun v hv => (List.nodup_cons.mp nd).1 (List.of_mem_zip hv).1, if_neg hk]
    simp
  | p :: P, w :: vs, i + 1, m, nd, h1, h2, hk => by
    show bindC kindOf ((p, w) :: P.zip vs) m x = _
    unfold bindC
    exact bindC_get (i := i) (List.nodup_cons.mp nd).2 (by simpa using h1) (by simpa using h2) hk

/-- the names' values at the entry -/
noncomputable def start (N : List Str) (vs : List V) : St := vs.map some ++ List.replicate (N.length - vs.length) none

/-- the context of a def's body, at its entry; an exception leaves the frame, then lies as CX says -/
noncomputable def cxOf (CX : CXT) (P : Program) (w : World) (K : PySem.W.Frag) (mg : Str → Option Value) (base : Heap) (N : List Str) (qual : Str) (scope : Scope) (f : Addr) (cd : Value) (A : Around) (outer : List Env) (s : Shared) (H : Hp) (E : XK) : Cx where
  prog := P
  w := w
  K := K
  mg := mg
  base := base
  A := A.deeper (envOfC qual scope s.heap.objs.size f cd)
  N := N
  s₀ := s
  H₀ := H
  env := envOfC qual scope s.heap.objs.size f cd
  outer := outer
  stack := envOfC qual scope s.heap.objs.size f cd :: outer
  ex := []
  calm := true
  fn := fun _ => true
  pn := []
  xe := fun e s' => wpAny (model P w) (A.deeper (envOfC qual scope s.heap.objs.size f cd)) (leaving (envOfC qual scope s.heap.objs.size f cd) e) (fun _ s'' => CX outer H s E e s'') (fun e' s'' => CX outer H s E e' s'') s'

theorem cell_has {sc : Scope} {n : Nat} {x : Str} (h : sc.names.lookup x = some .cell) : ∃ c, (cellsFrom n sc.names []).lookup x = some c := by
  have q := PySem.W.cellsFrom_some sc.names n [] (.inl h)
  exact Option.isSome_iff_exists.mp q

theorem inv_start {CX : CXT} {P : Program} {w : World} {K : PySem.W.Frag} {mg : Str → Option Value} {base : Heap} {N ps : List Str} {qual : Str} {scope : Scope} {f : Addr} {cd : Value} {A : Around} {outer : List Env} {s s1 : Shared} {H : Hp} {E : XK} {us : List Value} {vs : List V}
    (S : FnScope N ps scope) (hd : A.handled = none) (e0 : Env0 P w K mg base A outer s H) (hl : vs.length = ps.length) (r : Vals vs us)
    (x : InCallC s s.heap.objs.size (bindL (envOfC qual scope s.heap.objs.size f cd).kindOf (ps.zip us) fun _ => none) (cellsFrom (s.heap.objs.size + 1) scope.names []) (bindC (envOfC qual scope s.heap.objs.size f cd).kindOf (ps.zip us) fun _ => none) s1) :
    Inv (cxOf CX P w K mg base N qual scope f cd A outer s H E) [] (start N vs) H s1 := by
  have hpl : ps.length ≤ N.length := by have := congrArg List.length S.pre; rw [List.length_take] at this; lia
  obtain ⟨h1, tk, rfl, hk⟩ := x.done
  have noA : ∀ b : Addr, b ∉ (cxOf CX P w K mg base N qual scope f cd A outer s H E).ex := fun b z => absurd (show b ∈ ([] : List Addr) from z) (by simp)
  refine ⟨⟨e0.mod, S.kind, rfl, rfl, Nat.le_refl _, fun y z c h1 h2 => ?_, fun y hy => ?_, fun y c _ h => ?_, fun _ => hd, Around.frames_deeper e0.frames, .inr ⟨rfl, rfl⟩, fun b z => absurd z (noA b), e0.bs, e0.bsz, fun b _ _ => noA b, fun b z => absurd z (noA b), e0.funs, e0.frf⟩,
    rfl, e0.bare, Un.kept hk, ⟨_, x.toInCall.ns, fun i y v h1 h2 h3 => ?_⟩, fun y c h => ⟨_, x.cell y c h⟩, e0.hok.fresh (Nat.le_refl _), fun y c h => ?_, fun p hp => absurd (show p ∈ ([] : List (Addr × Obj)) from hp) (by simp), e0.hok.kept hk, ?_⟩
  · exact name_of_addr x.apart (PySem.mem_of_lookup h1) (PySem.mem_of_lookup h2)
  · have hy : scope.names.lookup y = some .cell ∨ scope.names.lookup y = some .free := hy
    rcases hy with hy | hy
    · exact cell_has hy
    · exact absurd rfl (S.nofree _ (PySem.mem_of_lookup hy))
  · exact Nat.le_of_lt (x.above y c (PySem.mem_of_lookup h))
  · have hi : i < vs.length := by
      unfold start at h2
      by_cases hi : i < vs.length
      · exact hi
      · rw [List.getElem?_append_right (by simpa using hi)] at h2
        rw [List.getElem?_replicate] at h2
        split at h2 <;> cases h2
    have ha : vs[i]? = some v := by
      unfold start at h2
      rw [List.getElem?_append_left (by simpa using hi), List.getElem?_map] at h2
      cases e : vs[i]? with
      | none => rw [e] at h2; cases h2
      | some a => rw [e] at h2; cases h2; rfl
    obtain ⟨u, hu, rv⟩ := r.get ha
    have hp : ps[i]? = some y := by
      rw [← S.pre, List.getElem?_take_of_lt (by lia)]; exact h1
    have ndP : ps.Nodup := by rw [← S.pre]; exact S.nd.sublist (List.take_sublist _ _)
    refine ⟨u, rv, ?_⟩
    rcases S.par y (List.mem_of_getElem? hp) with k | k
    · exact .inl ⟨k, bindL_get ndP hp hu k⟩
    · obtain ⟨c, e⟩ := cell_has (n := s.heap.objs.size + 1) k
      refine .inr ⟨.inl k, c, e, ?_⟩
      have q := x.cell y c e
      rw [bindC_get ndP hp hu (by show scope.names.lookup y ≠ _; rw [k]; decide)] at q
      exact q
  · exact e0.hok.fresh (Nat.le_of_lt (x.above y c (PySem.mem_of_lookup h)))
  · unfold start
    show _ = N.length
    rw [List.length_append, List.length_map, List.length_replicate]
    lia

/-- THE RULE: a def (or a method) of the text, by its body. The body's reading t is chosen for each entry; it is run at the parameters' values -/
theorem fn_of {CX : CXT} {P : Program} {w : World} {K : PySem.W.Frag} {mg : Str → Option Value} {base : Heap} {k : Nat} {f : Addr} {name qual : Str} {params : Arguments} {body : List Stmt} {scope : Scope} {dV kV doc pm cdv ct oc : Value} {an od : Option Addr}
    {osl : Array (Option Value)} {N ps : List Str} {sp : Sp} (lk : K.lookup f = some ⟨oc, od, .func (PySem.W.fnOf name qual params body scope dV kV doc pm an cdv ct), osl⟩) (hcd : PySem.W.codeIn K cdv qual = true) (S : FnScope N ps scope)
    (len : ∀ vs H Q E, sp vs H Q E → vs.length = ps.length)
    (hbody : ∀ (A : Around) (outer : List Env) (s : Shared) (H : Hp) (vs : List V) (Q : VK) (E : XK), Room k (A.deeper (envOfC qual scope s.heap.objs.size f cdv)) → sp vs H Q E →
      ∃ t, PSs (cxOf CX P w K mg base N qual scope f cdv A outer s H E) body t ∧ t { nx := fun _ H' => Q .non H', rt := Q } (start N vs) H) :
    FnOk P w K mg base CX (k + 1) f (PySem.W.fnOf name qual params body scope dV kV doc pm an cdv ct) ps sp := by
  refine ⟨len, fun A outer s H args us vs Q E hr e0 hb r hsp => ?_⟩
  have hl := len _ _ _ _ hsp
  have KX : K.In s.heap := e0.mod.kin.keeps fun b o e => (e0.bs b o e).1
  have lim : s.heap.NoLimit := e0.mod.nolimit.keeps fun b o e => (e0.bs b o e).1
  have hkind : ∀ y ∈ ps.zip us, scope.names.lookup y.1 = some .local ∨ (scope.names.lookup y.1 = some .cell ∧ ((cellsFrom (s.heap.objs.size + 1) scope.names []).lookup y.1).isSome = true) := fun ⟨n, v⟩ hy => by
    rcases S.par n (List.of_mem_zip hy).1 with q | q
    · exact .inl q
    · exact .inr ⟨q, PySem.W.cellsFrom_some _ _ _ (.inl q)⟩
  refine codeAny_call_function hr.depth (KX _ _ lk) rfl S.co S.gen rfl (PySem.W.codeRec_of KX hcd) (hb _ _ _ _ ?_)
  refine wpAny_newFunctionEnv_cells S.kind hkind fun env he s1 x => ?_
  subst he
  refine ⟨lim.keeps x.toInCall.keep, codeAny_func ?_⟩
  obtain ⟨t, ht, hq⟩ := hbody A outer s H vs Q E (hr.deeper _) hsp
  have I : Inv (cxOf CX P w K mg base N qual scope f cdv A outer s H E) [] (start N vs) H s1 := inv_start S hr.hd e0 hl r x
  refine wpAny_mono (ht [] s1 (start N vs) H _ I hq) (fun fl s' hs => ?_) fun e s' hs => hs
  have fin : ∀ {σ' : St} {H' : Hp} {v : V} {u : Value}, Inv (cxOf CX P w K mg base N qual scope f cdv A outer s H E) [] σ' H' s' → RelV v u → Q v H' → CE outer P w H s Q u s' :=
    fun {σ' H' v u} J rv q => ⟨v, H', J.os, J.bare, J.base, J.hok, rv, q⟩
  cases fl with
  | ret u =>
    obtain ⟨v, σ', H', J, rv, q⟩ := hs
    exact fin J rv q
  | next =>
    obtain ⟨σ', H', J, q⟩ := hs
    exact fin (v := V.non) (u := Value.none) J rfl q
  | brk =>
    obtain ⟨_, _, _, q⟩ := hs
    exact False.elim q
  | cont =>
    obtain ⟨_, _, _, q⟩ := hs
    exact False.elim q
end L2

namespace L2
open PySem PySem.Spec PyProof.Rows
section
variable {X : Cx} {x : Str} {p pos : Pos} {e : Expr} {es : List Expr} {t : TA} {id T : String} {r : List V → Hp → VK → Prop}

noncomputable def tCB (r : List V → Hp → VK → Prop) (t : TA) : TE := fun σ H Q => t σ H fun vs H1 => r vs H1 Q
/-- f(e, ..), f a built-in function -/
theorem pe_callB (hc : CallR X (.builtin id) r) (hg : Gl X x) (hm : X.mg x = none) (hv : bootBuiltins x = some (.builtin id)) (ha : PA X (e :: es) t) (hn : x ≠ "__name__" := by decide) (hdb : (x == ("__debug__" : Str)) = false := by decide)
    (he : starEach (e :: es) X.env = (false, eval e X.env) :: starEach es X.env := by rfl) (hpl : (backTo pos (starEach es X.env)).any (·.1) = false := by rfl) : PE X (.Call (.Name x p) (e :: es) [] pos) (tCB r t) := by
  intro pins s σ H Q I h
  refine wpAny_Call_Name_kw (ld_blt I hg hm hv ?_ hn hdb)
  exact PyProof.Rows.callWith_builtin1 (thn (ha pos pins s σ H _ I h) fun us s1 ⟨vs, H1, I1, r1, q1⟩ => hc pins s1 σ H1 vs us Q I1 r1 q1) he hpl
/-- T(e, ..), T a built-in type -/
theorem pe_callTy (hc : CallR X (.type T) r) (hg : Gl X x) (hm : X.mg x = none) (hv : bootBuiltins x = some (.type T)) (ha : PA X (e :: es) t) (hn : x ≠ "__name__" := by decide) (hdb : (x == ("__debug__" : Str)) = false := by decide)
    (he : starEach (e :: es) X.env = (false, eval e X.env) :: starEach es X.env := by rfl) (hpl : (backTo pos (starEach es X.env)).any (·.1) = false := by rfl) : PE X (.Call (.Name x p) (e :: es) [] pos) (tCB r t) := by
  intro pins s σ H Q I h
  refine wpAny_Call_Name_kw (ld_blt I hg hm hv ?_ hn hdb)
  exact PyProof.Rows.callWith_type1 (thn (ha pos pins s σ H _ I h) fun us s1 ⟨vs, H1, I1, r1, q1⟩ => hc pins s1 σ H1 vs us Q I1 r1 q1) he hpl
end
end L2

namespace HT
open PySem PyProof.Rows



section
open PySem.SeqAt
open PySem.AutoSeq1 (wpAny_loadPart')
open PySem.MeetsSeq PySem.MeetsSeq2 PySem.MeetsSeq3

end

section
variable {prog : Program} {w : World} {A : Around} {E : Value → Shared → Prop} {s : Shared}



/-! ### t[a:b], not the whole -/
/-- a slice's bound as a place among n (d where it is left out) -/
noncomputable def sIx (n d : Nat) : Option Int → Nat
  | none => d
  | some v => if v < 0 then (v + (n : Int)).toNat else min v.toNat n
theorem sIx_nat (n d k : Nat) : sIx n d (some (k : Int)) = min k n := by
  show (if (k : Int) < 0 then ((k : Int) + (n : Int)).toNat else min (k : Int).toNat n) = min k n
  rw [if_neg (by lia), Int.toNat_natCast]

end
end HT

namespace L2
open PySem PySem.Spec PyProof.Rows

/-! ### the parts of a slice -/
noncomputable abbrev TO := St → Hp → (Option Int → Hp → Prop) → Prop
/-- a slice's part (left out, or an int) -/
noncomputable def PO (X : Cx) (e : Option Expr) (t : TO) : Prop :=
  ∀ (pins : List (Addr × Obj)) (s : Shared) (σ : St) (H : Hp) (Q : Option Int → Hp → Prop), Inv X pins σ H s → t σ H Q →
    wpAny (model X.prog X.w) X.A (evalPart e X.env) (fun u s' => ∃ o H', Inv X pins σ H' s' ∧ IsPart u o ∧ Q o H') X.xe s
noncomputable def tNoPart : TO := fun _ H Q => Q none H
noncomputable def tPart (t : TE) : TO := fun σ H Q => t σ H fun x H1 => ∃ i, x = .int i ∧ Q (some i) H1


section
variable {X : Cx} {e : Expr} {te : TE} {lo hi : Option Expr} {tl th : TO} {pos p2 : Pos}

theorem po_none : PO X none tNoPart := by
  intro pins s σ H Q I h
  rw [evalPart_none]
  exact wpAny_pure ⟨none, H, I, .none, h⟩
theorem po_some (h : PE X e te) : PO X (some e) (tPart te) := by
  intro pins s σ H Q I hw
  rw [evalPart_some]
  refine thn (h pins s σ H _ I hw) fun u s1 ⟨x, H1, I1, r1, q1⟩ => ?_
  obtain ⟨i, rfl, q⟩ := q1
  obtain ⟨t, rfl⟩ := r1
  exact ⟨some i, H1, I1, .int i t, q⟩

/-- what a slice of a value is, by values: the slice object stands at sl -/
noncomputable def SlR (X : Cx) (r : V → Option Int → Option Int → Hp → VK → Prop) : Prop :=
  ∀ (pins : List (Addr × Obj)) (s : Shared) (σ : St) (H : Hp) (x : V) (v vl vu : Value) (lo hi : Option Int) (sl : Addr) (Q : VK), Inv X pins σ H s → RelV x v → s.heap.IsSliceOf sl vl vu .none → IsPart vl lo → IsPart vu hi → r x lo hi H Q →
    ∃ T id, typeLookup (.type T) "__getitem__" = pure (some (.builtin id)) ∧ s.TypeIs v T ∧ wpAny (model X.prog X.w) X.A (getItem v (.ref sl)) (EP X pins σ Q) X.xe s
noncomputable def tSl (r : V → Option Int → Option Int → Hp → VK → Prop) (te : TE) (tl th : TO) : TE := fun σ H Q => te σ H fun x H1 => tl σ H1 fun l H2 => th σ H2 fun u H3 => r x l u H3 Q
/-- a[lo:hi], any a -/
theorem pe_slice {r : V → Option Int → Option Int → Hp → VK → Prop} (hr : SlR X r) (he : PE X e te) (hl : PO X lo tl) (hu : PO X hi th) : PE X (.Subscript e (.Slice lo hi none p2) pos) (tSl r te tl th) := by
  intro pins s σ H Q I h
  refine Subscript_ (thn (he pins s σ H _ I h) fun v s1 ⟨x, H1, I1, r1, q1⟩ => ?_)
  refine wpAny_Slice (thn (hl pins s1 σ H1 _ I1 q1) fun vl s2 ⟨l, H2, I2, pl, q2⟩ => thn (hu pins s2 σ H2 _ I2 q2) fun vu s3 ⟨u, H3, I3, pu, q3⟩ => ?_)
  rw [evalPart_none]
  refine wpAny_pure ?_
  have I4 : Inv X pins σ H3 { s3 with heap := s3.heap.push { cls := .type "slice", data := .fields #[vl, vu, .none] } } := I3.kept (t' := s3.toks) fun b ob q => Heap.get?_push_of_some _ q
  obtain ⟨T, id, hT, ht, hg⟩ := hr pins { s3 with heap := s3.heap.push { cls := .type "slice", data := .fields #[vl, vu, .none] } } σ H3 x v vl vu l u s3.heap.objs.size Q I4 r1 (Heap.IsSliceOf.new ..) pl pu q3
  show wpAny (model X.prog X.w) X.A (subscriptTail e (.Slice lo hi none p2) v (.ref s3.heap.objs.size)) (EP X pins σ Q) X.xe { s3 with heap := s3.heap.push { cls := .type "slice", data := .fields #[vl, vu, .none] } }
  exact tail_any (ops := [.ref s3.heap.objs.size, v]) ht hT hg (by with_unfolding_all rfl)

/-- the items of xs[lo:hi] -/
noncomputable def cutV (xs : List V) (lo hi : Option Int) : List V := (xs.drop (HT.sIx xs.length 0 lo)).take (HT.sIx xs.length xs.length hi - HT.sIx xs.length 0 lo)
theorem cutV_length (xs : List V) (lo hi : Option Int) : (cutV xs lo hi).length ≤ xs.length := by
  unfold cutV
  rw [List.length_take, List.length_drop]
  lia

/-! ### t < u, t + u -/
end
end L2

namespace L2
open PySem PySem.Spec PyProof.Rows

/-! ### places -/
/-- the place that an index of any sign means -/
noncomputable def ixN (n : Nat) (i : Int) : Option Nat := if 0 ≤ i then (if i < n then some i.toNat else none) else if -(n : Int) ≤ i then some (i + n).toNat else none
noncomputable def atI {α : Type} (xs : List α) (i : Int) : Option α := (ixN xs.length i).bind fun j => xs[j]?
theorem ixN_seq {n : Nat} {i : Int} {j : Nat} (h : ixN n i = some j) : seqIndex? i n = some j ∧ j < n ∧ -(n : Int) ≤ i ∧ i < n := by
  unfold ixN at h
  by_cases h0 : 0 ≤ i
  · rw [if_pos h0] at h
    by_cases h1 : i < n
    · rw [if_pos h1] at h
      have e : i.toNat = j := Option.some.inj h
      exact ⟨by rw [seqIndex_of h0 h1, e], by lia, by lia, h1⟩
    · rw [if_neg h1] at h; cases h
  · rw [if_neg h0] at h
    by_cases h1 : -(n : Int) ≤ i
    · rw [if_pos h1] at h
      have e : (i + n).toNat = j := Option.some.inj h
      exact ⟨by rw [seqIndex_neg (by lia) h1, e], by lia, h1, by lia⟩
    · rw [if_neg h1] at h; cases h
theorem atI_get {α : Type} {xs : List α} {i : Int} {v : α} (h : atI xs i = some v) : ∃ j, seqIndex? i xs.length = some j ∧ xs[j]? = some v ∧ j < xs.length ∧ -(xs.length : Int) ≤ i ∧ i < xs.length := by
  unfold atI at h
  cases e : ixN xs.length i with
  | none => rw [e] at h; cases h
  | some j =>
    rw [e] at h
    obtain ⟨h1, h2, h3, h4⟩ := ixN_seq e
    exact ⟨j, h1, h, h2, h3, h4⟩
theorem atI_nat {α : Type} {xs : List α} {j : Nat} {v : α} (h : xs[j]? = some v) : atI xs (j : Int) = some v := by
  have hj : j < xs.length := (List.getElem?_eq_some_iff.mp h).1
  have e : ixN xs.length (j : Int) = some j := by
    unfold ixN
    rw [if_pos (by lia), if_pos (by lia)]; simp
  unfold atI; rw [e]; exact h
theorem atI_last {α : Type} (xs : List α) (v : α) : atI (xs ++ [v]) (-1) = some v := by
  have hl : (xs ++ [v]).length = xs.length + 1 := by simp
  have e : ixN (xs ++ [v]).length (-1) = some xs.length := by
    unfold ixN
    rw [hl, if_neg (by decide), if_pos (by lia)]
    congr 1
    lia
  unfold atI
  rw [e]
  show (xs ++ [v])[xs.length]? = some v
  simp

/-! ### what may be subscripted -/
/-- what stands as an index of a plain subscript -/
noncomputable def PlainIx (b : Expr) : Prop := ∀ o i, subscripted b false o i = operate [o, i] (getItem o i)
/-- a subscript by values -/
noncomputable def IxR (X : Cx) (r : R2) : Prop :=
  ∀ (value slice : Expr) (pins : List (Addr × Obj)) (s : Shared) (σ : St) (H : Hp) (x y : V) (v u : Value) (Q : VK), Inv X pins σ H s → RelV x v → RelV y u → r x y H Q →
    subscripted slice false v u = operate [v, u] (getItem v u) → wpAny (model X.prog X.w) X.A (subscriptTail value slice v u) (EP X pins σ Q) X.xe s
/-- a call of a builtin's method by values: the receiver, the arguments -/
noncomputable def MtR (X : Cx) (id : String) (r : V → List V → Hp → VK → Prop) : Prop :=
  ∀ (pins : List (Addr × Obj)) (s : Shared) (σ : St) (H : Hp) (x : V) (xs : List V) (v : Value) (us : List Value) (Q : VK), Inv X pins σ H s → RelV x v → Vals xs us → r x xs H Q →
    wpAny (model X.prog X.w) X.A (call (.builtin id) (v :: us)) (EP X pins σ Q) X.xe s
section
variable {X : Cx} {a b : Expr} {ta tb : TE} {pos : Pos}
/-- a[b] -/
theorem pe_ix {r : R2} (hr : IxR X r) (ha : PE X a ta) (hb : PE X b tb) (hs : PlainIx b) : PE X (.Subscript a b pos) (tOp r ta tb) := by
  intro pins s σ H Q I h
  exact Subscript_ (binT ha hb I h fun v u s2 x y H2 I2 rx ry q => hr a b pins s2 σ H2 x y v u Q I2 rx ry q (hs _ _))

noncomputable def rIxL (K : PySem.W.Frag) : R2 := fun x y H Q => ∃ p xs i v, x = .ref p ∧ y = .int i ∧ SqL K H p xs ∧ atI xs i = some v ∧ Q v H
noncomputable def rIxT (K : PySem.W.Frag) : R2 := fun x y H Q => ∃ p xs i v, x = .ref p ∧ y = .int i ∧ SqT K H p xs ∧ atI xs i = some v ∧ Q v H
noncomputable def rIxS : R2 := fun x y H Q => ∃ z i c, x = .str z ∧ y = .int i ∧ z.length ≤ sizeLine ∧ atI z.cps.toList i = some c ∧ Q (.str ⟨#[c]⟩) H
theorem ix_list : IxR X (rIxL X.K) := by
  intro value slice pins s σ H x y v u Q I rx ry h hs
  obtain ⟨p, xs, i, z, rfl, rfl, hq, he, q⟩ := h
  cases rx
  obtain ⟨t, rfl⟩ := ry
  obtain ⟨its, r, pl, hz⟩ := I.list hq
  obtain ⟨j, h1, h2, h3, h4, h5⟩ := atI_get he
  obtain ⟨w, ew, rw'⟩ := r.get h2
  have hl := r.length
  have hn := line63
  have fin : EP X pins σ Q w s := ⟨z, H, I, rw', q⟩
  by_cases h0 : 0 ≤ i
  · have hj : i.toNat = j := by
      rw [seqIndex_of h0 h5] at h1
      exact Option.some.inj h1
    exact item_listR pl.isList h0 (by lia) (by rw [hj]; simpa using ew) fin hs
  · have hj : (i + (its.toArray.size : Int)).toNat = j := by
      rw [seqIndex_neg (by lia) h4] at h1
      rw [List.size_toArray, ← hl]
      exact Option.some.inj h1
    exact subscriptTail_builtinR (x := w) pl.isList.typeIs slot_list_getitem.lookup
      (wpAny_getItem_list_neg (Q := fun r s' => r = w ∧ EP X pins σ Q r s') pl.isList (by lia) (by rw [List.size_toArray] <;> lia) (by lia) (by rw [hj]; simpa using ew) ⟨rfl, fin⟩) hs
theorem ix_tup : IxR X (rIxT X.K) := by
  intro value slice pins s σ H x y v u Q I rx ry h hs
  obtain ⟨p, xs, i, z, rfl, rfl, hq, he, q⟩ := h
  cases rx
  obtain ⟨t, rfl⟩ := ry
  obtain ⟨its, r, pl, hz⟩ := I.tuple hq
  obtain ⟨j, h1, h2, h3, h4, h5⟩ := atI_get he
  obtain ⟨w, ew, rw'⟩ := r.get h2
  have hl := r.length
  have hn := line63
  have fin : EP X pins σ Q w s := ⟨z, H, I, rw', q⟩
  exact subscriptTail_builtinR (x := w) pl.typeIs slot_tuple_getitem.lookup
    (getItem_tuple (j := j) (Q := fun r s' => r = w ∧ EP X pins σ Q r s') pl (by lia) (by lia) (by rw [List.size_toArray, ← hl]; exact h1) (by simpa using ew) ⟨rfl, fin⟩) hs
theorem ix_str : IxR X rIxS := by
  intro value slice pins s σ H x y v u Q I rx ry h hs
  obtain ⟨z, i, c, rfl, rfl, hz, he, q⟩ := h
  obtain ⟨t, rfl⟩ := rx
  obtain ⟨t', rfl⟩ := ry
  obtain ⟨j, h1, h2, h3, h4, h5⟩ := atI_get he
  have hl : z.cps.toList.length = z.length := by simp [Str.length]
  rw [hl] at h1 h4 h5
  have hn := line63
  exact tail_any (typeIs_str s z t) slot_str_getitem.lookup (getItem_str (c := c) (by
    have e1 : decide (i < -(2 ^ 63 : Int)) = false := decide_eq_false (by lia)
    have e2 : decide (i ≥ 2 ^ 63) = false := decide_eq_false (by lia)
    rw [e1, e2, Bool.or_false]) (by rw [h1]; simpa using h2) ⟨.str ⟨#[c]⟩, H, I.tok _, ⟨_, rfl⟩, q⟩) hs

/-! ### xs[i] = v, any sign -/
/-- the list's object behind a store -/
theorem mapSeq_set (its : List Value) (n j : Nat) (u : Value) : Obj.mapSeq (·.setIfInBounds j u) { cls := .type "list", data := .seq its.toArray n } = { cls := .type "list", data := .seq (its.set j u).toArray n } := by
  simp [Obj.mapSeq]
theorem Inv.lst {pins : List (Addr × Obj)} {σ : St} {H : Hp} {s : Shared} {p : Addr} {xs : List V} (I : Inv X pins σ H s) (h : H p = some (.lst xs)) :
    ∃ (its : List Value) (n : Nat), Vals xs its ∧ s.heap.get? p = some { cls := .type "list", data := .seq its.toArray n } ∧ xs.length ≤ sizeLine := by
  obtain ⟨z, its, n, r, e⟩ := I.hok p _ h
  exact ⟨its, n, r, e, z⟩
/-- the list at p is written by an update of its object -/
theorem Inv.lstUpd {pins : List (Addr × Obj)} {σ : St} {H : Hp} {s : Shared} {p : Addr} {xs ys : List V} {its its' : List Value} {n n' : Nat} {f : Obj → Obj} (I : Inv X pins σ H s) (h : H p = some (.lst xs))
    (ho : s.heap.get? p = some { cls := .type "list", data := .seq its.toArray n }) (hf : f { cls := .type "list", data := .seq its.toArray n } = { cls := .type "list", data := .seq its'.toArray n' }) (r : Vals ys its') (hz : ys.length ≤ sizeLine) (t : Nat) :
    Inv X pins σ (upd H p (.lst ys)) { s with heap := s.heap.update p f, toks := t } := by
  have e : (s.heap.update p f).get? p = some { cls := .type "list", data := .seq its'.toArray n' } := by
    rw [Heap.get?_update_self f ho (by rw [hf] <;> rfl), hf]
  refine I.write (x := p) (e := p) (by rw [h]; trivial) (.inl rfl) (fun b u hb q => (Heap.get?_update_other _ _ (Ne.symm hb)).trans q) ⟨_, e⟩ ?_
  exact ⟨hz, its', n', r, e⟩
noncomputable def rSetL : V → V → V → Hp → (Hp → Prop) → Prop := fun o i v H Q => ∃ p xs k j, o = .ref p ∧ i = .int k ∧ H p = some (.lst xs) ∧ ixN xs.length k = some j ∧ Q (upd H p (.lst (xs.set j v)))
theorem set_list : PSet X rSetL := by
  intro pins s σ H o i v ov iv u Q I ro ri rv h
  obtain ⟨p, xs, k, j, rfl, rfl, hp, hj, q⟩ := h
  cases ro
  obtain ⟨t, rfl⟩ := ri
  obtain ⟨its, n, r, ho, hz⟩ := I.lst hp
  obtain ⟨h1, h2, h3, h4⟩ := ixN_seq hj
  have hl := r.length
  have hn := line63
  have I' : Inv X pins σ (upd H p (.lst (xs.set j v))) { s with heap := s.heap.update p (Obj.mapSeq (·.setIfInBounds j u)) } :=
    I.lstUpd hp ho (mapSeq_set its n j u) (r.set rv j) (by rw [List.length_set]; exact hz) s.toks
  by_cases h0 : 0 ≤ k
  · have hk : k.toNat = j := by
      rw [seqIndex_of h0 h4] at h1
      exact Option.some.inj h1
    exact PySem.W.ki_setAt ho h0 (by lia) (by rw [List.size_toArray, ← hl]; exact h4) (by rw [hk]; exact ⟨_, I', q⟩)
  · have hk : (k + (its.toArray.size : Int)).toNat = j := by
      rw [seqIndex_neg (by lia) h3] at h1
      rw [List.size_toArray, ← hl]
      exact Option.some.inj h1
    exact PySem.W.ki_setBack ho (by lia) (by rw [List.size_toArray, ← hl]; exact h3) (by lia) (by rw [hk]; exact ⟨_, I', q⟩)

/-! ### slices -/
theorem slice_bounds (lo hi : Option Int) (n : Nat) : (sliceBounds lo hi none n).1 = ((HT.sIx n 0 lo : Nat) : Int) ∧ (sliceBounds lo hi none n).2.1 = ((HT.sIx n n hi : Nat) : Int) ∧ (sliceBounds lo hi none n).2.2 = 1 := by
  refine ⟨?_, ?_, rfl⟩
  · cases lo with
    | none => simp [sliceBounds, HT.sIx]
    | some i =>
      simp only [sliceBounds, HT.sIx, Option.getD_none, show (1 : Int) > 0 by decide, if_true]
      by_cases h : i < 0
      · simp only [h, if_true] <;> lia
      · simp only [h, if_false] <;> lia
  · cases hi with
    | none => simp [sliceBounds, HT.sIx]
    | some i =>
      simp only [sliceBounds, HT.sIx, Option.getD_none, show (1 : Int) > 0 by decide, if_true]
      by_cases h : i < 0
      · simp only [h, if_true] <;> lia
      · simp only [h, if_false] <;> lia
theorem slicePick_cut (its : List Value) (lo hi : Option Int) : slicePick its.toArray lo hi none = ((its.drop (HT.sIx its.length 0 lo)).take (HT.sIx its.length its.length hi - HT.sIx its.length 0 lo)).toArray := by
  obtain ⟨h1, h2, h3⟩ := slice_bounds lo hi its.toArray.size
  unfold slicePick
  rw [h1, h2, h3]
  simp only [sliceRange_one, pick_run, List.size_toArray] <;> rfl
/-- xs[lo:hi] of a list: a new list -/
noncomputable def rSlL (K : PySem.W.Frag) : V → Option Int → Option Int → Hp → VK → Prop := fun x lo hi H Q => ∃ a xs, x = .ref a ∧ SqL K H a xs ∧ ∀ p, H p = none → Q (.ref p) (upd H p (.lst (cutV xs lo hi)))
theorem sl_list : SlR X (rSlL X.K) := by
  intro pins s σ H x v vl vu lo hi sl Q I rx hs pl pu h
  obtain ⟨a, xs, rfl, hx, q⟩ := h
  cases rx
  obtain ⟨its, r, ht, hz⟩ := I.list hx
  have hlen := r.length
  refine ⟨"list", _, slot_list_getitem.lookup, ht.isList.typeIs, ?_⟩
  refine wpAny_getItem_list_slice ht.isList hs pl pu .none (by simp) ?_ (by rw [List.size_toArray] <;> lia)
  rw [slicePick_cut, ← hlen]
  refine ⟨.ref s.heap.objs.size, _, I.laid (t' := s.toks) (o := .lst (cutV xs lo hi)) (fun b ob q => Heap.get?_push_of_some _ q) (Nat.le_refl _) ?_, rfl, q _ (I.hok.fresh (Nat.le_refl _))⟩
  exact ⟨Nat.le_trans (cutV_length xs lo hi) hz, _, 0, (r.drop (HT.sIx xs.length 0 lo)).take (HT.sIx xs.length xs.length hi - HT.sIx xs.length 0 lo), Heap.get?_push_size _ rfl⟩

/-! ### in, not in: flat items -/
noncomputable def flatV : V → Bool
  | .non => true
  | .bl _ => true
  | .int _ => true
  | .str _ => true
  | _ => false
/-- == of flat values -/
noncomputable def eqV : V → V → Bool
  | .non, .non => true
  | .bl a, .bl b => a == b
  | .bl a, .int b => (if a then 1 else 0) == b
  | .int a, .bl b => a == (if b then 1 else 0)
  | .int a, .int b => a == b
  | .str a, .str b => a == b
  | _, _ => false
theorem eqAt_V {A : Around} {s : Shared} {y x : V} {u v : Value} (ry : RelV y u) (rx : RelV x v) (fy : flatV y = true) (fx : flatV x = true) : SeqAt.EqAt A s u v (eqV y x) := by
  cases y with
  | non =>
    cases ry
    cases x with
    | non => cases rx; exact SeqAt.EqAt.same _
    | bl b => cases rx; exact SeqAt.EqAt.none_bool b
    | int b => obtain ⟨t, rfl⟩ := rx; exact SeqAt.EqAt.none_int b t
    | str b => obtain ⟨t, rfl⟩ := rx; exact SeqAt.EqAt.none_str b t
    | _ => exact absurd (show false = true from fx) Bool.false_ne_true
  | bl a =>
    cases ry
    cases x with
    | non => cases rx; exact SeqAt.EqAt.bool_none a
    | bl b => cases rx; exact SeqAt.EqAt.bool_bool a b
    | int b => obtain ⟨t, rfl⟩ := rx; exact SeqAt.EqAt.bool_int a b t
    | str b => obtain ⟨t, rfl⟩ := rx; exact SeqAt.EqAt.bool_str a b t
    | _ => exact absurd (show false = true from fx) Bool.false_ne_true
  | int a =>
    obtain ⟨t', rfl⟩ := ry
    cases x with
    | non => cases rx; exact SeqAt.EqAt.int_none a t'
    | bl b => cases rx; exact SeqAt.EqAt.int_bool a t' b
    | int b => obtain ⟨t, rfl⟩ := rx; exact SeqAt.EqAt.int_int a t' b t
    | str b => obtain ⟨t, rfl⟩ := rx; exact SeqAt.EqAt.int_str a t' b t
    | _ => exact absurd (show false = true from fx) Bool.false_ne_true
  | str a =>
    obtain ⟨t', rfl⟩ := ry
    cases x with
    | non => cases rx; exact SeqAt.EqAt.str_none a t'
    | bl b => cases rx; exact SeqAt.EqAt.str_bool a t' b
    | int b => obtain ⟨t, rfl⟩ := rx; exact SeqAt.EqAt.str_int a t' b t
    | str b => obtain ⟨t, rfl⟩ := rx; exact SeqAt.EqAt.str_str a t' b t
    | _ => exact absurd (show false = true from fx) Bool.false_ne_true
  | _ => exact absurd (show false = true from fy) Bool.false_ne_true
/-- the items' answers, read off the values (a value's own answer does not lean on its token) -/
noncomputable def eqU (x : V) (u : Value) : Bool := match u with
  | .none => eqV .non x
  | .bool b => eqV (.bl b) x
  | .int i _ => eqV (.int i) x
  | .str z _ => eqV (.str z) x
  | _ => false
theorem eqU_of {x y : V} {u : Value} (r : RelV y u) (f : flatV y = true) : eqU x u = eqV y x := by
  cases y with
  | non => cases r; rfl
  | bl b => cases r; rfl
  | int i => obtain ⟨t, rfl⟩ := r; rfl
  | str z => obtain ⟨t, rfl⟩ := r; rfl
  | _ => exact absurd (show false = true from f) Bool.false_ne_true
theorem any_eqU {x : V} : ∀ {xs : List V} {us : List Value}, Vals xs us → xs.all flatV = true → us.any (eqU x) = xs.any fun y => eqV y x
  | _, _, .nil, _ => rfl
  | y :: xs, u :: us, .cons r t, f => by
    rw [List.all_cons, Bool.and_eq_true] at f
    rw [List.any_cons, List.any_cons, eqU_of r f.1, any_eqU t f.2]
theorem mem_eqAt {A : Around} {s : Shared} {x : V} {v : Value} (rx : RelV x v) (fx : flatV x = true) : ∀ {xs : List V} {us : List Value}, Vals xs us → xs.all flatV = true → ∀ u ∈ us, SeqAt.EqAt A s u v (eqU x u)
  | _, _, .nil, _ => fun u hu => by cases hu
  | y :: xs, u :: us, .cons r t, f => fun u' hu => by
    rw [List.all_cons, Bool.and_eq_true] at f
    rcases List.mem_cons.mp hu with rfl | hu
    · rw [eqU_of r f.1]; exact eqAt_V r rx f.1 fx
    · exact mem_eqAt rx fx t f.2 u' hu
noncomputable def inV (x : V) (xs : List V) : Bool := xs.any fun y => eqV y x
/-- x in a list or tuple of flat items -/
noncomputable def rIn (K : PySem.W.Frag) (neg : Bool) : R2 := fun x y H Q => ∃ p xs, y = .ref p ∧ (SqL K H p xs ∨ SqT K H p xs) ∧ flatV x = true ∧ xs.all flatV = true ∧ Q (.bl (if neg then !inV x xs else inV x xs)) H
theorem op_in_seq : OpR X (compareOp .In) (rIn X.K false) := by
  intro pins s σ H x y v u Q I rx ry h
  obtain ⟨p, xs, rfl, hq, fx, fs, q⟩ := h
  cases ry
  rcases hq with hq | hq
  · obtain ⟨its, r, pl, hz⟩ := I.list hq
    refine SeqAt.in_listAt (eqU x) pl.isList (fun w hw => mem_eqAt rx fx r fs w (by simpa using hw)) ⟨.bl _, H, I, rfl, ?_⟩
    rw [show its.toArray.any (eqU x) = its.any (eqU x) by simp, any_eqU r fs]
    exact q
  · obtain ⟨its, r, pl, hz⟩ := I.tuple hq
    refine SeqAt.in_tupleAt (eqU x) pl (fun w hw => mem_eqAt rx fx r fs w (by simpa using hw)) ⟨.bl _, H, I, rfl, ?_⟩
    rw [show its.toArray.any (eqU x) = its.any (eqU x) by simp, any_eqU r fs]
    exact q

/-! ### len, list(x), tuple(x) of any list or tuple that is read -/
theorem call_len_seq : CallR X (.builtin "len") (fun xs H Q => ∃ p ys, xs = [.ref p] ∧ (SqL X.K H p ys ∨ SqT X.K H p ys) ∧ Q (.int ys.length) H) := by
  intro pins s σ H xs us Q I r h
  obtain ⟨p, ys, rfl, hq, q⟩ := h
  obtain ⟨u, rfl, rx⟩ := vals1 r
  cases rx
  have hn := line63
  rcases hq with hq | hq
  · obtain ⟨its, r', pl, hz⟩ := I.list hq
    have hlen := r'.length
    exact Calls.call_len_list pl.isList (by simp only [List.size_toArray] <;> lia) ⟨.int ys.length, H, I.tok _, ⟨s.toks + 1, by rw [List.size_toArray, hlen]⟩, q⟩
  · obtain ⟨its, r', pl, hz⟩ := I.tuple hq
    have hlen := r'.length
    exact len_tuple pl (by simp only [List.size_toArray] <;> lia) ⟨.int ys.length, H, I.tok _, ⟨s.toks + 1, by rw [List.size_toArray, hlen]⟩, q⟩
theorem call_list_of : CallR X (.type "list") (fun xs H Q => ∃ p ys, xs = [.ref p] ∧ (SqL X.K H p ys ∨ SqT X.K H p ys) ∧ ∀ l, H l = none → Q (.ref l) (upd H l (.lst ys))) := by
  intro pins s σ H xs us Q I r h
  obtain ⟨p, ys, rfl, hq, q⟩ := h
  obtain ⟨u, rfl, rx⟩ := vals1 r
  cases rx
  have fin : ∀ (its : List Value), Vals ys its → ys.length ≤ sizeLine → ∀ (h' : Heap) (c' : Nat), (∀ b o', s.heap.get? b = some o' → h'.get? b = some o') →
      h'.get? s.heap.objs.size = some { cls := .type "list", dict := none, data := .seq its.toArray c', slots := #[] } → EP X pins σ Q (.ref s.heap.objs.size) { s with heap := h' } := fun its r' hz h' c' kp e =>
    ⟨.ref s.heap.objs.size, _, I.laid (t' := s.toks) kp (Nat.le_refl _) (show ObjOk X.prog X.w _ h' _ (.lst ys) from ⟨hz, its, c', r', e⟩), rfl, q _ (I.hok.fresh (Nat.le_refl _))⟩
  rcases hq with hq | hq
  · obtain ⟨its, r', pl, hz⟩ := I.list hq
    have hlen := r'.length
    obtain ⟨o, ho, hc, n, hd⟩ := pl.isList
    exact call_list_seq p (.inl rfl) ho hc hd (fun h' c' kp e => fin its r' hz h' c' kp e) (by simp only [List.size_toArray] <;> lia)
  · obtain ⟨its, r', pl, hz⟩ := I.tuple hq
    have hlen := r'.length
    obtain ⟨o, ho, hc, n, hd⟩ := pl
    exact call_list_seq p (.inr rfl) ho hc hd (fun h' c' kp e => fin its r' hz h' c' kp e) (by simp only [List.size_toArray] <;> lia)

/-! ### the call of a builtin's method: o.m(..) -/
/-- the value is of that builtin type -/
noncomputable def tyV (K : PySem.W.Frag) (T : String) (x : V) (H : Hp) : Prop := match x with
  | .str _ => T = "str"
  | .int _ => T = "int"
  | .ref p => (T = "list" ∧ ∃ xs, SqL K H p xs) ∨ (T = "tuple" ∧ ∃ o, K.lookup p = some o ∧ o.cls = .type "tuple" ∧ o.dict = none) ∨
      (T = "dict" ∧ ((∃ kvs, H p = some (.dK kvs)) ∨ ∃ kvs, H p = some (.dT kvs))) ∨ (T = "set" ∧ ∃ S n, H p = some (.set S n))
  | _ => False
theorem tyV_is {pins : List (Addr × Obj)} {σ : St} {H : Hp} {s : Shared} {T : String} {x : V} {v : Value} (I : Inv X pins σ H s) (r : RelV x v) (ty : tyV X.K T x H) :
    s.TypeIs v T ∧ ∀ a, v = .ref a → ∃ ob, s.heap.get? a = some ob ∧ ob.dict = none := by
  cases x with
  | str z =>
    obtain ⟨t, rfl⟩ := r
    cases (show T = "str" from ty)
    exact ⟨typeIs_str s z t, fun _ e => nomatch e⟩
  | int i =>
    obtain ⟨t, rfl⟩ := r
    cases (show T = "int" from ty)
    exact ⟨typeIs_int s i t, fun _ e => nomatch e⟩
  | ref p =>
    cases r
    rcases ty with ⟨rfl, xs, hq⟩ | ⟨rfl, o, hk, hc, hd⟩ | ⟨rfl, hk⟩ | ⟨rfl, S, n, hk⟩
    · obtain ⟨its, _, pl, _⟩ := I.list hq
      refine ⟨pl.isList.typeIs, fun a e => ?_⟩
      cases e
      obtain ⟨o, n, e, c, hd, _⟩ := pl
      exact ⟨o, e, hd⟩
    · refine ⟨⟨o, I.kIn p o hk, hc⟩, fun a e => ?_⟩
      cases e
      exact ⟨o, I.kIn _ o hk, hd⟩
    · have z : ∃ o, s.heap.get? p = some o ∧ o.ExactDict := by
        rcases hk with ⟨kvs, hk⟩ | ⟨kvs, hk⟩
        · obtain ⟨_, _, _, _, o, _, _, e, ex, _⟩ := I.hok p _ hk
          exact ⟨o, e, ex⟩
        · obtain ⟨_, _, _, _, o, _, _, e, ex, _⟩ := I.hok p _ hk
          exact ⟨o, e, ex⟩
      obtain ⟨o, e, ex⟩ := z
      refine ⟨⟨o, e, ex.1⟩, fun a e2 => ?_⟩
      cases e2
      exact ⟨o, e, ex.2.1⟩
    · obtain ⟨o, _, _, _, e, ex, _⟩ := I.hok p _ hk
      refine ⟨⟨o, e, ex.1⟩, fun a e2 => ?_⟩
      cases e2
      exact ⟨o, e, ex.2.1⟩
  | _ => exact False.elim ty
noncomputable def tBM (K : PySem.W.Frag) (T : String) (r : V → List V → Hp → VK → Prop) (to : TE) (t : TA) : TE := fun σ H Q => to σ H fun x H1 => tyV K T x H1 ∧ t σ H1 fun xs H2 => r x xs H2 Q
variable {o e : Expr} {es : List Expr} {to : TE} {t : TA} {name : Str} {apos cpos : Pos} {T id : String} {r : V → List V → Hp → VK → Prop}
theorem pe_bm (pa : PlainAttrs T) (slot : Slot T name id) (hty : typeOf (.builtin id) = pure (.type "method_descriptor")) (hm : MtR X id r) (ho : PE X o to) (ha : PA X (e :: es) t)
    (hbase : attributeBase o name X.env (eval o X.env) = eval o X.env := by rfl)
    (hfew : ((backTo cpos (starEach (e :: es) X.env)).all (fun x => !x.1) && (backToKw cpos (keywordEach [] X.env)).all (fun x => x.1.isSome)
      && decide ((e :: es).length + ([] : List Keyword).length + (if ([] : List Keyword).isEmpty then 0 else 1) < 30)) = true := by rfl)
    (hline : (apos.endLine == cpos.line) = true := by rfl) (hs : starEach (e :: es) X.env = (false, eval e X.env) :: starEach es X.env := by rfl) (hplain : (backTo cpos (starEach es X.env)).any (·.1) = false := by rfl) :
    PE X (.Call (.Attribute o name apos) (e :: es) [] cpos) (tBM X.K T r to t) := by
  intro pins s σ H Q I h
  refine wpAny_Call_method_late hbase hfew hline rfl (thn (ho pins s σ H _ I h) fun v s1 ⟨x, H1, I1, r1, ty, q1⟩ => ?_)
  obtain ⟨h1, h2⟩ := tyV_is I1 r1 ty
  refine ⟨T, id, pa, slot, hty, h1, h2, ?_⟩
  have hA := ha cpos pins s1 σ H1 _ I1 q1
  rw [hs] at hA ⊢
  refine Calls.callWith_builtin (by show (false || (backTo cpos (starEach es X.env)).any (·.1)) = false; rw [hplain] <;> rfl) (Calls.evalArgs_plain ?_)
  exact thn hA fun us s2 ⟨vs, H2, I2, r2, q2⟩ => hm pins s2 σ H2 x vs v us Q I2 r1 r2 q2
/- xs.append(e), list.index on a module's tuple .. are MtR facts of 06m -/
end
end L2

namespace L2
open PySem PySem.Spec PyProof.Rows

noncomputable def MtM (X : Cx) (id : String) (r : V → List V → Hp → VK → Prop) : Prop :=
  ∀ (pins : List (Addr × Obj)) (s : Shared) (σ : St) (H : Hp) (x : V) (xs : List V) (v : Value) (us : List Value) (Q : VK), Inv X pins σ H s → RelV x v → Vals xs us → r x xs H Q →
    wpAny (model X.prog X.w) X.A (call (.builtin id) (v :: us)) (EP X pins σ Q) X.xe s

/-! ### lists of values -/
theorem Vals.one : ∀ {x : V} {us : List Value}, Vals [x] us → ∃ u, us = [u] ∧ RelV x u
  | _, _, .cons r .nil => ⟨_, rfl, r⟩
theorem Vals.zero : ∀ {us : List Value}, Vals [] us → us = []
  | _, .nil => rfl
theorem Vals.reverse {xs : List V} {us : List Value} (h : Vals xs us) : Vals xs.reverse us.reverse := by
  induction h with
  | nil => exact .nil
  | cons r t ih => rw [List.reverse_cons, List.reverse_cons]; exact Vals.append ih (.cons r .nil)
theorem Vals.rep {xs : List V} {us : List Value} (h : Vals xs us) : ∀ k : Nat, Vals (List.replicate k xs).flatten (List.replicate k us).flatten
  | 0 => .nil
  | k + 1 => by
    rw [List.replicate_succ, List.replicate_succ, List.flatten_cons, List.flatten_cons]
    exact Vals.append h (Vals.rep h k)
theorem foldl_rep (its : List Value) : ∀ (k : Nat) (acc : List Value),
    List.foldl (fun x1 x2 => x1 ++ x2) acc.toArray (List.replicate k its.toArray) = (acc ++ (List.replicate k its).flatten).toArray
  | 0, acc => by simp
  | k + 1, acc => by
    have e : acc.toArray ++ its.toArray = (acc ++ its).toArray := by simp
    have e2 : (acc ++ its) ++ (List.replicate k its).flatten = acc ++ (List.replicate (k + 1) its).flatten := by
      rw [List.replicate_succ, List.flatten_cons, List.append_assoc]
    rw [← e2, ← foldl_rep its k (acc ++ its), ← e, List.replicate_succ, List.foldl_cons]

section
variable {X : Cx} {pins : List (Addr × Obj)} {σ : St} {H : Hp} {s : Shared} {l b : Addr} {xs ys zs : List V}

/-! ### the two steps: a tracked list is rewritten, a new list is laid -/
theorem Inv.lset {its its' : List Value} {n : Nat} {f : Array Value → Array Value} {t' : Nat} (I : Inv X pins σ H s) (hH : H l = some (.lst xs))
    (e : s.heap.get? l = some { cls := .type "list", data := .seq its.toArray n }) (hf : f its.toArray = its'.toArray) (hv : Vals ys its') (hz : ys.length ≤ sizeLine) :
    Inv X pins σ (upd H l (.lst ys)) { s with heap := s.heap.update l (Obj.mapSeq f), toks := t' } := by
  have q := PySem.IsL.update e f
  rw [hf] at q
  refine I.write (x := l) (e := l) (by rw [hH]; exact trivial) (.inl rfl) (fun b' u hb hu => (Heap.get?_update_other s.heap (Obj.mapSeq f) (Ne.symm hb)).trans hu) ⟨_, q⟩ ?_
  exact ⟨hz, its', _, hv, q⟩
theorem Inv.lnew {its : List Value} {t' : Nat} (I : Inv X pins σ H s) (hv : Vals ys its) (hz : ys.length ≤ sizeLine) :
    Inv X pins σ (upd H s.heap.objs.size (.lst ys)) { s with heap := s.heap.push { cls := .type "list", data := .seq its.toArray }, toks := t' } :=
  I.laid (fun _ _ q => Heap.get?_push_of_some _ q) (Nat.le_refl _) ⟨hz, its, 0, hv, Heap.get?_push_size _ rfl⟩
theorem Inv.fresh (I : Inv X pins σ H s) : H s.heap.objs.size = none := I.hok.fresh (Nat.le_refl _)
theorem Inv.lstM (I : Inv X pins σ H s) (hH : H l = some (.lst xs)) : xs.length ≤ sizeLine ∧ ∃ (its : List Value) (n : Nat), Vals xs its ∧ xs.length = its.length ∧ s.heap.get? l = some { cls := .type "list", data := .seq its.toArray n } := by
  obtain ⟨z, its, n, r, e⟩ := I.hok l _ hH
  exact ⟨z, its, n, r, r.length, e⟩

theorem notLongL {n : Nat} (h : n ≤ sizeLine) : Builtin.List.listTooLong n = false := by
  unfold Builtin.List.listTooLong
  exact decide_eq_false (by lia)
end

section
variable {X : Cx}

/-! ### methods -/
noncomputable def rAppend : V → List V → Hp → VK → Prop := fun x vs H Q => ∃ l xs y, x = .ref l ∧ vs = [y] ∧ H l = some (.lst xs) ∧ xs.length < sizeLine ∧ Q .non (upd H l (.lst (xs ++ [y])))
theorem mt_append : MtM X "list.append" rAppend := by
  intro pins s σ H x vs v us Q I rx rv h
  obtain ⟨l, xs, y, rfl, rfl, hH, hz, q⟩ := h
  cases rx
  obtain ⟨u, rfl, ru⟩ := rv.one
  obtain ⟨z, its, n, r, hl, e⟩ := I.lstM hH
  refine call_meets F.slot_list_append ⟨_, e, rfl⟩ F.entry_list_append (F.args_list_append_2 _ _) (PySem.list_append l its.toArray n u (by rw [List.size_toArray]; lia)) ⟨e, ?_⟩
  refine ⟨.non, _, I.lset (its' := its ++ [u]) hH e (by simp) (r.append (.cons ru .nil)) ?_, rfl, q⟩
  rw [List.length_append, List.length_singleton]
  lia

noncomputable def rExtend : V → List V → Hp → VK → Prop := fun x vs H Q => ∃ l b xs zs, x = .ref l ∧ vs = [.ref b] ∧ H l = some (.lst xs) ∧ H b = some (.lst zs) ∧ xs.length + zs.length ≤ sizeLine ∧ Q .non (upd H l (.lst (xs ++ zs)))
theorem mt_extend : MtM X "list.extend" rExtend := by
  intro pins s σ H x vs v us Q I rx rv h
  obtain ⟨l, b, xs, zs, rfl, rfl, hH, hB, hz, q⟩ := h
  cases rx
  obtain ⟨u, rfl, ru⟩ := rv.one
  cases ru
  obtain ⟨z, its, n, r, hl, e⟩ := I.lstM hH
  obtain ⟨z2, its2, n2, r2, hl2, e2⟩ := I.lstM hB
  have hsz : its.toArray.size + its2.toArray.size ≤ sizeLine := by rw [List.size_toArray, List.size_toArray]; lia
  have hlong : ¬ (!its.toArray.isEmpty && Builtin.List.listTooLong (its.toArray.size + its2.toArray.size)) = true := by
    rw [notLongL hsz, Bool.and_false]
    exact Bool.false_ne_true
  refine call_meets F.slot_list_extend ⟨_, e, rfl⟩ F.entry_list_extend (F.args_list_extend_2 _ _)
    (AutoSeq1.list_extend_list_list_0 l its.toArray n b its2.toArray n2 hlong (by rw [List.size_toArray]; lia) (by lia)) ⟨e, e2, ?_⟩
  refine ⟨.non, _, I.lset (its' := its ++ its2) hH e (by simp) (r.append r2) ?_, rfl, q⟩
  rw [List.length_append]
  lia





/-! ### list + list, list += list, list * int -/
noncomputable def rCat : R2 := fun x y H Q => ∃ l b xs zs, x = .ref l ∧ y = .ref b ∧ H l = some (.lst xs) ∧ H b = some (.lst zs) ∧ xs.length + zs.length ≤ sizeLine ∧ ∀ p, H p = none → Q (.ref p) (upd H p (.lst (xs ++ zs)))
theorem op_cat : OpR X (binaryOp .Add) rCat := by
  intro pins s σ H x y v u Q I rx ry h
  obtain ⟨l, b, xs, zs, rfl, rfl, hH, hB, hz, q⟩ := h
  cases rx
  cases ry
  obtain ⟨z, its, n, r, hl, e⟩ := I.lstM hH
  obtain ⟨z2, its2, n2, r2, hl2, e2⟩ := I.lstM hB
  refine PySem.P.add_list e e2 ?_ (by rw [List.size_toArray, List.size_toArray]; lia)
  have ea : its.toArray ++ its2.toArray = (its ++ its2).toArray := by simp
  rw [ea]
  exact ⟨.ref _, _, I.lnew (t' := s.toks) (r.append r2) (by rw [List.length_append]; lia), rfl, q _ I.fresh⟩
/-- a list times an int (a negative one is nothing) -/
noncomputable def rRep : R2 := fun x y H Q => ∃ l k xs, x = .ref l ∧ y = .int k ∧ H l = some (.lst xs) ∧ -(2 ^ 63) ≤ k ∧ k < 2 ^ 63 ∧ xs.length * k.toNat ≤ sizeLine ∧
  ∀ p, H p = none → Q (.ref p) (upd H p (.lst (List.replicate k.toNat xs).flatten))
theorem len_rep {α : Type} (xs : List α) (k : Nat) : (List.replicate k xs).flatten.length = k * xs.length := by
  induction k with
  | zero => simp
  | succ k ih => rw [List.replicate_succ, List.flatten_cons, List.length_append, ih, Nat.succ_mul, Nat.add_comm]
theorem op_rep : OpR X (binaryOp .Mult) rRep := by
  intro pins s σ H x y v u Q I rx ry h
  obtain ⟨l, k, xs, rfl, rfl, hH, h1, h2, hz, q⟩ := h
  cases rx
  obtain ⟨t, rfl⟩ := ry
  obtain ⟨z, its, n, r, hl, e⟩ := I.lstM hH
  have hlen : its.toArray.size * k.toNat ≤ sizeLine := by rw [List.size_toArray, ← hl]; exact hz
  have hcap : ¬ its.toArray.size * k.toNat > (2 ^ 63 - 1) / 8 := by
    have : (sizeLine : Nat) ≤ (2 ^ 63 - 1) / 8 := by decide
    lia
  have hfit : ¬ (!Builtin.List.listFitsIndex k) = true := by
    rw [fitsIndex_both h1 h2]
    exact Bool.false_ne_true
  have hlong : ¬ Builtin.List.listTooLong (its.toArray.size * k.toNat) = true := by
    rw [notLongL hlen]
    exact Bool.false_ne_true
  have hnew : List.foldl (fun x1 x2 => x1 ++ x2) #[] (List.replicate (if its.toArray.isEmpty = true then 0 else k.toNat) its.toArray) = (List.replicate k.toNat its).flatten.toArray := by
    have f0 : ∀ m : Nat, List.foldl (fun x1 x2 => x1 ++ x2) #[] (List.replicate m its.toArray) = (List.replicate m its).flatten.toArray := fun m => by
      have := foldl_rep its m []
      rw [List.nil_append] at this
      exact this
    rw [f0]
    cases its with
    | nil => simp
    | cons a r' => rw [if_neg (by simp)]
  refine wpAny_binaryOp_repeat_ref (T := "list") (U := "int") (by decide) ⟨_, e, rfl⟩ (fun s' => typeIs_int s' k t) noFill_list_mul F.fills_int_mul F.slot_int_rmul repeat_list F.slot_int_index.lookup
    (call_meets F.slot_int_rmul (typeIs_int s k t) F.entry_int_rmul (F.args_int_rmul_2 _ _) (int___rmul___int_list k t l its.toArray n)
      ⟨e, rfl, ⟨_, e, rfl⟩, call_meets F.slot_list_mul ⟨_, e, rfl⟩ F.entry_list_mul (F.args_list_mul_2 _ _) (AutoListH.list___mul___list_int_3 l its.toArray n k t hfit hcap hlong) ⟨e, ?_⟩⟩)
  rw [hnew]
  exact ⟨.ref _, _, I.lnew (t' := s.toks) (r.rep k.toNat) (by rw [len_rep, Nat.mul_comm]; exact hz), rfl, q _ I.fresh⟩

/-! ### del xs[i] -/
end

/-! ### xs[a:b] = ys -/
section
variable {prog : Program} {w : World} {A : Around} {E : Value → Shared → Prop} {s : Shared}
set_option maxRecDepth 100000 in
end

section
variable {X : Cx}
end
end L2

namespace Att
open PySem PySem.W PySem.Calls PyProof.Rows

/-! ### the script -/
theorem ints_of_wellAll {P : Params} {h : Heap} : ∀ (ns : List Int) (vs : List Value), WellAll P h vs (ns.map WData.int) → IntsAre vs ns := by
  intro ns
  induction ns with
  | nil =>
    intro vs w
    rw [List.map_nil] at w
    cases w
    exact .nil
  | cons n ns ih =>
    intro vs w
    rw [List.map_cons] at w
    cases w with
    | cons a b =>
      cases a
      exact .cons _ _ (ih _ b)

theorem script_of {l : OpenLaw} {n : Nat} (hn : l.most = some n) {P : Params} {h : Heap} {args : List WData} {vals : List Value}
    (hpre : l.row.toRowW.claim.pre args = true) (hwl : WellAll P h vals args) :
    ∃ a vs ns, vals = [Value.ref a] ∧ args = [WData.list (ns.map WData.int)] ∧ h.get? a = some { cls := .type "list", data := .seq vs.toArray } ∧ IntsAre vs ns ∧ ns.length ≤ n := by
  have hsh : WShape.hasAll [] args [.list .int] = true := (pre_splitW hpre).1
  have hc : l.pre.holds [] { args := args } = true := (pre_splitW hpre).2
  obtain ⟨d, r, rfl, h1, h2⟩ := hasAllW_cons hsh
  obtain rfl := hasAllW_nil h2
  obtain ⟨xs, rfl, h3⟩ := hasW_list h1
  obtain ⟨ns, rfl⟩ := items_int h3
  have hlen : ns.length ≤ n := by
    unfold OpenLaw.pre at hc
    have h4 : (WTm.not (.lt (.lit (.int (n : Int))) (.len (.arg 0)))).holds [] { args := [.list (ns.map .int)] } = true := by
      have h4 := (holds_andW hc).1
      rw [hn] at h4
      exact h4
    have h5 := condW_of h4 (w_not (w_lt w_lit (w_len_list (w_arg rfl))))
    rw [List.length_map] at h5
    refine Nat.le_of_not_lt fun q => ?_
    have q' : (n : Int) < ((ns.length : Nat) : Int) := by lia
    first
      | (rw [decide_eq_true q'] at h5; exact absurd h5 (by decide))
      | (simp at h5; lia)
  cases hwl with
  | cons w1 w2 =>
    cases w2
    cases w1 with
    | list ho hall => exact ⟨_, _, ns, rfl, rfl, ho, ints_of_wellAll ns _ hall, hlen⟩

theorem post_true (l : OpenLaw) (args : List WData) : l.row.toRowW.claim.post args (.bool true) args = true :=
  postW_of (r := l.row.toRowW) (X := (true == true))
    (show WShape.has [] (.bool true) .bool = true by first | rfl | decide | simp [WShape.has, WShape.arms, WShape.armsAll])
    (show (WTm.eq .res (.lit (.bool true))).value [] { args := args, res := some (.bool true), after := args } = some (.bool (true == true)) from w_eq_bool (w_res rfl) w_lit) rfl

/-! ### the attachment: holds_open's last premise (the goal 'hc' behind k_head) from a wpAny of the law's body -/

/-- the same from a codeAny of the CALL (for a layer whose function contracts speak of calls) -/
theorem attach_call {l : OpenLaw} {n : Nat} {q : Program} {loose : List Str} {XP : (Str → Option Value) → Heap → Prop} {YP : World → Heap → Prop} {d : DefRec}
    (hn : l.most = some n) (hdf : d.params.defaults = [])
    (call : ∀ (w : World) (s₀ s₁ : Shared) (mg mb : Str → Option Value) (fa : Addr) (o : Obj) (pm cd doc : Value) (a : Addr) (vs : List Value) (ns : List Int),
      Ground q loose [] XP w s₀ mg mb s₁.heap → YP w s₁.heap →
      s₁.heap.get? fa = some o → o.data = .func (docDef d.name d.params d.body d.scope pm cd doc) → s₁.heap.CodeRec cd d.name → mg d.name = some (.ref fa) →
      s₁.heap.get? a = some { cls := .type "list", data := .seq vs.toArray } → IntsAre vs ns → ns.length ≤ n → s₁.gens = #[] →
      codeAny (model l.prog w) callerA (.call (.ref fa) ⟨[.ref a], []⟩) (fun r s' => r = .ok (.ret (.bool true)) ∧ OldK s₁.heap s'.heap ∧ s'.os = s₁.os ∧ AllBare s'.gens) s₁) :
    WalkO q loose XP YP l.row.toRowW d [] (fun f vs => PySem.call f vs) := by
  intro w s₀ s₁ mg mb G Y fa o pm cd doc dV kV ho hd hcd hD hmg hg args vals as hpre hlay hrd hwl hlo
  obtain rfl : dV = .none := Dflts.none hD hdf
  obtain rfl : kV = .none := Dflts.noKw hD
  obtain ⟨a, vs, ns, rfl, rfl, hobj, hints, hlen⟩ := script_of hn hpre hwl
  refine enter_call (codeAny_mono (call w s₀ s₁ mg mb fa o pm cd doc a vs ns G Y ho (fd_plain hd) hcd hmg hobj hints hlen hg) fun r s' hq => ?_)
  obtain ⟨rfl, h2, h3, h4⟩ := hq
  exact ⟨.inl ⟨.bool true, .bool true, [], rfl, fun _ => rfl, .bool true, post_true l _, fun _ => ⟨List.Pairwise.nil, fun _ hm => (nomatch hm)⟩⟩, h2, h3, h4⟩


/-! ### rules over ANY heap (no ledger) from facts about the written part K: the library's own take a ledger (News) for what they write -/
section
variable {prog : Program} {w : World} {A : Around} {E : Value → Shared → Prop} {s : Shared} {K : Frag}





/-! the whole heap as the ledger: makes every rule that writes through a ledger a rule over any heap -/

end
end Att

namespace L2
open PySem PySem.Spec PyProof.Rows

theorem vals_ints : ∀ {vs : List Value} {ns : List Int}, IntsAre vs ns → Vals (ns.map V.int) vs
  | _, _, .nil => .nil
  | _, _, .cons n t h => .cons ⟨t, rfl⟩ (vals_ints h)

/-- nothing is tracked but the script, known to the object (or it is an object of the module) -/
noncomputable def Only (H : Hp) : Prop := ∀ b, H b = none ∨ ∃ o xs, H b = some (.frz o (.lst xs))

/-- THE HEAD: the law's promise, at the heap behind the top. F, the promise of the law's def, may use that base is part of the heap (so K.In base, base.Ns mainGlobals mg stand in Mod) -/
theorem law_call {P : Program} {w : World} {K : PySem.W.Frag} {mg mb : Str → Option Value} {CX : CXT} {k : Nat} {fa a : Addr} {fd : FuncData} {x : Str} {sp : Sp} {s₁ : Shared} {vs : List Value} {ns : List Int}
    (KX : K.In s₁.heap) (hns : s₁.heap.Ns mainGlobals mg) (hb : s₁.heap.Ns builtinsNs mb) (hbb : ∀ x : Str, x ≠ "__name__" → mb x = bootBuiltins x) (hlim : s₁.heap.NoLimit) (hg : s₁.gens = #[])
    (ha : s₁.heap.get? a = some { cls := .type "list", data := .seq vs.toArray }) (hi : IntsAre vs ns) (hl : ns.length ≤ sizeLine) (hr : Room k callerA)
    (F : ∀ base : Heap, K.In base → base.Ns mainGlobals mg → FnOk P w K mg base CX k fa fd [x] sp) (hbind : ∀ (s : Shared) (u : Value), BindsTo s fd ⟨[u], []⟩ [(x, u)])
    (hsp : ∀ H : Hp, Only H → SqL K H a (ns.map V.int) → sp [.ref a] H (fun v _ => v = .bl true) fun _ _ _ => False)
    (hCX : ∀ H e s', CX [] H s₁ (fun _ _ _ => False) e s' → False) :
    codeAny (model P w) callerA (.call (.ref fa) ⟨[.ref a], []⟩) (fun r s' => r = .ok (.ret (.bool true)) ∧ OldK s₁.heap s'.heap ∧ s'.os = s₁.os ∧ AllBare s'.gens) s₁ := by
  have rv := vals_ints hi
  have lenV := hi.length
  -- from an abstract heap in which nothing but the script may be tracked
  have core : ∀ H : Hp, Only H → SqL K H a (ns.map V.int) → HOk P w H s₁.heap → (∀ b, H b ≠ none → b = a) → (H a ≠ none → K.lookup a = none) →
      codeAny (model P w) callerA (.call (.ref fa) ⟨[.ref a], []⟩) (fun r s' => r = .ok (.ret (.bool true)) ∧ OldK s₁.heap s'.heap ∧ s'.os = s₁.os ∧ AllBare s'.gens) s₁ := by
    intro H hO hS hok hA hK
    have base_of : ∀ {b : Addr} {o : Obj}, s₁.heap.get? b = some o → H b = none → (hidT s₁.heap H).get? b = some o := fun e n => hidT_get e n
    have noA : ∀ {b : Addr} {o : Obj} {es : Array DictEntry} {ep : Nat}, s₁.heap.get? b = some o → o.data = .dict es ep → H b = none := fun {b o es ep} e d => by
      cases q : H b with
      | none => rfl
      | some u =>
        have e' : b = a := hA b (by rw [q]; simp)
        subst e'
        rw [ha] at e; cases e
        have d' : Data.seq vs.toArray _ = Data.dict es ep := d
        cases d'
    have nsK : ∀ {b : Addr} {m : Str → Option Value}, s₁.heap.Ns b m → (hidT s₁.heap H).Ns b m := fun {b m} ⟨o, es, ep, e, d, r⟩ => ⟨o, es, ep, base_of e (noA e d), d, r⟩
    have hKb : K.In (hidT s₁.heap H) := fun b o e => base_of (KX b o e) (by
      cases q : H b with
      | none => rfl
      | some u =>
        have e' : b = a := hA b (by rw [q]; simp)
        subst e'
        rw [hK (by rw [q]; simp)] at e; cases e)
    have hM : Mod K mg (hidT s₁.heap H) := ⟨hKb, nsK hns, ⟨mb, nsK hb, hbb⟩, let ⟨mc, h1, h2⟩ := hlim; ⟨mc, nsK h1, h2⟩⟩
    have e0 : Env0 P w K mg (hidT s₁.heap H) callerA [] s₁ H := ⟨rfl, hM, fun b o e => of_hidT e, Nat.le_of_eq (hidT_size _ _), trivial, fun b hb => absurd (show b ∈ ([] : List Addr) from hb) (by simp), hok, .of_eq hg⟩
    refine codeAny_mono ((F _ hKb (nsK hns)).run callerA [] s₁ H ⟨[.ref a], []⟩ [.ref a] [.ref a] _ _ hr e0 (hbind s₁ (.ref a)) (.cons rfl .nil) (hsp H hO hS)) fun r s' h => ?_
    cases r with
    | error e => exact (hCX H e s' h).elim
    | ok fl =>
      cases fl with
      | next => exact False.elim h
      | brk => exact False.elim h
      | cont => exact False.elim h
      | ret u =>
        obtain ⟨v, H', os, bare, un, hok', r', q⟩ := h
        have q' : v = .bl true := q
        subst q'
        obtain rfl : u = Value.bool true := r'
        refine ⟨rfl, OldK.of_keep fun b o e => ?_, os, bare⟩
        cases q : H b with
        | none => exact un.keep b o e q (by intro z; exact absurd (show b ∈ ([] : List Addr) from z) (by simp)) (by simp)
        | some u =>
          rcases hO b with z | ⟨ob, xs, z⟩
          · rw [q] at z; cases z
          · have z2 := un.frzs b ob _ z
            obtain ⟨e1, _⟩ := hok b _ z
            obtain ⟨e2, _⟩ := hok' b _ z2
            rw [e] at e1; cases e1
            exact e2
  cases hk : K.lookup a with
  | some o =>
    -- the script is one of the module's own objects
    have e := KX a o hk
    rw [ha] at e
    cases e
    refine core (fun _ => none) (fun _ => .inl rfl) (.inr ⟨_, vs.toArray, _, hk, rfl, rfl, rfl, by rw [List.size_toArray, lenV]; exact hl, by simpa using rv⟩) (fun b u z => by have z' : (none : Option HO) = some u := z; cases z') (fun b z => absurd rfl z) fun z => absurd rfl z
  | none =>
    refine core (fun b => if b = a then some (.frz { cls := .type "list", data := .seq vs.toArray } (.lst (ns.map V.int))) else none) (fun b => ?_) (.inl (.inr ⟨{ cls := .type "list", data := .seq vs.toArray }, if_pos rfl⟩)) (fun b u z => ?_) (fun b z => ?_) fun _ => hk
    · by_cases hb : b = a
      · exact .inr ⟨_, _, if_pos hb⟩
      · exact .inl (if_neg hb)
    · by_cases hb : b = a
      · have z' := (if_pos hb).symm.trans z
        cases z'
        subst hb
        exact ⟨ha, by rw [List.length_map]; exact hl, vs, _, rv, ha⟩
      · have z' := (if_neg hb).symm.trans z
        cases z'
    · by_cases hb : b = a
      · exact hb
      · exact absurd (if_neg hb) z
end L2

namespace L2
open PySem PySem.Spec PyProof.Rows


/-- the goal that k_head leaves (case hc), from the law's promise. F gives the function object fd (K's own) once, then the promise over every base -/
theorem walk_of {l : PySem.W.OpenLaw} {n k : Nat} {q : Program} {loose : List Str} {XP : (Str → Option Value) → Heap → Prop} {YP : World → Heap → Prop} {d : DefRec} {K : Params → PySem.W.Frag} {CX : World → CXT} {sp : World → Sp} {x : Str}
    (hn : l.most = some n) (hn2 : n ≤ sizeLine) (hdf : d.params.defaults = []) (hr : Room k callerA)
    (hY : ∀ (w : World) (h : Heap), YP w h → (K w.params).In h)
    (F : ∀ (w : World) (mg : Str → Option Value) (fa : Addr) (h : Heap), (K w.params).In h → h.Ns mainGlobals mg → mg d.name = some (.ref fa) →
      ∃ fd : FuncData, (∀ (s : Shared) (u : Value), BindsTo s fd ⟨[u], []⟩ [(x, u)]) ∧
        ∀ base : Heap, (K w.params).In base → base.Ns mainGlobals mg → FnOk l.prog w (K w.params) mg base (CX w) k fa fd [x] (sp w))
    (hsp : ∀ (w : World) (H : Hp) (a : Addr) (ns : List Int), ns.length ≤ n → Only H → SqL (K w.params) H a (ns.map V.int) → sp w [.ref a] H (fun v _ => v = .bl true) fun _ _ _ => False)
    (hCX : ∀ (w : World) (H : Hp) (s : Shared) (e : Value) (s' : Shared), CX w [] H s (fun _ _ _ => False) e s' → False) :
    PySem.W.WalkO q loose XP YP l.row.toRowW d [] (fun f vs => PySem.call f vs) := by
  refine Att.attach_call hn hdf fun w s₀ s₁ mg mb fa o pm cd doc a vs ns G Y ho hd hcd hmg hobj hints hlen hg => ?_
  have KX := hY w _ Y
  obtain ⟨fd, hb, hF⟩ := F w mg fa _ KX G.T.g hmg
  exact law_call KX G.T.g G.T.b G.T.builtins G.T.nolimit hg hobj hints (Nat.le_trans hlen hn2) hr hF hb (fun H hO hS => hsp w H a ns hlen hO hS) fun H e s' => hCX w H s₁ e s'
end L2

/-! SHORT WORDS over the layer: a def of the text, its body, what a loop and a test want. -/
namespace L2
open PySem PySem.Spec PyProof.Rows

/-! ### the text by places -/
noncomputable def defArgs (s : Stmt) : Arguments := match s with
  | .FunctionDef _ a _ _ _ _ _ _ _ _ => a
  | _ => { posonlyargs := [], args := [], vararg := none, kwonlyargs := [], kw_defaults := [], kwarg := none, defaults := [] }
noncomputable def defBody (s : Stmt) : List Stmt := match s with
  | .FunctionDef _ _ b _ _ _ _ _ _ _ => b
  | _ => []
noncomputable def defScope (s : Stmt) : Scope := match s with
  | .FunctionDef _ _ _ _ _ _ sc _ _ _ => sc
  | _ => { kind := .function, names := [], isGenerator := false, isCoroutine := false }

/-! ### no exception leaves a def -/
noncomputable abbrev CX0 : CXT := fun _ _ _ _ _ _ => False
noncomputable abbrev E0 : XK := fun _ _ _ => False
theorem pass0 {X : Cx} : Passes CX0 X E0 := fun _ _ _ _ _ _ _ h => h.elim

/-! ### a def (or method) of the text as it stands behind the top -/
structure Fun (K : PySem.W.Frag) (x qual : Str) (st : Stmt) (f : Addr) (fd : FuncData) : Prop where
  ex : ∃ (oc : Value) (od : Option Addr) (kV doc pm : Value) (an : Option Addr) (cdv ct : Value) (osl : Array (Option Value)),
    fd = PySem.W.fnOf x qual (defArgs st) (defBody st) (defScope st) .none kV doc pm an cdv ct ∧ K.lookup f = some ⟨oc, od, .func fd, osl⟩ ∧ PySem.W.codeIn K cdv qual = true
  kp : PySem.W.keepIn K (.ref f) = true
section
variable {P : Program} {w : World} {K : PySem.W.Frag} {mg : Str → Option Value} {base : Heap}
/-- THE RULE for a def: its body as a term of rules, and the reading of that term -/
theorem Fun.ok {x qual : Str} {st : Stmt} {f : Addr} {fd : FuncData} {N ps : List Str} {k : Nat} {sp : Sp} (F : Fun K x qual st f fd) (S : FnScope N ps (defScope st)) (len : ∀ vs H Q E, sp vs H Q E → vs.length = ps.length)
    (hbody : ∀ (cdv : Value) (A : Around) (outer : List Env) (s : Shared) (H : Hp) (vs : List V) (Q : VK) (E : XK), Room k (A.deeper (envOfC qual (defScope st) s.heap.objs.size f cdv)) → sp vs H Q E →
      ∃ t, PSs (cxOf CX0 P w K mg base N qual (defScope st) f cdv A outer s H E).nox (defBody st) t ∧ t { nx := fun _ H' => Q .non H', rt := Q } (start N vs) H) : FnOk P w K mg base CX0 (k + 1) f fd ps sp := by
  obtain ⟨oc, od, kV, doc, pm, an, cdv, ct, osl, rfl, lk, hcd⟩ := F.ex
  refine fn_of lk hcd S len fun A outer s H vs Q E hr hsp => ?_
  obtain ⟨t, h, q⟩ := hbody cdv A outer s H vs Q E hr hsp
  exact ⟨t, h.nox, q⟩
/-- how its arguments bind (no defaults): h is «fun _ _ _ _ _ _ us hl => match us, hl with | [_, _], _ => rfl», one _ a parameter -/
theorem Fun.binds {x qual : Str} {st : Stmt} {f : Addr} {fd : FuncData} {ps : List Str} (F : Fun K x qual st f fd)
    (h : ∀ (kV doc pm : Value) (an : Option Addr) (cdv ct : Value) (us : List Value), us.length = ps.length → bindArgs (PySem.W.fnOf x qual (defArgs st) (defBody st) (defScope st) .none kV doc pm an cdv ct) ⟨us, []⟩ = pure (ps.zip us)) : Binds K fd ps [] := by
  obtain ⟨oc, od, kV, doc, pm, an, cdv, ct, osl, rfl, lk, hcd⟩ := F.ex
  exact .all (h kV doc pm an cdv ct)
theorem fun_mk {x qual : Str} {st : Stmt} {f : Addr} {oc : Value} {od an : Option Addr} {osl : Array (Option Value)} {kV doc pm cdv ct : Value} (l : K.lookup f = some ⟨oc, od, .func (PySem.W.fnOf x qual (defArgs st) (defBody st) (defScope st) .none kV doc pm an cdv ct), osl⟩)
    (c : PySem.W.codeIn K cdv qual = true) (k : PySem.W.keepIn K (.ref f) = true) : Fun K x qual st f (PySem.W.fnOf x qual (defArgs st) (defBody st) (defScope st) .none kV doc pm an cdv ct) := ⟨⟨oc, od, kV, doc, pm, an, cdv, ct, osl, rfl, l, c⟩, k⟩
end
theorem hu_of {A : Around} {k : Nat} (hr : Room k A) : A.units + 1 < cLine := Nat.lt_of_le_of_lt (Nat.add_le_add_left (by decide : 1 ≤ 64) _) hr.units

/-! ### expressions in short: the name that stands in the i-th slot -/
section
variable {X : Cx}
theorem pv (i : Nat) {x : Str} {pos : Pos} (hN : X.N[i]? = some x := by rfl) (hv : Vis X.env.scope x := by first | exact Or.inl rfl | exact Or.inr (Or.inl rfl) | exact Or.inr (Or.inr rfl)) (hd : (x == ("__debug__" : Str)) = false := by decide)
    (hcd : (x == ("__classdict__" : Str)) = false := by decide) : PE X (.Name x pos) (tVar i) := pe_var hN hv hd hcd
end

/-! ### tests -/
theorem iteF {A B : Prop} (h : B) : if false = true then A else B := by
  rw [if_neg Bool.false_ne_true]
  exact h
theorem iteT {A B : Prop} (h : A) : if true = true then A else B := by
  rw [if_pos rfl]
  exact h
theorem ite2 {c A B : Prop} [Decidable c] (h1 : c → A) (h2 : ¬ c → B) : if c then A else B := by
  by_cases h : c
  · rw [if_pos h]
    exact h1 h
  · rw [if_neg h]
    exact h2 h
theorem iteNS {c A B : Prop} [Decidable c] (hc : c) (h : B) : if (!decide c) = true then A else B := by
  rw [decide_eq_true hc]
  exact iteF h

/-! ### heaps -/
/-- all that was tracked is as it was -/
noncomputable def Same (H H' : Hp) : Prop := ∀ b o, H b = some o → H' b = some o
theorem Same.refl (H : Hp) : Same H H := fun _ _ h => h
theorem Same.trans {H H1 H2 : Hp} (a : Same H H1) (b : Same H1 H2) : Same H H2 := fun c o h => b c o (a c o h)
theorem Same.free {H H' : Hp} (e : Same H H') {l : Addr} (h : H' l = Option.none) : H l = Option.none := by
  cases q : H l with
  | none => rfl
  | some o =>
    rw [e l o q] at h
    cases h

end L2

set_option maxHeartbeats 4000000
namespace L2
open PySem PySem.Spec PyProof.Rows
section
variable {X : Cx} {a b c d : Expr} {ta tb tc td : TE} {pos : Pos}
/-- a op1 b op2 c op3 d -/
noncomputable def tChain3 (r r' r'' : R2) (ta tb tc td : TE) : TE := fun σ H Q => ta σ H fun x H1 => tb σ H1 fun y H2 => r x y H2 fun z H3 => ∃ k, z = .bl k ∧
  (if k = true then tc σ H3 fun w' H4 => r' y w' H4 fun z' H5 => ∃ k', z' = .bl k' ∧ (if k' = true then td σ H5 fun q H6 => r'' w' q H6 Q else Q (.bl false) H5) else Q (.bl false) H3)
theorem pt_chain3 {op op' op'' : CmpOp} {r r' r'' : R2} (ho : OpR X (compareOp op) r) (ho' : OpR X (compareOp op') r') (ho'' : OpR X (compareOp op'') r'') (ha : PE X a ta) (hb : PE X b tb) (hc : PE X c tc) (hd : PE X d td)
    (hm : lastMarks [op, op', op''] [b, c, d] = false := by with_unfolding_all rfl) : PT X (.Compare a [op, op', op''] [b, c, d] pos) (tTest (tChain3 r r' r'' ta tb tc td)) := by
  intro pins s σ H Q I h
  refine isTrue_chain (thn (ha pins s σ H _ I h) fun v s1 ⟨x, H1, I1, r1, q1⟩ => test_link (thn (hb pins s1 σ H1 _ I1 q1) fun u s2 ⟨y, H2, I2, r2, q2⟩ =>
    thn (ho pins s2 σ H2 x y v u _ I2 r1 r2 q2) fun d s3 ⟨z, H3, I3, r3, k, e, q3⟩ => ?_)) hm
  subst e
  cases r3
  refine wpAny_truthy_bool ?_
  cases k with
  | false =>
    obtain ⟨k', e', q'⟩ := q3
    cases e'
    exact ite_ff ⟨H3, I3, q'⟩
  | true =>
    refine ite_tt (test_link (thn (hc pins s3 σ H3 _ I3 q3) fun w' s4 ⟨z', H4, I4, r4, q4⟩ => thn (ho' pins s4 σ H4 y z' u w' _ I4 r2 r4 q4) fun d' s5 ⟨z2, H5, I5, r5, k2, e2, q5⟩ => ?_))
    subst e2
    cases r5
    refine wpAny_truthy_bool ?_
    cases k2 with
    | false =>
      obtain ⟨k', e', q'⟩ := q5
      cases e'
      exact ite_ff ⟨H5, I5, q'⟩
    | true =>
      refine ite_tt (test_last (thn (hd pins s5 σ H5 _ I5 q5) fun w2 s6 ⟨z3, H6, I6, r6, q6⟩ => thn (ho'' pins s6 σ H6 z' z3 w' w2 _ I6 r4 r6 q6) fun d2 s7 ⟨z4, H7, I7, r7, k3, e3, q7⟩ => ?_))
      subst e3
      cases r7
      exact wpAny_truthy_bool ⟨H7, I7, q7⟩
end

/-! ### enumerate over a list, its pairs taken apart -/
noncomputable def Ite (K : PySem.W.Frag) (a : Addr) : It :=
  ⟨fun i H => ∃ xs x, SqL K H a xs ∧ xs[i]? = some x,
   fun i H x H' => ∃ p v, x = .ref p ∧ H p = none ∧ H' = upd H p (.tup [.int (i : Nat), v]) ∧ ∀ xs, SqL K H a xs → xs[i]? = some v,
   fun i H => ∃ xs, SqL K H a xs ∧ xs.length ≤ i⟩
theorem turn_enum {P : Program} {w : World} {K : PySem.W.Frag} {es : List Expr} {k : Nat} {tp : Pos} (a e it : Addr) (hne : e ≠ it) :
    Turn P w K (.Tuple es k tp) (Ite K a) [e, it] e (fun i h => (∃ old, IsEnum h e it ((i : Nat) : Int) old) ∧ h.IsListIter it a i) where
  mem := by simp
  obj := fun i h st b hb => by
    obtain ⟨⟨old, he⟩, o, hi, c, d⟩ := st
    rcases List.mem_cons.mp hb with q | hb
    · subst q
      exact ⟨_, he, fun v z => by
        have z' : Data.fields _ = Data.cell v := z
        cases z'⟩
    · have q : b = it := by simpa using hb
      subst q
      exact ⟨o, hi, fun v z => by rw [d] at z; cases z⟩
  keep := fun i h h' st k => by
    obtain ⟨⟨old, he⟩, hi⟩ := st
    exact ⟨⟨old, k e (by simp) _ he⟩, hi.at fun o x => k it (by simp) o x⟩
  item := by
    intro X hP hw hK hc i pins s σ H E I hf st hg
    subst hP hw hK
    obtain ⟨xs, x, hq, hx⟩ := hg
    obtain ⟨its, rv, p, hz⟩ := I.list hq
    obtain ⟨u, hu, ru⟩ := rv.get hx
    obtain ⟨⟨old, he⟩, hit⟩ := st
    have fe := hf e (by simp)
    have fi := hf it (by simp)
    refine wpAny_pyNext_enum_item he hit p.isList (x := u) (by simpa using hu) hne fun h' ho hit' ht hsz hk => ?_
    refine ⟨_, rfl, ?_⟩
    refine wpAny_letOwnedTupleGo_enum (s := { s with heap := h', toks := s.toks + 1 }) ho fun h2 he2 hs2 => ?_
    have hel : e < s.heap.objs.size := Heap.lt_size he
    have keep2 : ∀ b o, b ≠ e → b ≠ it → s.heap.get? b = some o → h2.get? b = some o := fun b o h1 h3 h4 => (hs2.2 b h1).trans (hk b o h1 h3 h4)
    have hT : h2.get? s.heap.objs.size = some { cls := .type "tuple", data := .seq #[.int i s.toks, u] } := (hs2.2 _ (Nat.ne_of_gt hel)).trans ht
    have hn : H s.heap.objs.size = none := I.hok.fresh (Nat.le_refl _)
    have ne2 : ∀ b o, H b = some o → b ≠ e ∧ b ≠ it := fun b o hb => ⟨ne_of_none hb fe.1, ne_of_none hb fi.1⟩
    have hok : HOk X.prog X.w (upd H s.heap.objs.size (.tup [.int (i : Nat), x])) h2 := by
      intro b o hb
      by_cases q : b = s.heap.objs.size
      · subst q
        rw [upd_same] at hb
        cases hb
        exact ⟨by show 2 ≤ sizeLine; decide, [.int i s.toks, u], .cons ⟨_, rfl⟩ (.cons ru .nil), ⟨_, hT, rfl, _, rfl⟩⟩
      · rw [upd_ne q] at hb
        refine (I.hok b o hb).stay (fun b' o' hb' e' => ?_) (fun b' hb' => ?_) (fun b' xs' hb' => ?_)
        · rcases hb' with q' | q'
          · subst q'
            exact keep2 _ _ (ne2 _ _ hb).1 (ne2 _ _ hb).2 e'
          · exact keep2 _ _ (ne2 _ _ q').1 (ne2 _ _ q').2 e'
        · rw [upd_ne (ne_of_none hb' hn)]; exact hb'
        · rw [upd_ne (ne_of_none hb' hn)]; exact hb'
    have I2 : Inv X pins σ (upd H s.heap.objs.size (.tup [.int (i : Nat), x])) { s with heap := h2, toks := s.toks + 1 } := by
      refine I.step (ch := [e, it]) (g' := s.gens) (d' := s.drawn) (t' := s.toks + 1) ?_ ?_ ?_ ?_ ?_ ?_ ?_ ?_ ?_ hok I.bare
      · intro b hb
        rcases List.mem_cons.mp hb with q | hb
        · subst q; exact ⟨fe.2.2.2.1, fe.2.1, fe.2.2.2.2.1, fe.2.2.2.2.2⟩
        · have q : b = it := by simpa using hb
          subst q; exact ⟨fi.2.2.2.1, fi.2.1, fi.2.2.2.2.1, fi.2.2.2.2.2⟩
      · intro b o _ _ hb h1 _
        exact keep2 b o (fun q => hb (by simp [q])) (fun q => hb (by simp [q])) h1
      · intro b o _ _ hb h1 _
        exact ⟨o.slots, keep2 b o (fun q => hb (by simp [q])) (fun q => hb (by simp [q])) h1⟩
      · intro b o hb h1 h3
        rw [upd_ne (Nat.ne_of_lt (Heap.lt_size h1))]; exact h3
      · intro b o hb h1
        exact ⟨o, keep2 b o (fun q => hb (by simp [q])) (fun q => hb (by simp [q])) h1⟩
      · intro b xs' hb; rw [upd_ne (ne_of_none hb hn)]; exact hb
      · intro b o u' hb; rw [upd_ne (ne_of_none hb hn)]; exact hb
      · intro b ps hb; refine ⟨#[], ?_⟩; rw [upd_ne (ne_of_none hb hn)]; simpa using hb
      · intro m hm
        exact hm.at' fun o e' => keep2 _ o (Ne.symm fe.2.1) (Ne.symm fi.2.1) e'
    refine ⟨.ref s.heap.objs.size, _, I2, rfl, ⟨_, x, rfl, hn, rfl, fun ys hy => by rw [I.list_inj hy hq]; exact hx⟩, ⟨⟨u, ?_⟩, hit'.at fun o y => (hs2.2 it hne.symm).trans y⟩, fun b hb => ?_⟩
    · have z := he2
      simpa using z
    · rw [upd_ne]
      · exact (hf b hb).1
      · rcases List.mem_cons.mp hb with q | hb
        · subst q; exact Nat.ne_of_lt hel
        · have q : b = it := by simpa using hb
          subst q
          obtain ⟨o, ho', _⟩ := hit
          exact Nat.ne_of_lt (Heap.lt_size ho')
  done := by
    intro X hP hw hK hc i pins s σ H E I hf st hg
    subst hP hw hK
    obtain ⟨xs, hq, hx⟩ := hg
    obtain ⟨its, rv, p, hz⟩ := I.list hq
    obtain ⟨⟨old, he⟩, hit⟩ := st
    obtain ⟨f0, f1, f2, f3, f4, f5⟩ := hf it (by simp)
    have hl := rv.length
    exact wpAny_pyNext_enum_end (I.ok.hd hc) he hit p.isList (by simp; lia) fun h' eb => ⟨rfl, I.turned (t' := s.toks) (fun b o hb e => eb b o hb e) f0 f1 f3 f4 f5⟩
  self := fun _ _ _ _ _ st h => by
    obtain ⟨⟨old, he⟩, _⟩ := st
    exact wpAny_pyIter_enum he h
section
variable {X : Cx}
noncomputable def iEnum (K : PySem.W.Frag) (ta : TA) : TI := fun σ H R => ta σ H fun vs H1 => ∃ a, vs = [.ref a] ∧ (∃ xs, SqL K H1 a xs) ∧ R (Ite K a) H1
theorem pi_enum {es : List Expr} {k : Nat} {tp : Pos} {a : Expr} {ta : TA} {p pos : Pos} (hg : Gl X "enumerate") (hm : X.mg "enumerate" = none) (ha : PA X [a] ta) (hs : starEach [a] X.env = [(false, eval a X.env)] := by rfl) :
    PI X (.Tuple es k tp) (.Call (.Name "enumerate" p) [a] [] pos) (iEnum X.K ta) := by
  intro pins s σ H R I h
  refine Call_ (ld_blt I hg hm boot_enumerate (PyProof.Rows.callWith_type1 (thn (ha pos pins s σ H _ I h) fun us s1 ⟨vs, H1, I1, r1, q1⟩ => ?_) hs rfl))
  obtain ⟨a', e, ⟨xs, hq⟩, q⟩ := q1
  subst e
  cases r1 with
  | cons r rr =>
    cases rr
    cases r
    obtain ⟨its, rv, p, hz⟩ := I1.list hq
    refine call_enumerate_list p.isList fun h' he hi hsz hk => ?_
    refine wpAny_pyIter_enum (s := { s1 with heap := h' }) he ?_
    have I2 : Inv X pins σ H1 { s1 with heap := h' } := I1.kept (t' := s1.toks) hk
    refine ⟨s1.heap.objs.size + 1, [s1.heap.objs.size + 1, s1.heap.objs.size], _, _, H1, rfl, I2, turn_enum a' _ _ (Nat.succ_ne_self _), ⟨⟨_, he⟩, hi⟩, fun b hb => ?_, q⟩
    rcases List.mem_cons.mp hb with e | hb
    · subst e; exact I1.fpOk (Nat.le_succ _) (I1.hok.fresh (Nat.le_succ _))
    · have e : b = s1.heap.objs.size := by simpa using hb
      subst e; exact I1.fpOk (Nat.le_refl _) (I1.hok.fresh (Nat.le_refl _))
end
theorem for_enum {K : PySem.W.Frag} {a : Addr} {xs : List V} {g : TG} {tb : TS} {D : Ends} {σ : St} {H : Hp} (Pv : Nat → St → Hp → Prop) (h0 : Pv 0 σ H) (hl : ∀ i σ H, i ≤ xs.length → Pv i σ H → SqL K H a xs)
    (hs : ∀ i x p σ H, xs[i]? = some x → Pv i σ H → H p = none → g (.ref p) σ (upd H p (.tup [.int (i : Nat), x])) fun σ2 H2 => tb { D with nx := Pv (i + 1), ct := Pv (i + 1), bk := D.nx } σ2 H2) (hd : ∀ σ H, Pv xs.length σ H → D.nx σ H) :
    ∃ W : Nat → Nat → St → Hp → Prop, (∃ m, W 0 m σ H) ∧ ∀ i m σ H, W i m σ H →
      ((Ite K a).stop i H ∧ D.nx σ H) ∨ ((Ite K a).go i H ∧ ∃ N : St → Hp → Prop, (∀ σ' H', N σ' H' → ∃ m', m' < m ∧ W (i + 1) m' σ' H') ∧ ∀ x H', (Ite K a).yld i H x H' → g x σ H' fun σ2 H2 => tb { D with nx := N, ct := N, bk := D.nx } σ2 H2) := by
  refine ⟨fun i m σ H => m = xs.length - i ∧ i ≤ xs.length ∧ Pv i σ H, ⟨xs.length, by simp, Nat.zero_le _, h0⟩, ?_⟩
  rintro i m σ H ⟨rfl, hi, p⟩
  have q := hl i σ H hi p
  by_cases hlt : i < xs.length
  · refine .inr ⟨⟨xs, xs[i], q, by simp [hlt]⟩, Pv (i + 1), fun σ' H' p' => ⟨xs.length - (i + 1), by lia, rfl, hlt, p'⟩, fun x H' y => ?_⟩
    obtain ⟨t, v, e, ht, e', y⟩ := y
    subst e e'
    exact hs i v t σ _ (y xs q) p ht
  · have e : i = xs.length := by lia
    subst e
    exact .inl ⟨⟨xs, q, Nat.le_refl _⟩, hd σ H p⟩

/-! ### isinstance as a call -/
section
variable {X : Cx} {pins : List (Addr × Obj)} {σ : St} {H : Hp} {s : Shared}
end
section
variable {K : PySem.W.Frag}
end

/-! ### xs != [] -/
section
variable {X : Cx}
end
end L2

namespace L2
open PySem PySem.Spec PyProof.Rows
/-! ### a list comprehension of one clause -/
theorem Un.off {fs ex : List Addr} {H H1 : Hp} {h h1 h' : Heap} {C : Addr} (u : Un fs ex H H1 h h1) (hC : h.objs.size ≤ C) (sb : Heap.SameBut C h1 h') : Un fs ex H H1 h h' := by
  have ne : ∀ b o, h.get? b = some o → b ≠ C := fun b o e => Nat.ne_of_lt (Nat.lt_of_lt_of_le (Heap.lt_size e) hC)
  refine ⟨?_, ?_, u.free, ?_, u.tups, u.frzs, u.tbls⟩
  · intro b o e n f x
    exact (sb.2 b (ne b o e)).trans (u.keep b o e n f x)
  · intro b o e n f x
    obtain ⟨sl, z⟩ := u.slot b o e n f x
    exact ⟨sl, (sb.2 b (ne b o e)).trans z⟩
  · intro b o e x
    obtain ⟨o', z⟩ := u.there b o e x
    exact ⟨o', (sb.2 b (ne b o e)).trans z⟩
theorem HOk.off {P : Program} {w : World} {H : Hp} {h h' : Heap} {C : Addr} (x : HOk P w H h) (n : H C = none) (sb : Heap.SameBut C h h') : HOk P w H h' := fun a o e =>
  (x a o e).stay (fun b u hb q => by
    have nb : b ≠ C := by
      rcases hb with z | z
      · rw [z]; exact ne_of_none e n
      · exact ne_of_none z n
    exact (sb.2 b nb).trans q) (fun _ z => z) fun _ _ z => z
/-- the context of the block -/
noncomputable def cxLc (X : Cx) (scope : Scope) (N : List Str) (cl : List (Str × Addr)) (s : Shared) (H : Hp) (pins : List (Addr × Obj)) (fp : List Addr) : Cx where
  prog := X.prog
  w := X.w
  K := X.K
  mg := X.mg
  base := X.base
  A := X.A
  N := N
  s₀ := s
  H₀ := H
  env := compEnvC scope cl s.heap.objs.size X.env
  outer := X.stack
  stack := X.stack
  ex := fp
  fn := fun _ => false
  calm := X.calm
  pn := X.pn ++ pins
  xe := X.xe
/-- the block's names at its start: own ones, then names of the def -/
noncomputable def lcStart (own : Nat) (fr : List Nat) (σ : St) : St := List.replicate own none ++ fr.map fun k => (σ[k]?).join
structure LcFree (X : Cx) (scope : Scope) (cl : List (Str × Addr)) (N : List Str) (own : Nat) (fr : List Nat) : Prop where
  len : N.length = own + fr.length
  at_ : ∀ (j k : Nat), fr[j]? = some k → ∃ x, N[own + j]? = some x ∧ X.N[k]? = some x ∧ Vis X.env.scope x ∧ X.env.kindOf x ≠ some .local ∧ (∀ c, X.env.cells.lookup x = some c → cl.lookup x = some c) ∧
    ((relabel scope X.env).names.lookup x = some .cell ∨ (relabel scope X.env).names.lookup x = some .free)
  clo : ∀ x c, cl.lookup x = some c → X.env.cells.lookup x = some c
  has : ∀ x, ((relabel scope X.env).names.lookup x = some .cell ∨ (relabel scope X.env).names.lookup x = some .free) → ∃ c, cl.lookup x = some c
theorem lookup_mem {α : Type} {x : Str} {k : α} : ∀ {l : List (Str × α)}, l.lookup x = some k → (x, k) ∈ l
  | [], h => by cases h
  | (y, j) :: r, h => by
    rw [List.lookup_cons] at h
    cases e : x == y with
    | true =>
      rw [e] at h
      cases h
      rw [eq_of_beq e]
      exact List.mem_cons_self
    | false =>
      rw [e] at h
      exact List.mem_cons_of_mem _ (lookup_mem h)
theorem LcFree.nil {X : Cx} {scope : Scope} {N : List Str} {own : Nat} (L : List (Str × NameKind)) (hL : (relabel scope X.env).names = L) (hN : N.length = own) (h : ∀ y ∈ L, y.2 ≠ .cell ∧ y.2 ≠ .free) : LcFree X scope [] N own [] where
  len := hN
  at_ := fun j k e => by simp at e
  clo := fun x c e => by simp at e
  has := fun x e => by
    rw [hL] at e
    rcases e with e | e
    · exact absurd rfl (h _ (lookup_mem e)).1
    · exact absurd rfl (h _ (lookup_mem e)).2
/-- one name of the def -/
theorem LcFree.one {X : Cx} {scope : Scope} {N : List Str} {own k : Nat} {x : Str} {c : Addr} (L : List (Str × NameKind)) (hL : (relabel scope X.env).names = L) (hN : N.length = own + 1) (hx : N[own]? = some x) (hk : X.N[k]? = some x) (hv : X.env.scope.names.lookup x = some .cell) (hc : X.env.cells.lookup x = some c)
    (hr : L.lookup x = some .cell) (h : ∀ y ∈ L, (y.2 = .cell ∨ y.2 = .free) → y.1 = x) : LcFree X scope [(x, c)] N own [k] where
  len := hN
  at_ := fun j k' e => by
    cases j with
    | zero =>
      cases e
      refine ⟨x, hx, hk, .inr (.inl hv), ?_, fun c' e' => ?_, .inl (by rw [hL]; exact hr)⟩
      · show X.env.scope.names.lookup x ≠ some .local
        rw [hv]
        intro z
        cases z
      · rw [hc] at e'
        cases e'
        show List.lookup x [(x, c)] = some c
        simp [List.lookup_cons]
    | succ j => simp at e
  clo := fun y c' e => by
    have z := lookup_mem e
    rw [List.mem_singleton] at z
    cases z
    exact hc
  has := fun y e => by
    rw [hL] at e
    have z : y = x := by
      rcases e with e | e
      · exact h _ (lookup_mem e) (.inl rfl)
      · exact h _ (lookup_mem e) (.inr rfl)
    subst z
    exact ⟨c, by simp [List.lookup_cons]⟩
theorem lc_loop {prog : Program} {w : World} {A : Around} {R : Result → Shared → Prop} {s : Shared} {elt tg iter : Expr} {scope : Scope} {pos : Pos} {it acc : Value} {env : Env} (J : Nat → Shared → Prop)
    (turn : ∀ n s, J n s → wpAny (model prog w) A (pyNext it) (fun r s1 => match r with
      | none => R (.ok .next) s1
      | some v => wpAny (model prog w) A (letOwnedTupleGo tg it v) (fun _ s2 => wpAny (model prog w) A (assign tg env v) (fun _ s3 => wpAny (model prog w) A (eval elt env) (fun x s4 =>
          wpAny (model prog w) A (call (.builtin "list.append") [acc, x]) (fun _ s5 => ∃ m, m < n ∧ J m s5) (fun _ _ => False) s4) (fun _ _ => False) s3) (fun _ _ => False) s2) (fun _ _ => False) s1) (fun _ _ => False) s)
    (n : Nat) (h : J n s) : codeAny (model prog w) A (.compLoop (.ListComp elt [⟨tg, iter, [], 0⟩] scope pos) 0 it acc env) R s := by
  refine codeAny_loop rfl J (fun n s hI => ?_) n h
  show wpAny _ A ((compTurn (.ListComp elt [⟨tg, iter, [], 0⟩] scope pos) 0 it acc env).onRaise (fun x => do noteFrame x env; theTreesLotGoes x)) _ _ s
  refine wpAny_noted ?_
  rw [compTurn_list1]
  refine wpAny_bind (wpAny_standAt (wpAny_bind (wpAny_mono (turn n s hI) (fun r s1 h1 => ?_) fun _ _ z => z.elim)))
  cases r with
  | none => exact wpAny_pure h1
  | some v =>
    refine wpAny_bind (wpAny_mono h1 (fun _ s2 h2 => wpAny_bind (wpAny_mono h2 (fun _ s3 h3 => wpAny_bind (wpAny_bind (wpAny_mono h3 (fun x s4 h4 => wpAny_bind (wpAny_mono h4
      (fun _ s5 h5 => wpAny_pure (wpAny_pure ⟨rfl, h5⟩)) fun _ _ z => z.elim)) fun _ _ z => z.elim))) fun _ _ z => z.elim)) fun _ _ z => z.elim)
section
variable {X : Cx} {elt tg iter : Expr} {scope : Scope} {pos : Pos} {wi : TI} {g : TG} {te : TE} {N : List Str} {own : Nat} {fr : List Nat} {cl : List (Str × Addr)}
/-- the reading: D is the new list; W the word by the turn and a measure, over the block's names -/
noncomputable def tLc (wi : TI) (g : TG) (te : TE) (own : Nat) (fr : List Nat) : TE := fun σ H Q => wi σ H fun J H1 => ∀ D, H1 D = none → ∃ W : Nat → Nat → St → Hp → Prop, (∃ m, W 0 m (lcStart own fr σ) (upd H1 D (.lst []))) ∧ ∀ i m σ' H', W i m σ' H' →
  (J.stop i H' ∧ Q (.ref D) H') ∨ (J.go i H' ∧ ∀ x H2, J.yld i H' x H2 → g x σ' H2 fun σ3 H3 => te σ3 H3 fun y H4 => ∃ ys, H4 D = some (.lst ys) ∧ ys.length < sizeLine ∧ ∃ m', m' < m ∧ W (i + 1) m' σ3 (upd H4 D (.lst (ys ++ [y]))))
/-- what the block comes to: the comprehension's own objects apart -/
theorem lc_block (hx : X.xe = fun _ _ => False) (hc : X.calm = true) (F : LcFree X scope cl N own fr) (hk : scope.kind = .function) (hcell : ∀ y ∈ scope.names, y.2 ≠ .cell)
    (hg : ∀ s H pins fp, PG (cxLc X scope N cl s H pins fp) tg g) (he : ∀ s H pins fp, PE (cxLc X scope N cl s H pins fp) elt te)
    {pins : List (Addr × Obj)} {σ : St} {Q : VK} {s2 : Shared} {itv : Value} {RR : Value → Addr → Result → Shared → Prop} {E : Value → Shared → Prop}
    (h : PIE X pins σ tg (fun J H1 => ∀ D, H1 D = none → ∃ W : Nat → Nat → St → Hp → Prop, (∃ m, W 0 m (lcStart own fr σ) (upd H1 D (.lst []))) ∧ ∀ i m σ' H', W i m σ' H' →
      (J.stop i H' ∧ Q (.ref D) H') ∨ (J.go i H' ∧ ∀ x H2, J.yld i H' x H2 → g x σ' H2 fun σ3 H3 => te σ3 H3 fun y H4 => ∃ ys, H4 D = some (.lst ys) ∧ ys.length < sizeLine ∧ ∃ m', m' < m ∧ W (i + 1) m' σ3 (upd H4 D (.lst (ys ++ [y]))))) itv s2)
    (hRR : ∀ (D C : Addr) (H' : Hp) (s' : Shared), Q (.ref D) H' → (∃ m, s'.heap.Ns C m) → H' C = none → C ≠ X.env.locals → (∀ x c, X.env.cells.lookup x = some c → c ≠ C) → (∀ p ∈ X.pn ++ pins, p.1 ≠ C) → X.s₀.heap.objs.size ≤ C →
      (∀ h', Heap.SameBut C s'.heap h' → Inv X pins σ H' { s' with heap := h' }) → RR (.ref D) C (.ok .next) s') :
    wpAny (model X.prog X.w) X.A (newList []) (fun acc s3 => wpAny (model X.prog X.w) X.A (newFunctionEnv scope X.env.globals cl [] X.env.qual none .none (some X.env)) (fun cenv s4 =>
      codeAny (model X.prog X.w) X.A (.compStart (.ListComp elt [⟨tg, iter, [], 0⟩] scope pos) 0 itv acc { cenv with scope := relabel scope X.env }) (RR acc cenv.locals) s4) E s3) E s2 := by
  obtain ⟨it, fp, tn, J, H2, e, I2, T, st2, f2, q⟩ := h
  subst e
  obtain ⟨W, ⟨m0, w0⟩, turn⟩ := q s2.heap.objs.size I2.fresh
  have I3 := I2.lnew (ys := []) (its := []) (t' := s2.toks) .nil (Nat.zero_le _)
  refine wpAny_newList (items := []) ?_ (Nat.zero_le _)
  generalize hH3 : upd H2 s2.heap.objs.size (.lst []) = H3 at w0 I3
  generalize hs3 : ({ s2 with heap := s2.heap.push { cls := .type "list", data := .seq ([] : List Value).toArray }, toks := s2.toks } : Shared) = s3 at I3
  have fp2 : ∀ b ∈ fp, b < s2.heap.objs.size := fun b hb => by
    obtain ⟨o, eo, _⟩ := T.obj _ _ st2 b hb
    exact Heap.lt_size eo
  have size3 : s3.heap.objs.size = s2.heap.objs.size + 1 := by rw [← hs3]; exact Heap.size_push ..
  have old3 : ∀ b o, s2.heap.get? b = some o → s3.heap.get? b = some o := fun b o z => by rw [← hs3]; exact Heap.get?_push_of_some _ z
  have st3 : tn 0 s3.heap := T.keep _ _ _ st2 fun b _ o z => old3 b o z
  have f3 : ∀ b ∈ fp, FpOk X pins H3 b := fun b hb => ⟨by rw [← hH3, upd_ne (Nat.ne_of_lt (fp2 b hb))]; exact (f2 b hb).1, (f2 b hb).2⟩
  refine wpAny_newFunctionEnv hcell (by intro y hy; simp at hy) (fun h4 hns4 hsb4 => ?_) hk
  have hC4 : ∀ b o, s3.heap.get? b = some o → h4.get? b = some o := fun b o z => (hsb4.2 b (Nat.ne_of_lt (Heap.lt_size z))).trans (Heap.get?_push_of_some _ z)
  have above : X.s₀.heap.objs.size ≤ s3.heap.objs.size := I3.sz
  have hok' : (cxLc X scope N cl s3 H3 pins fp).Ok := by
    refine ⟨I3.ok.mod, hk, I3.ok.glob, I3.ok.blt, Nat.le_refl _, ?_, ?_, ?_, I3.ok.hd, I3.ok.frames, .inl rfl, ?_, I3.bs, Nat.le_trans I3.ok.bsz I3.sz, ?_, ?_, I3.stack, I3.stkFree⟩
    · intro x y c a b
      exact I3.ok.inj x y c (F.clo x c a) (F.clo y c b)
    · intro x z
      exact F.has x z
    · intro x c z
      cases z
    · intro b hb
      refine ⟨Nat.ne_of_lt (show b < s3.heap.objs.size by rw [size3]; exact Nat.lt_succ_of_lt (fp2 b hb)), fun x c z => (f3 b hb).2.2.2.2.1 x c (F.clo x c z)⟩
    · intro b o z hb
      rcases (f3 b hb).2.2.2.1 with q | q
      · exact I3.ok.noex b o z q
      · exact absurd (Nat.lt_of_lt_of_le (Heap.lt_size z) I3.ok.bsz) (Nat.not_lt.mpr q)
    · intro b hb hf
      rcases List.mem_cons.mp (I3.stkSub b hf) with q | q
      · exact (f3 b hb).2.1 q
      · exact (f3 b hb).2.2.1 q
  have I4 : Inv (cxLc X scope N cl s3 H3 pins fp) [] (lcStart own fr σ) H3 { s3 with heap := h4, toks := s3.toks + ([] : List (Str × Value)).length } := by
    obtain ⟨m, nm, lk⟩ := I3.loc
    refine ⟨hok', rfl, I3.bare, Un.kept hC4, ⟨_, hns4, ?_⟩, ?_, I3.hok.fresh (Nat.le_refl _), ?_, ?_, I3.hok.kept hC4, ?_⟩
    · intro i x v hi hv _
      have hge : ¬ i < own := fun z => by
        unfold lcStart at hv
        rw [List.getElem?_append_left (by rw [List.length_replicate]; exact z), List.getElem?_replicate, if_pos z] at hv
        cases hv
      have hv' : (fr.map fun k => (σ[k]?).join)[i - own]? = some (some v) := by
        unfold lcStart at hv
        rw [List.getElem?_append_right (by rw [List.length_replicate]; lia), List.length_replicate] at hv
        exact hv
      rw [List.getElem?_map] at hv'
      cases ef : fr[i - own]? with
      | none => rw [ef] at hv'; cases hv'
      | some k =>
        rw [ef] at hv'
        have hσ : σ[k]? = some (some v) := by
          have z : (σ[k]?).join = some v := Option.some.inj hv'
          cases eσ : σ[k]? with
          | none => rw [eσ] at z; cases z
          | some y => rw [eσ] at z; exact congrArg some z
        obtain ⟨x', hx1, hx2, hx3, hx4, hx5, hx6⟩ := F.at_ _ _ ef
        have ex : x' = x := by
          rw [show own + (i - own) = i by lia] at hx1
          exact Option.some.inj (hx1.symm.trans hi)
        subst ex
        obtain ⟨u, ru, lu⟩ := lk k x' v hx2 hσ hx3
        refine ⟨u, ru, .inr ⟨hx6, ?_⟩⟩
        rcases lu with ⟨z, _⟩ | ⟨_, c, zc, zi⟩
        · exact absurd z hx4
        · obtain ⟨o, zo, zr⟩ := zi
          exact ⟨c, hx5 c zc, o, hC4 _ _ zo, zr⟩
    · intro x c z
      obtain ⟨v, o, zo, zr⟩ := I3.cell x c (F.clo x c z)
      exact ⟨v, o, hC4 _ _ zo, zr⟩
    · intro x c z
      exact I3.freeC x c (F.clo x c z)
    · intro p hp
      rw [List.append_nil] at hp
      obtain ⟨p1, p2, p3, p4, p5⟩ := I3.pin p hp
      refine ⟨hC4 _ _ p1, p2, Nat.ne_of_lt (Heap.lt_size p1), fun z => ?_, p5⟩
      rcases List.mem_cons.mp (I3.stkSub _ z) with q | q
      · exact p3 q
      · exact p4 q
    · show (lcStart own fr σ).length = N.length
      rw [F.len]
      simp [lcStart]
  have f4 : ∀ {H' : Hp}, (∀ b ∈ fp, H' b = none) → ∀ b ∈ fp, FpOk (cxLc X scope N cl s3 H3 pins fp) [] H' b := fun hn b hb =>
    ⟨hn b hb, (hok'.exf b hb).1, hok'.exfs b hb, .inl hb, (hok'.exf b hb).2, fun p hp => (f3 b hb).2.2.2.2.2 p (by rw [List.append_nil] at hp; exact hp)⟩
  have loop : ∀ s5 : Shared, s5 = { s3 with heap := h4, toks := s3.toks + ([] : List (Str × Value)).length } →
      codeAny (model X.prog X.w) X.A (.compLoop (.ListComp elt [⟨tg, iter, [], 0⟩] scope pos) 0 (.ref it) (.ref s2.heap.objs.size) (compEnvC scope cl s3.heap.objs.size X.env)) (RR (.ref s2.heap.objs.size) s3.heap.objs.size) s5 := by
    rintro s5 rfl
    refine lc_loop (fun n s' => ∃ i σ' H', Inv (cxLc X scope N cl s3 H3 pins fp) [] σ' H' s' ∧ tn i s'.heap ∧ (∀ b ∈ fp, H' b = none) ∧ W i n σ' H') ?_ m0
      ⟨0, _, H3, I4, T.keep _ _ _ st3 fun b _ o z => hC4 b o z, fun b hb => (f3 b hb).1, w0⟩
    rintro n s' ⟨i, σ', H', I', st', fr', w'⟩
    rcases turn i n σ' H' w' with ⟨stop, qn⟩ | ⟨go, step⟩
    · refine thn (T.done (cxLc X scope N cl s3 H3 pins fp) rfl rfl rfl hc i [] s' σ' H' _ I' (f4 fr') st' stop) fun r s6 ⟨hr, I6⟩ => ?_
      subst hr
      refine hRR _ _ H' s6 qn ?_ I6.free ?_ ?_ ?_ above ?_
      · obtain ⟨m, nm, _⟩ := I6.loc
        exact ⟨m, nm⟩
      · exact Ne.symm (Nat.ne_of_lt I3.lt)
      · intro x c z
        obtain ⟨v, o, zo, _⟩ := I3.cell x c z
        exact Nat.ne_of_lt (Heap.lt_size zo)
      · intro p hp
        exact Nat.ne_of_lt (Heap.lt_size (I3.pin p hp).1)
      · intro h' sb
        have u : Un (frs X.stack) fp H3 H' s3.heap s6.heap := I6.base
        exact I3.call' (s' := { s6 with heap := h' }) (ch := fp) I6.os (u.off (Nat.le_refl _) sb) (I6.hok.off I6.free sb) I6.bare fun b hb => ⟨(f3 b hb).2.2.2.1, (f3 b hb).2.1, (f3 b hb).2.2.2.2.1, (f3 b hb).2.2.2.2.2⟩
    · refine thn (T.item (cxLc X scope N cl s3 H3 pins fp) rfl rfl rfl hc i [] s' σ' H' _ I' (f4 fr') st' go) fun r s6 ⟨u, hr, h6⟩ => ?_
      subst hr
      refine thn h6 fun _ s7 ⟨x, H7, I7, r7, y7, st7, fr7⟩ => ?_
      have I7' := I7.pinned (f4 fr7) (T.obj _ _ st7)
      have gg := hg s3 H3 pins fp _ s7 σ' H7 x u _ I7' r7 (step x H7 y7)
      rw [show (cxLc X scope N cl s3 H3 pins fp).xe = fun _ _ => False from hx] at gg
      refine thn gg fun _ s8 ⟨σ8, H8, I8, q8⟩ => ?_
      have ee := he s3 H3 pins fp _ s8 σ8 H8 _ I8 q8
      rw [show (cxLc X scope N cl s3 H3 pins fp).xe = fun _ _ => False from hx] at ee
      refine thn ee fun uy s9 ⟨y, H9, I9, r9, ys, e9, l9, m', hm, w9⟩ => ?_
      have aa := mt_append (X := cxLc X scope N cl s3 H3 pins fp) _ s9 σ8 H9 (.ref s2.heap.objs.size) [y] (.ref s2.heap.objs.size) [uy] (fun _ Hz => Hz = upd H9 s2.heap.objs.size (.lst (ys ++ [y]))) I9 rfl (.cons r9 .nil) ⟨_, ys, y, rfl, rfl, e9, l9, rfl⟩
      rw [show (cxLc X scope N cl s3 H3 pins fp).xe = fun _ _ => False from hx] at aa
      refine thn aa fun _ s10 ⟨v, H10, I10, _, e10⟩ => ?_
      subst e10
      refine ⟨m', hm, i + 1, σ8, _, I10.unpinned (pins := []), ?_, ?_, w9⟩
      · exact T.keep _ _ _ st7 fun b hb o z => (I10.pin (b, o) (List.mem_append_right _ (List.mem_append_right _ (mem_pinsAt hb z)))).1
      · intro b hb
        obtain ⟨o, z, d⟩ := T.obj _ _ st7 b hb
        exact (I10.pin (b, o) (List.mem_append_right _ (List.mem_append_right _ (mem_pinsAt hb z)))).2.1
  exact codeAny_compStart_list (loop _ rfl) (T.self _ 0 _ _ _ (T.keep _ _ _ st3 fun b _ o z => hC4 b o z) (loop _ rfl))
theorem pe_lc (hx : X.xe = fun _ _ => False) (hc : X.calm = true) (hi : PI X tg iter wi) (hclos : closureFor scope X.env = pure cl) (F : LcFree X scope cl N own fr) (hk : scope.kind = .function) (hcell : ∀ y ∈ scope.names, y.2 ≠ .cell)
    (hnm : ∀ y ∈ scope.names, y.2 = .local → scope.names.lookup y.1 = some .local) (hg : ∀ s H pins fp, PG (cxLc X scope N cl s H pins fp) tg g) (he : ∀ s H pins fp, PE (cxLc X scope N cl s H pins fp) elt te)
    (hs : ∀ x, foldedSetIterable iter X.env x = pure x := by intro _; rfl) : PE X (.ListComp elt [⟨tg, iter, [], 0⟩] scope pos) (tLc wi g te own fr) := by
  intro pins s σ H Q I h
  rw [eval_ListComp]
  refine wpAny_comprehension_free (use := none) rfl hs hclos hk hnm ?_
  refine thn (hi pins s σ H _ I h) fun v s1 h1 => thn h1 fun itv s2 h2 => ?_
  refine lc_block (RR := fun acc C => compPost (model X.prog X.w) X.A X.xe none (EP X pins σ Q) acc C) hx hc F hk hcell hg he h2 ?_
  intro D C H' s' q hm _ _ _ _ _ back
  obtain ⟨m, nm⟩ := hm
  exact ⟨m, nm, fun h' sb => ⟨.ref D, H', back h' sb, rfl, q⟩⟩
/-- name = [..], the store ahead of the block's end -/
theorem ps_setLc {i : Nat} {y : Str} {py spos : Pos} (hN : X.N.Nodup) (hiN : X.N[i]? = some y) (hy : Loc X.env.scope y) (hsw : swapsWith (.ListComp elt [⟨tg, iter, [], 0⟩] scope pos) (some (.Name y py)) spos.line X.env = pure true)
    (hx : X.xe = fun _ _ => False) (hc : X.calm = true) (hi : PI X tg iter wi) (hclos : closureFor scope X.env = pure cl) (F : LcFree X scope cl N own fr) (hk : scope.kind = .function) (hcell : ∀ y ∈ scope.names, y.2 ≠ .cell)
    (hnm : ∀ y ∈ scope.names, y.2 = .local → scope.names.lookup y.1 = some .local) (hg : ∀ s H pins fp, PG (cxLc X scope N cl s H pins fp) tg g) (he : ∀ s H pins fp, PE (cxLc X scope N cl s H pins fp) elt te)
    (hs : ∀ x, foldedSetIterable iter X.env x = pure x := by intro _; rfl) (hf : X.fn y = true ∨ X.env.scope.names.lookup y = some .local := by first | exact .inl rfl | exact .inr rfl | assumption) :
    PS X (.Assign [.Name y py] (.ListComp elt [⟨tg, iter, [], 0⟩] scope pos) spos) (tAsg (tLc wi g te own fr) (gName i)) := by
  intro pins s σ H D I h
  rw [exec_Assign_Name_used _ _ _ _ hsw]
  refine wpAny_bind (wpAny_standAt (wpAny_bind ?_))
  show wpAny _ X.A (do let _ ← comprehension (.ListComp elt [⟨tg, iter, [], 0⟩] scope pos) scope X.env _ (newList []) false (eval iter X.env) (some (assign (.Name y py) X.env))) _ _ s
  refine wpAny_bind (wpAny_mono (wpAny_comprehension_free (use := some (assign (.Name y py) X.env)) (Q := fun _ s' => SP X pins D .next s') rfl hs hclos hk hnm ?_) (fun _ s' hq => wpAny_pure (wpAny_pure hq)) fun _ _ z => z)
  refine thn (hi pins s σ H _ I h) fun v s1 h1 => thn h1 fun itv s2 h2 => ?_
  refine lc_block (Q := fun v H' => D.nx (σ.set i (some v)) H') (RR := fun acc C => compPost (model X.prog X.w) X.A X.xe (some (assign (.Name y py) X.env)) (fun _ s' => SP X pins D .next s') acc C) hx hc F hk hcell hg he h2 ?_
  intro L C H' s' q hm n1 n2 n3 n4 n5 back
  have I5 : Inv X pins σ H' s' := back s'.heap (Heap.SameBut.refl _ _)
  show wpAny _ X.A (assign (.Name y py) X.env (.ref L)) _ _ _
  refine wpAny_assign_Name (store_ok2 I5 hN hiN hy (v := .ref L) rfl (fun s6 I6 hsb => ?_) hf)
  obtain ⟨m, nm⟩ := hm
  obtain ⟨a, sb, ha⟩ := hsb
  have na : a ≠ C := by
    rcases ha with z | z
    · rw [z]; exact Ne.symm n2
    · exact n3 y a z
  exact ⟨m, nm.sameBut sb (Ne.symm na), fun h' sb' => ⟨_, H', I6.turned (t' := s6.toks) (fun b o hb e => (sb'.2 b hb).trans e) n1 (Ne.symm (Ne.symm n2)) (.inr n5) n3 n4, q⟩⟩
end
/-! ### rules that name the written part: for a block, whose reading may not hang on its context -/
theorem pg_tupK {X : Cx} {K : PySem.W.Frag} {pos : Pos} {es : List Expr} {k : Nat} {t : TGs} {n : Nat} (hK : X.K = K) (hc : X.calm = true) (h : PGs X es t) (hn : (assignEach es X.env).length = n := by rfl) (hst : (assignEach es X.env).findIdx? (·.1) = none := by rfl) :
    PG X (.Tuple es k pos) (gTup K n t) := hK ▸ pg_tup hc h hn hst
theorem ix_listK {X : Cx} {K : PySem.W.Frag} (hK : X.K = K) : IxR X (rIxL K) := hK ▸ ix_list
end L2

namespace L2
open PySem PySem.Spec PyProof.Rows
/-! ### what lies at a value, as plain data, for == and != -/
noncomputable def DtV (P : Program) (w : World) (H : Hp) (x : V) (d : PyData) : Prop := ∀ h, HOk P w H h → ∀ u, RelV x u → ∃ as, Reads h u d as
section
variable {P : Program} {w : World} {H H' : Hp}
theorem DtV.int (i : Int) : DtV P w H (.int i) (.int i) := fun h _ u r => by
  obtain ⟨t, rfl⟩ := r
  exact ⟨_, Reads.int i t⟩
theorem DtV.non : DtV P w H .non .none := fun h _ u r => by
  cases r
  exact ⟨_, Reads.none⟩
theorem DtV.all {h : Heap} (ok : HOk P w H h) : ∀ {xs : List V} {ds : List PyData} {us : List Value}, Paired (DtV P w H) xs ds → Vals xs us → ∃ as, ReadsAll h us ds as
  | _, _, _, .nil, .nil => ⟨_, ReadsAll.nil⟩
  | _, _, _, .cons p q, .cons r t => by
    obtain ⟨as, a⟩ := p h ok _ r
    obtain ⟨bs, b⟩ := DtV.all ok q t
    exact ⟨_, ReadsAll.cons a b⟩
theorem DtV.lst {a : Addr} {xs : List V} {ds : List PyData} (e : H a = some (.lst xs)) (p : Paired (DtV P w H) xs ds) : DtV P w H (.ref a) (.list ds) := fun h ok u r => by
  cases r
  obtain ⟨_, its, n, v, g⟩ := (show ObjOk P w H h a (.lst xs) from ok a _ e)
  obtain ⟨as, z⟩ := DtV.all ok p v
  exact ⟨_, Reads.list g rfl rfl z⟩
theorem paired_map {α β γ : Type} {F : β → γ → Prop} {f : α → β} {g : α → γ} : ∀ (l : List α), (∀ x ∈ l, F (f x) (g x)) → Paired F (l.map f) (l.map g)
  | [], _ => .nil
  | x :: r, h => .cons (h x List.mem_cons_self) (paired_map r fun y hy => h y (List.mem_cons_of_mem _ hy))
theorem DtV.ints {a : Addr} {xs : List Int} (e : H a = some (.lst (xs.map V.int))) : DtV P w H (.ref a) (.list (xs.map PyData.int)) := DtV.lst e (paired_map xs fun i _ => DtV.int i)
end
section
variable {X : Cx}
noncomputable def rEqD (P : Program) (w : World) : R2 := fun x y H Q => ∃ da db, DtV P w H x da ∧ DtV P w H y db ∧ SeqAt.shaped da = true ∧ SeqAt.shaped db = true ∧ Q (.bl (PyData.eqv da db)) H
theorem op_eqD (hu : X.A.units + 64 < cLine) : OpR X (compareOp .Eq) (rEqD X.prog X.w) := by
  intro pins s σ H x y v u Q I rx ry h
  obtain ⟨da, db, xa, xb, sa, sb, q⟩ := h
  obtain ⟨as, ra⟩ := xa _ I.hok _ rx
  obtain ⟨bs, rb⟩ := xb _ I.hok _ ry
  exact eq_dataH ra rb sa sb hu ⟨.bl _, H, I, rfl, q⟩
/-! ### sorted of a list of ints -/
end
/-! ### reversed(xs) in a for -/
section
variable {X : Cx} {tg : Expr}
end
/-! ### a comprehension, by a word over the turns -/
/-- behind a turn: the list grown by one, and the word -/
noncomputable abbrev LcEnd (Pv : Nat → St → Hp → Prop) (D : Addr) (n i : Nat) (σ : St) (y : V) (H : Hp) : Prop := ∃ ys, H D = some (.lst ys) ∧ ys.length < sizeLine ∧ ∃ m', m' < n - i ∧ (m' = n - (i + 1) ∧ i + 1 ≤ n ∧ Pv (i + 1) σ (upd H D (.lst (ys ++ [y]))))
theorem LcEnd.mk {Pv : Nat → St → Hp → Prop} {D : Addr} {n i : Nat} {σ : St} {y : V} {H : Hp} {ys : List V} (h : H D = some (.lst ys)) (hz : ys.length < sizeLine) (hi : i < n) (p : Pv (i + 1) σ (upd H D (.lst (ys ++ [y])))) : LcEnd Pv D n i σ y H :=
  ⟨ys, h, hz, n - (i + 1), by lia, rfl, hi, p⟩
section
variable {g : TG} {te : TE} {own : Nat} {fr : List Nat} {σ : St} {H : Hp} {R : Hp → Prop} {D : Addr}
theorem lc_of {J : It} {n : Nat} (Pv : Nat → St → Hp → Prop) (h0 : Pv 0 (lcStart own fr σ) (upd H D (.lst []))) (hgo : ∀ i σ H, i < n → Pv i σ H → J.go i H)
    (hs : ∀ i x H2 σ H, i < n → Pv i σ H → J.yld i H x H2 → g x σ H2 fun σ3 H3 => te σ3 H3 fun y H4 => LcEnd Pv D n i σ3 y H4) (hd : ∀ σ H, Pv n σ H → J.stop n H ∧ R H) :
    ∃ W : Nat → Nat → St → Hp → Prop, (∃ m, W 0 m (lcStart own fr σ) (upd H D (.lst []))) ∧ ∀ i m σ' H', W i m σ' H' →
      (J.stop i H' ∧ R H') ∨ (J.go i H' ∧ ∀ x H2, J.yld i H' x H2 → g x σ' H2 fun σ3 H3 => te σ3 H3 fun y H4 => ∃ ys, H4 D = some (.lst ys) ∧ ys.length < sizeLine ∧ ∃ m', m' < m ∧ W (i + 1) m' σ3 (upd H4 D (.lst (ys ++ [y])))) := by
  refine ⟨fun i m σ H => m = n - i ∧ i ≤ n ∧ Pv i σ H, ⟨n, by simp, Nat.zero_le _, h0⟩, ?_⟩
  rintro i m σ' H' ⟨rfl, hi, p⟩
  by_cases hlt : i < n
  · exact .inr ⟨hgo i σ' H' hlt p, fun x H2 y => hs i x H2 σ' H' hlt p y⟩
  · have e : i = n := by lia
    subst e
    exact .inl (hd σ' H' p)
/-- over a list that stays -/
theorem lc_list {K : PySem.W.Frag} {a : Addr} {xs : List V} (Pv : Nat → St → Hp → Prop) (h0 : Pv 0 (lcStart own fr σ) (upd H D (.lst []))) (hl : ∀ i σ H, i ≤ xs.length → Pv i σ H → SqL K H a xs)
    (hs : ∀ i x σ H, xs[i]? = some x → Pv i σ H → g x σ H fun σ3 H3 => te σ3 H3 fun y H4 => LcEnd Pv D xs.length i σ3 y H4) (hd : ∀ σ H, Pv xs.length σ H → R H) :
    ∃ W : Nat → Nat → St → Hp → Prop, (∃ m, W 0 m (lcStart own fr σ) (upd H D (.lst []))) ∧ ∀ i m σ' H', W i m σ' H' →
      ((Itl K a).stop i H' ∧ R H') ∨ ((Itl K a).go i H' ∧ ∀ x H2, (Itl K a).yld i H' x H2 → g x σ' H2 fun σ3 H3 => te σ3 H3 fun y H4 => ∃ ys, H4 D = some (.lst ys) ∧ ys.length < sizeLine ∧ ∃ m', m' < m ∧ W (i + 1) m' σ3 (upd H4 D (.lst (ys ++ [y])))) := by
  refine lc_of (n := xs.length) Pv h0 (fun i σ H hi p => ⟨xs, xs[i], hl i σ H (Nat.le_of_lt hi) p, by simp [hi]⟩) (fun i x H2 σ H hi p y => ?_) (fun σ H p => ⟨⟨xs, hl _ σ H (Nat.le_refl _) p, Nat.le_refl _⟩, hd σ H p⟩)
  obtain ⟨e, y⟩ := y
  subst e
  exact hs i x σ _ (y xs (hl i σ _ (Nat.le_of_lt hi) p)) p
/-- over a range -/
theorem lc_range {lo : Int} {n : Nat} (Pv : Nat → St → Hp → Prop) (h0 : Pv 0 (lcStart own fr σ) (upd H D (.lst [])))
    (hs : ∀ i σ H, i < n → Pv i σ H → g (.int (lo + i)) σ H fun σ3 H3 => te σ3 H3 fun y H4 => LcEnd Pv D n i σ3 y H4) (hd : ∀ σ H, Pv n σ H → R H) :
    ∃ W : Nat → Nat → St → Hp → Prop, (∃ m, W 0 m (lcStart own fr σ) (upd H D (.lst []))) ∧ ∀ i m σ' H', W i m σ' H' →
      ((Itr lo n).stop i H' ∧ R H') ∨ ((Itr lo n).go i H' ∧ ∀ x H2, (Itr lo n).yld i H' x H2 → g x σ' H2 fun σ3 H3 => te σ3 H3 fun y H4 => ∃ ys, H4 D = some (.lst ys) ∧ ys.length < sizeLine ∧ ∃ m', m' < m ∧ W (i + 1) m' σ3 (upd H4 D (.lst (ys ++ [y])))) := by
  refine lc_of (n := n) Pv h0 (fun i σ H hi p => hi) (fun i x H2 σ H hi p y => ?_) (fun σ H p => ⟨Nat.le_refl _, hd σ H p⟩)
  obtain ⟨e, y⟩ := y
  subst e y
  exact hs i σ _ hi p
end
end L2

namespace HT
open PySem PyProof.Rows
section
open PySem.SeqAt
open PySem.AutoSeq1 (wpAny_loadPart')
open PySem.MeetsSeq PySem.MeetsSeq2 PySem.MeetsSeq3
end
section
variable {prog : Program} {w : World} {A : Around} {E : Value → Shared → Prop} {s : Shared}
end
end HT
namespace L2
open PySem PySem.Spec PyProof.Rows
theorem ObjOk.there {P : Program} {w : World} {H : Hp} {h : Heap} {a : Addr} {o : HO} (x : ObjOk P w H h a o) : ∃ ob, h.get? a = some ob := by
  cases o with
  | lst xs => obtain ⟨_, _, _, _, e⟩ := x; exact ⟨_, e⟩
  | tup xs => obtain ⟨_, _, _, _, e, _⟩ := x; exact ⟨_, e⟩
  | dK kvs => obtain ⟨_, _, _, _, o, _, _, e, _⟩ := x; exact ⟨_, e⟩
  | dT kvs => obtain ⟨_, _, _, _, o, _, _, e, _⟩ := x; exact ⟨_, e⟩
  | set S n => obtain ⟨o, _, _, _, e, _⟩ := x; exact ⟨_, e⟩
  | ins C dx fs => obtain ⟨_, _, _, e, _⟩ := x; exact ⟨_, e⟩
  | own y => exact x
  | xd fs => obtain ⟨_, ⟨_, _, _, e, _⟩, _⟩ := x; exact ⟨_, e⟩
  | rng lo hi => obtain ⟨_, _, _, e⟩ := x; exact ⟨_, e⟩
  | frz ob u => obtain ⟨e, _⟩ := x; exact ⟨_, e⟩
  | tbl ps => exact ⟨_, (show h.get? a = some _ from x)⟩
  | met f y => exact ⟨_, (show h.get? a = some _ from x)⟩
  | ext φ => obtain ⟨_, e, _⟩ := x; exact e
/-! ### sorted of a list of lists of ints, by the way its comparisons go -/
noncomputable def kasEval {α : Type} (lt : Nat → Nat → Bool) : PySem.W.KasT α → α
  | .ret a => a
  | .ask i j k => kasEval lt (k (lt i j))
noncomputable def kasOk {α : Type} (lt : Nat → Nat → Bool) (n : Nat) : PySem.W.KasT α → Bool
  | .ret _ => true
  | .ask i j k => decide (i < n) && decide (j < n) && kasOk lt n (k (lt i j))
theorem kas_by {α : Type} {cmp : Nat → Nat → (Bool → Shared → Prop) → Shared → Prop} {lt : Nat → Nat → Bool} {n : Nat} {s : Shared} (hc : ∀ i j C, i < n → j < n → C (lt i j) s → cmp i j C s) {Q : α → Shared → Prop} :
    ∀ t : PySem.W.KasT α, kasOk lt n t = true → Q (kasEval lt t) s → t.kasWp cmp Q s
  | .ret _, _, h => h
  | .ask i j k, o, h => by
    have o' : (decide (i < n) && decide (j < n) && kasOk lt n (k (lt i j))) = true := o
    rw [Bool.and_eq_true, Bool.and_eq_true, decide_eq_true_eq, decide_eq_true_eq] at o'
    exact hc i j _ o'.1.1 o'.1.2 (kas_by hc (k (lt i j)) o'.2 h)
section
variable {X : Cx}
theorem Inv.quietly {pins : List (Addr × Obj)} {σ : St} {H H' : Hp} {s : Shared} {h' : Heap} {t' : Nat} (I : Inv X pins σ H s) {m : Str → Option Value} (hm : s.heap.Ns X.env.locals m) (hm' : h'.Ns X.env.locals m) (kp : ∀ b o, b ≠ X.env.locals → s.heap.get? b = some o → h'.get? b = some o)
    (hn : ∀ b o, s.heap.get? b = some o → H b = none → H' b = none) (sm : ∀ b o, H b = some o → H' b = some o) (hok : HOk X.prog X.w H' h') : Inv X pins σ H' { s with heap := h', toks := t' } := by
  refine I.step (ch := []) (g' := s.gens) (d' := s.drawn) (t' := t') (fun b hb => by simp at hb) ?_ ?_ ?_ ?_ ?_ ?_ ?_ ?_ hok I.bare
  · intro b o h1 _ _ h2 _
    exact kp b o h1 h2
  · intro b o h1 _ _ h2 _
    exact ⟨o.slots, kp b o h1 h2⟩
  · intro b o _ h1 h2
    exact hn b o h1 h2
  · intro b o _ h1
    by_cases e : b = X.env.locals
    · subst e
      obtain ⟨o', _, _, z, _⟩ := hm'
      exact ⟨o', z⟩
    · exact ⟨o, kp b o e h1⟩
  · intro b xs hb
    exact sm b _ hb
  · intro b o u hb
    exact sm b _ hb
  · intro b ps hb
    exact ⟨#[], by rw [sm b _ hb]; simp⟩
  · intro m2 h2
    rw [h2.eq_nsMap, ← hm.eq_nsMap]
    exact hm'
end
/-! ### range(a, b, -1), b below a or not -/
noncomputable def Itd (hi : Int) (n : Nat) : It := ⟨fun i _ => i < n, fun i H x H' => H' = H ∧ x = .int (hi - i), fun i _ => n ≤ i⟩
theorem turn_down {P : Program} {w : World} {K : PySem.W.Frag} {tg : Expr} (it : Addr) (hi : Int) (n : Nat) : Turn P w K tg (Itd hi n) [it] it (fun i h => IsRangeIter h it (hi + (i : Nat) * (-1)) ((n : Int) - (i : Nat)) (-1)) where
  mem := by simp
  obj := fun i h st b hb => by
    have e : b = it := by simpa using hb
    subst e
    exact ⟨_, st, fun v z => by
      have z' : Data.fields _ = Data.cell v := z
      cases z'⟩
  keep := fun i h h' st k => k it (by simp) _ st
  item := by
    intro X hP hw hK hc i pins s σ H E I hf st hg
    subst hP hw hK
    obtain ⟨f0, f1, f2, f3, f4, f5⟩ := hf it (by simp)
    have W := Walks.range (prog := X.prog) (w := X.w) (I.ok.hd hc) it hi (-1) n
    refine W.item i s _ _ hg st fun v h' tk hv st' kk => ?_
    obtain ⟨t, rfl⟩ := hv
    have I1 : Inv X pins σ H { s with heap := h', toks := tk } := I.turned (fun b o hb e => kk b o (by simpa using hb) e) f0 f1 f3 f4 f5
    refine ⟨_, rfl, go_of (s := { s with heap := h', toks := tk }) (n := "range_iterator") st' rfl rfl (by decide) ⟨.int (hi - i), H, I1, ⟨t, ?_⟩, ⟨rfl, rfl⟩, st', fun b hb => (hf b hb).1⟩⟩
    have e : hi + (i : Int) * (-1) = hi - i := by lia
    rw [e]
  done := by
    intro X hP hw hK hc i pins s σ H E I hf st hg
    subst hP hw hK
    obtain ⟨f0, f1, f2, f3, f4, f5⟩ := hf it (by simp)
    exact wpAny_pyNext_range_end (I.ok.hd hc) st (by have : n ≤ i := hg; lia) fun h' eb => ⟨rfl, I.turned (t' := s.toks) (fun b o hb e => eb b o hb e) f0 f1 f3 f4 f5⟩
  self := fun _ _ _ _ _ st h => wpAny_pyIter_rangeiter st h
section
variable {X : Cx} {tg : Expr}
noncomputable def iRngD (ta : TA) : TI := fun σ H R => ta σ H fun vs H1 => ∃ i j : Int, vs = [.int i, .int j, .int (-1)] ∧ (-100000 ≤ i ∧ i < 100000 ∧ -100000 ≤ j ∧ j < 100000) ∧ R (Itd i (i - j).toNat) H1
theorem small_down {a b : Int} (h1 : -100000 ≤ a) (h2 : a < 100000) (h3 : -100000 ≤ b) (h4 : b < 100000) : Builtin.Range.small a b (-1) = true ∧ Builtin.Range.rangeSize a b (-1) = (((a - b).toNat : Nat) : Int) := by
  have e : Builtin.Range.rangeSize a b (-1) = (((a - b).toNat : Nat) : Int) := by
    unfold Builtin.Range.rangeSize
    rw [if_neg (by decide)]
    split
    · rw [show (-(-1 : Int)) = 1 by decide, Int.ediv_one]
      lia
    · lia
  refine ⟨?_, e⟩
  unfold Builtin.Range.small
  rw [e]
  have hz : (((a - b).toNat : Nat) : Int) ≤ 200000 := by lia
  have hz0 : 0 ≤ (((a - b).toNat : Nat) : Int) := by lia
  generalize (((a - b).toNat : Nat) : Int) = z at hz hz0
  simp only [Builtin.Range.rangeFitsLong, Bool.and_eq_true, Bool.or_eq_true, decide_eq_true_eq, beq_iff_eq]
  rw [if_neg (by decide), Bool.and_eq_true, decide_eq_true_eq, decide_eq_true_eq]
  lia
theorem pi_rangeD {a b c : Expr} {ta : TA} {p pos : Pos} (hg : Gl X "range") (hm : X.mg "range" = none) (ha : PA X [a, b, c] ta) (hs : starEach [a, b, c] X.env = [(false, eval a X.env), (false, eval b X.env), (false, eval c X.env)] := by rfl)
    (hs2 : starEach [b, c] X.env = [(false, eval b X.env), (false, eval c X.env)] := by rfl) : PI X tg (.Call (.Name "range" p) [a, b, c] [] pos) (iRngD ta) := by
  intro pins s σ H R I h
  refine Call_ (ld_blt I hg hm boot_range (PyProof.Rows.callWith_type1 (thn (ha pos pins s σ H _ I h) fun us s1 ⟨vs, H1, I1, r1, q1⟩ => ?_) (by rw [hs, hs2]) (by rw [hs2]; rfl)))
  obtain ⟨i, j, e, ⟨q1, q2, q3, q4⟩, q⟩ := q1
  subst e
  cases r1 with
  | cons r rr =>
    cases rr with
    | cons r' rr =>
      cases rr with
      | cons r2 rr =>
        cases rr
        obtain ⟨t, rfl⟩ := r
        obtain ⟨t', rfl⟩ := r'
        obtain ⟨t2, rfl⟩ := r2
        obtain ⟨sm, sz⟩ := small_down q1 q2 q3 q4
        refine call_range_3 (by decide) ?_ (Or.inl (PyProof.noPylong_small (by lia)))
        refine wpAny_pyIter_range (IsRange.new ..) sm ?_
        have I2 : Inv X pins σ H1 { s1 with heap := s1.heap.push { cls := .type "range", data := .fields #[.int i t, .int j t', .int (-1) t2] }, toks := s1.toks } := I1.kept fun b o e => Heap.get?_push_of_some _ e
        refine ⟨_, [_], _, _, H1, rfl, I2.kept (t' := s1.toks) fun b o e => Heap.get?_push_of_some _ e, turn_down _ i (i - j).toNat, ?_, fun b hb => ?_, q⟩
        · have e1 : i + ((0 : Nat) : Int) * (-1) = i := by lia
          show IsRangeIter _ _ (i + ((0 : Nat) : Int) * (-1)) ((((i - j).toNat : Nat) : Int) - ((0 : Nat) : Int)) (-1)
          rw [e1, show ((((i - j).toNat : Nat) : Int) - ((0 : Nat) : Int)) = Builtin.Range.rangeSize i j (-1) by rw [sz]; lia]
          exact Heap.get?_push_size _ rfl
        · have e := List.mem_singleton.mp hb
          subst e
          exact I2.fpOk (Nat.le_refl _) (I2.hok.fresh (Nat.le_refl _))
end
theorem for_down {hi : Int} {n : Nat} {g : TG} {tb : TS} {D : Ends} {σ : St} {H : Hp} (Pv : Nat → St → Hp → Prop) (h0 : Pv 0 σ H)
    (hs : ∀ i σ H, i < n → Pv i σ H → g (.int (hi - i)) σ H fun σ2 H2 => tb { D with nx := Pv (i + 1), ct := Pv (i + 1), bk := D.nx } σ2 H2) (hd : ∀ σ H, Pv n σ H → D.nx σ H) :
    ∃ W : Nat → Nat → St → Hp → Prop, (∃ m, W 0 m σ H) ∧ ∀ i m σ H, W i m σ H →
      ((Itd hi n).stop i H ∧ D.nx σ H) ∨ ((Itd hi n).go i H ∧ ∃ N : St → Hp → Prop, (∀ σ' H', N σ' H' → ∃ m', m' < m ∧ W (i + 1) m' σ' H') ∧ ∀ x H', (Itd hi n).yld i H x H' → g x σ H' fun σ2 H2 => tb { D with nx := N, ct := N, bk := D.nx } σ2 H2) := by
  refine ⟨fun i m σ H => m = n - i ∧ i ≤ n ∧ Pv i σ H, ⟨n, by simp, Nat.zero_le _, h0⟩, ?_⟩
  rintro i m σ H ⟨rfl, hi', p⟩
  by_cases hlt : i < n
  · refine .inr ⟨hlt, Pv (i + 1), fun σ' H' p' => ⟨n - (i + 1), by lia, rfl, hlt, p'⟩, fun x H' y => ?_⟩
    obtain ⟨e, y⟩ := y
    subst e y
    exact hs i σ _ hlt p
  · have e : i = n := by lia
    subst e
    exact .inl ⟨Nat.le_refl _, hd σ H p⟩
/-! ### x is False, x is True, of bools -/
end L2

namespace PN
open PySem L2
/-! ### tests -/
theorem iteD {c A B : Prop} [Decidable c] (hc : c) (h : A) : if decide c = true then A else B := by rw [if_pos (decide_eq_true hc)]; exact h
theorem iteDn {c A B : Prop} [Decidable c] (hc : ¬ c) (h : B) : if decide c = true then A else B := by rw [if_neg (by simpa using hc)]; exact h
theorem iteN {c A B : Prop} [Decidable c] (hc : ¬ c) (h : A) : if (!decide c) = true then A else B := by rw [if_pos (by simpa using hc)]; exact h

/-! ### a row behind posts -/
noncomputable abbrev Post := Nat × Nat
noncomputable def acts (xs : List Int) (p : Post) : Bool := decide (xs.getD p.2 0 < xs.getD p.1 0)
noncomputable def stepRow (xs : List Int) (p : Post) : List Int := if xs.getD p.2 0 < xs.getD p.1 0 then (xs.set p.1 (xs.getD p.2 0)).set p.2 (xs.getD p.1 0) else xs
noncomputable def passAll (ps : List Post) (xs : List Int) : List Int := ps.foldl stepRow xs
theorem stepRow_length (xs : List Int) (p : Post) : (stepRow xs p).length = xs.length := by
  unfold stepRow
  split <;> simp
theorem passAll_length : ∀ (ps : List Post) (xs : List Int), (passAll ps xs).length = xs.length
  | [], _ => rfl
  | p :: ps, xs => by
    show (passAll ps (stepRow xs p)).length = xs.length
    rw [passAll_length ps, stepRow_length]
theorem take_snoc {α : Type} {l : List α} {i : Nat} {x : α} (h : l[i]? = some x) : l.take (i + 1) = l.take i ++ [x] := by
  rw [List.take_add_one, h]
  rfl
theorem passAll_take {ps : List Post} {i : Nat} {p : Post} {xs : List Int} (h : ps[i]? = some p) : passAll (ps.take (i + 1)) xs = stepRow (passAll (ps.take i) xs) p := by
  unfold passAll
  rw [take_snoc h, List.foldl_append]
  rfl
noncomputable def rowsAt (ps : List Post) (xs : List Int) (n : Nat) : List (List Int) := (List.range n).map fun j => passAll (ps.take (j + 1)) xs
theorem rowsAt_succ (ps : List Post) (xs : List Int) (n : Nat) : rowsAt ps xs (n + 1) = rowsAt ps xs n ++ [passAll (ps.take (n + 1)) xs] := by
  unfold rowsAt
  rw [List.range_succ, List.map_append]
  rfl
theorem rowsAt_length (ps : List Post) (xs : List Int) (n : Nat) : (rowsAt ps xs n).length = n := by
  unfold rowsAt
  rw [List.length_map, List.length_range]
noncomputable def actsAt (ps : List Post) (xs : List Int) : Nat → List Int
  | 0 => []
  | n + 1 => actsAt ps xs n ++ (if acts (passAll (ps.take n) xs) (ps.getD n (0, 0)) = true then [(n : Int)] else [])
theorem actsAt_yes {ps : List Post} {xs : List Int} {n : Nat} {p : Post} (h : ps[n]? = some p) (c : acts (passAll (ps.take n) xs) p = true) : actsAt ps xs (n + 1) = actsAt ps xs n ++ [(n : Int)] := by
  have e : ps.getD n (0, 0) = p := by rw [List.getD_eq_getElem?_getD, h]; rfl
  show actsAt ps xs n ++ (if acts (passAll (ps.take n) xs) (ps.getD n (0, 0)) = true then [(n : Int)] else []) = _
  rw [e, if_pos c]
theorem actsAt_no {ps : List Post} {xs : List Int} {n : Nat} {p : Post} (h : ps[n]? = some p) (c : acts (passAll (ps.take n) xs) p = false) : actsAt ps xs (n + 1) = actsAt ps xs n := by
  have e : ps.getD n (0, 0) = p := by rw [List.getD_eq_getElem?_getD, h]; rfl
  show actsAt ps xs n ++ (if acts (passAll (ps.take n) xs) (ps.getD n (0, 0)) = true then [(n : Int)] else []) = _
  rw [e, c]
  simp
theorem actsAt_length (ps : List Post) (xs : List Int) : ∀ n, (actsAt ps xs n).length ≤ n
  | 0 => Nat.le_refl _
  | n + 1 => by
    have h := actsAt_length ps xs n
    show (actsAt ps xs n ++ (if acts (passAll (ps.take n) xs) (ps.getD n (0, 0)) = true then [(n : Int)] else [])).length ≤ n + 1
    rw [List.length_append]
    split <;> simp <;> lia
/-- the posts are a net's of that width -/
noncomputable def Net (w : Nat) (ps : List Post) : Prop := ∀ p ∈ ps, p.1 < p.2 ∧ p.2 < w
theorem Net.at {w : Nat} {ps : List Post} (h : Net w ps) {i : Nat} {p : Post} (e : ps[i]? = some p) : p.1 < p.2 ∧ p.2 < w := h p (List.mem_of_getElem? e)

/-! ### places -/
theorem at_ints {xs : List Int} {i : Nat} (h : i < xs.length) : atI (xs.map V.int) (i : Int) = some (.int (xs.getD i 0)) := by
  refine atI_nat ?_
  rw [List.getElem?_map, List.getD_eq_getElem?_getD, List.getElem?_eq_getElem h]
  rfl
theorem ixN_nat {n i : Nat} (h : i < n) : ixN n (i : Int) = some i := by
  unfold ixN
  rw [if_pos (by lia), if_pos (by lia)]
  simp
theorem ixN_ints {xs : List Int} {i : Nat} (h : i < xs.length) : ixN (xs.map V.int).length (i : Int) = some i := ixN_nat (by rw [List.length_map]; exact h)
theorem set_ints (xs : List Int) (i : Nat) (v : Int) : (xs.map V.int).set i (V.int v) = (xs.set i v).map V.int := by rw [List.map_set]
theorem map_get {α β : Type} {f : α → β} {l : List α} {i : Nat} {y : β} (h : (l.map f)[i]? = some y) : ∃ x, l[i]? = some x ∧ y = f x := by
  rw [List.getElem?_map] at h
  cases e : l[i]? with
  | none => rw [e] at h; cases h
  | some x => rw [e] at h; exact ⟨x, rfl, (Option.some.inj h).symm⟩

/-! ### what lies in the heap -/
end PN
namespace L2
theorem Same.upd {H H' : Hp} {l : PySem.Addr} {o : HO} (s : Same H H') (n : H l = Option.none) : Same H (L2.upd H' l o) := fun b u e => by
  rw [upd_ne (ne_of_none e n)]
  exact s b u e
theorem Same.new {H : Hp} {l : PySem.Addr} {o : HO} (n : H l = Option.none) : Same H (L2.upd H l o) := (Same.refl H).upd n
end L2
namespace PN
open PySem L2
/-- tuples of two lanes -/
noncomputable def Tups (H : Hp) (rs : List Addr) (ps : List Post) : Prop := rs.length = ps.length ∧ ∀ (i : Nat) r p, rs[i]? = some r → ps[i]? = some p → H r = some (.tup [.int (p.1 : Nat), .int (p.2 : Nat)])
theorem Tups.mono {H H' : Hp} {rs : List Addr} {ps : List Post} (h : Tups H rs ps) (s : Same H H') : Tups H' rs ps := ⟨h.1, fun i r p a b => s _ _ (h.2 i r p a b)⟩
theorem Tups.keep {H H' : Hp} {rs : List Addr} {ps : List Post} (h : Tups H rs ps) (s : ∀ b xs, H b = some (.tup xs) → H' b = some (.tup xs)) : Tups H' rs ps := ⟨h.1, fun i r p a b => s _ _ (h.2 i r p a b)⟩
theorem tup_keep {H : Hp} {l : Addr} {ys : List V} {o : HO} (e : H l = some (.lst ys)) : ∀ b xs, H b = some (.tup xs) → (L2.upd H l o) b = some (.tup xs) := fun b xs h => by
  rw [upd_ne (ne_of h e (by intro z; cases z))]
  exact h
theorem Tups.get {H : Hp} {rs : List Addr} {ps : List Post} (h : Tups H rs ps) {i : Nat} {r : Addr} (e : rs[i]? = some r) : ∃ p, ps[i]? = some p ∧ H r = some (.tup [.int (p.1 : Nat), .int (p.2 : Nat)]) := by
  have hi : i < ps.length := by rw [← h.1]; exact (List.getElem?_eq_some_iff.mp e).1
  exact ⟨ps[i], List.getElem?_eq_getElem hi, h.2 i r _ e (List.getElem?_eq_getElem hi)⟩
theorem Tups.snoc {H : Hp} {rs : List Addr} {ps : List Post} {r : Addr} {p : Post} (h : Tups H rs ps) (e : H r = some (.tup [.int (p.1 : Nat), .int (p.2 : Nat)])) : Tups H (rs ++ [r]) (ps ++ [p]) := by
  refine ⟨by rw [List.length_append, List.length_append, h.1]; rfl, fun i r' p' a b => ?_⟩
  rw [List.getElem?_append] at a b
  by_cases c : i < rs.length
  · rw [if_pos c] at a
    rw [if_pos (h.1 ▸ c)] at b
    exact h.2 i r' p' a b
  · rw [if_neg c] at a
    rw [if_neg (h.1 ▸ c)] at b
    rw [← h.1] at b
    cases hz : i - rs.length with
    | zero =>
      rw [hz] at a b
      cases a
      cases b
      exact e
    | succ n => rw [hz] at a; cases a
noncomputable def Posts (H : Hp) (a : Addr) (ps : List Post) : Prop := ∃ rs : List Addr, H a = some (.lst (rs.map V.ref)) ∧ Tups H rs ps
theorem Posts.mono {H H' : Hp} {a : Addr} {ps : List Post} (h : Posts H a ps) (s : Same H H') : Posts H' a ps := let ⟨rs, e, t⟩ := h; ⟨rs, s _ _ e, t.mono s⟩
noncomputable abbrev Ints (H : Hp) (a : Addr) (xs : List Int) : Prop := H a = some (.lst (xs.map V.int))
/-- lists of ints -/
noncomputable def Lists (H : Hp) (rs : List Addr) (rows : List (List Int)) : Prop := rs.length = rows.length ∧ ∀ (i : Nat) r row, rs[i]? = some r → rows[i]? = some row → Ints H r row
theorem Lists.mono {H H' : Hp} {rs : List Addr} {rows : List (List Int)} (h : Lists H rs rows) (s : ∀ r ∈ rs, ∀ o, H r = some o → H' r = some o) : Lists H' rs rows :=
  ⟨h.1, fun i r row a b => s r (List.mem_of_getElem? a) _ (h.2 i r row a b)⟩
theorem Lists.get {H : Hp} {rs : List Addr} {rows : List (List Int)} (h : Lists H rs rows) {i : Nat} {r : Addr} (e : rs[i]? = some r) : ∃ row, rows[i]? = some row ∧ Ints H r row := by
  have hi : i < rows.length := by rw [← h.1]; exact (List.getElem?_eq_some_iff.mp e).1
  exact ⟨rows[i], List.getElem?_eq_getElem hi, h.2 i r _ e (List.getElem?_eq_getElem hi)⟩
theorem Lists.snoc {H : Hp} {rs : List Addr} {rows : List (List Int)} {r : Addr} {row : List Int} (h : Lists H rs rows) (e : Ints H r row) : Lists H (rs ++ [r]) (rows ++ [row]) := by
  refine ⟨by rw [List.length_append, List.length_append, h.1]; rfl, fun i r' p' a b => ?_⟩
  rw [List.getElem?_append] at a b
  by_cases c : i < rs.length
  · rw [if_pos c] at a
    rw [if_pos (h.1 ▸ c)] at b
    exact h.2 i r' p' a b
  · rw [if_neg c] at a
    rw [if_neg (h.1 ▸ c)] at b
    rw [← h.1] at b
    cases hz : i - rs.length with
    | zero =>
      rw [hz] at a b
      cases a
      cases b
      exact e
    | succ n => rw [hz] at a; cases a

/-! ### two stacks that hold alike things: how _law_stays_so goes through them -/
/-! ### a walk: the lanes at l, the rows so far at r, the numbers of the acting posts at c -/
structure WInv (H1 H' : Hp) (l r c : Addr) (xs : List Int) (rs : List Addr) (rows : List (List Int)) (ac : List Int) : Prop where
  n1 : H1 l = none
  n2 : H1 r = none
  n3 : H1 c = none
  lr : l ≠ r
  lc : l ≠ c
  rc : r ≠ c
  same : Same H1 H'
  el : Ints H' l xs
  er : H' r = some (.lst (rs.map V.ref))
  ls : Lists H' rs rows
  ec : Ints H' c ac
  nq : ∀ q ∈ rs, q ≠ l ∧ q ≠ r ∧ q ≠ c
section
variable {H1 H' : Hp} {l r c : Addr} {xs : List Int} {rs : List Addr} {rows : List (List Int)} {ac : List Int}
theorem WInv.start (h1 : H1 l = none) {o : HO} (ho : o = .lst (xs.map V.int)) (h2 : (upd H1 l o) r = none) (h3 : (upd (upd H1 l o) r (.lst [])) c = none) :
    WInv H1 (upd (upd (upd H1 l o) r (.lst [])) c (.lst [])) l r c xs [] [] [] := by
  subst ho
  have lr : l ≠ r := ne_of_none upd_same h2
  have rc : r ≠ c := ne_of_none upd_same h3
  have lc : l ≠ c := ne_of_none (by rw [upd_ne lr]; exact upd_same) h3
  have h2' : H1 r = none := by rw [upd_ne lr.symm] at h2; exact h2
  have h3' : H1 c = none := by rw [upd_ne rc.symm, upd_ne lc.symm] at h3; exact h3
  exact ⟨h1, h2', h3', lr, lc, rc, ((Same.new h1).upd h2').upd h3', by show _ = _; rw [upd_ne lc, upd_ne lr, upd_same], by rw [upd_ne rc, upd_same]; rfl, ⟨rfl, fun i q row a _ => by simp at a⟩, upd_same, fun q hq => by simp at hq⟩
theorem WInv.new (I : WInv H1 H' l r c xs rs rows ac) {q : Addr} {o : HO} (n : H' q = none) : WInv H1 (upd H' q o) l r c xs rs rows ac where
  n1 := I.n1
  n2 := I.n2
  n3 := I.n3
  lr := I.lr
  lc := I.lc
  rc := I.rc
  same := I.same.upd (I.same.free n)
  el := by show _ = _; rw [upd_ne (ne_of_none I.el n)]; exact I.el
  er := by rw [upd_ne (ne_of_none I.er n)]; exact I.er
  ls := I.ls.mono fun b _ o e => by rw [upd_ne (ne_of_none e n)]; exact e
  ec := by show _ = _; rw [upd_ne (ne_of_none I.ec n)]; exact I.ec
  nq := I.nq
theorem WInv.lane (I : WInv H1 H' l r c xs rs rows ac) {H3 : Hp} {ys : List Int} (e : Ints H3 l ys) (k : ∀ b, b ≠ l → H3 b = H' b) : WInv H1 H3 l r c ys rs rows ac where
  n1 := I.n1
  n2 := I.n2
  n3 := I.n3
  lr := I.lr
  lc := I.lc
  rc := I.rc
  same := fun b o z => by rw [k b (ne_of_none z I.n1)]; exact I.same b o z
  el := e
  er := by rw [k r I.lr.symm]; exact I.er
  ls := I.ls.mono fun b hb o z => by rw [k b (I.nq b hb).1]; exact z
  ec := by show _ = _; rw [k c I.lc.symm]; exact I.ec
  nq := I.nq
theorem WInv.act (I : WInv H1 H' l r c xs rs rows ac) (n : Int) : WInv H1 (upd H' c (.lst (ac.map V.int ++ [.int n]))) l r c xs rs rows (ac ++ [n]) where
  n1 := I.n1
  n2 := I.n2
  n3 := I.n3
  lr := I.lr
  lc := I.lc
  rc := I.rc
  same := I.same.upd I.n3
  el := by show _ = _; rw [upd_ne I.lc]; exact I.el
  er := by rw [upd_ne I.rc]; exact I.er
  ls := I.ls.mono fun b hb o z => by rw [upd_ne (I.nq b hb).2.2]; exact z
  ec := by show _ = _; rw [upd_same, List.map_append]; rfl
  nq := I.nq
theorem WInv.row (I : WInv H1 H' l r c xs rs rows ac) {q : Addr} (n : H' q = none) :
    WInv H1 (upd (upd H' q (.lst (xs.map V.int))) r (.lst (rs.map V.ref ++ [.ref q]))) l r c xs (rs ++ [q]) (rows ++ [xs]) ac := by
  have J := I.new (o := .lst (xs.map V.int)) n
  have nl : q ≠ l := (ne_of_none I.el n).symm
  have nr : q ≠ r := (ne_of_none I.er n).symm
  have nc : q ≠ c := (ne_of_none I.ec n).symm
  refine ⟨I.n1, I.n2, I.n3, I.lr, I.lc, I.rc, J.same.upd I.n2, ?_, ?_, ?_, ?_, ?_⟩
  · show _ = _
    rw [upd_ne I.lr]
    exact J.el
  · rw [upd_same, List.map_append]
    rfl
  · have z := J.ls.snoc (r := q) (row := xs) upd_same
    refine z.mono fun b hb o e => ?_
    rw [upd_ne]
    · exact e
    · rcases List.mem_append.mp hb with hb | hb
      · exact (I.nq b hb).2.1
      · rw [List.mem_singleton.mp hb]
        exact nr
  · show _ = _
    rw [upd_ne I.rc.symm]
    exact J.ec
  · intro b hb
    rcases List.mem_append.mp hb with hb | hb
    · exact I.nq b hb
    · rw [List.mem_singleton.mp hb]
      exact ⟨nl, nr, nc⟩
end
/-! ### slices of lists of ints -/
noncomputable def cutI (xs : List Int) (lo hi : Option Int) : List Int := (xs.drop (HT.sIx xs.length 0 lo)).take (HT.sIx xs.length xs.length hi - HT.sIx xs.length 0 lo)
theorem cutV_ints (xs : List Int) (lo hi : Option Int) : cutV (xs.map V.int) lo hi = (cutI xs lo hi).map V.int := by
  unfold cutV cutI
  rw [List.length_map, ← List.map_drop, ← List.map_take]
theorem cutI_length (xs : List Int) (lo hi : Option Int) : (cutI xs lo hi).length ≤ xs.length := by
  unfold cutI
  rw [List.length_take, List.length_drop]
  lia
theorem cut_at {H : Hp} {a : Addr} {xs : List Int} {lo hi : Option Int} : Ints (upd H a (.lst (cutV (xs.map V.int) lo hi))) a (cutI xs lo hi) := by
  show _ = _
  rw [upd_same, cutV_ints]
theorem big {n : Nat} (h : n ≤ 100000) : n ≤ sizeLine := Nat.le_trans h (by decide)
theorem big' {n : Nat} (h : n < 100000) : n < sizeLine := Nat.lt_of_lt_of_le h (by decide)
end PN

namespace PN
open PySem L2
/-! ### rows by their places -/
theorem getD_ext {xs ys : List Int} (hl : xs.length = ys.length) (h : ∀ j, j < xs.length → xs.getD j 0 = ys.getD j 0) : xs = ys := by
  refine List.ext_getElem hl fun i h1 h2 => ?_
  have z := h i h1
  rw [List.getD_eq_getElem?_getD, List.getD_eq_getElem?_getD, List.getElem?_eq_getElem h1, List.getElem?_eq_getElem h2] at z
  exact z
theorem getD_set {xs : List Int} {i j : Nat} {v : Int} (h : i < xs.length) : (xs.set i v).getD j 0 = if j = i then v else xs.getD j 0 := by
  rw [List.getD_eq_getElem?_getD, List.getElem?_set, List.getD_eq_getElem?_getD]
  by_cases e : i = j
  · subst e
    rw [if_pos rfl, if_pos h, if_pos rfl]
    rfl
  · rw [if_neg e, if_neg (Ne.symm e)]
theorem stepRow_get {xs : List Int} {p : Post} (h1 : p.1 < xs.length) (h2 : p.2 < xs.length) (j : Nat) :
    (stepRow xs p).getD j 0 = if xs.getD p.2 0 < xs.getD p.1 0 then (if j = p.2 then xs.getD p.1 0 else if j = p.1 then xs.getD p.2 0 else xs.getD j 0) else xs.getD j 0 := by
  unfold stepRow
  split
  · rw [getD_set (by rw [List.length_set]; exact h2), getD_set h1]
  · rfl
/-! ### the mirror -/
noncomputable def mirrorP (w : Nat) (p : Post) : Post := (w - 1 - p.2, w - 1 - p.1)
noncomputable def mirrorAll (w : Nat) (ps : List Post) : List Post := ps.map (mirrorP w)
theorem mirror_take {w : Nat} {ps : List Post} {i : Nat} {p : Post} (h : ps[i]? = some p) : mirrorAll w (ps.take (i + 1)) = mirrorAll w (ps.take i) ++ [mirrorP w p] := by
  unfold mirrorAll
  rw [take_snoc h, List.map_append]
  rfl
/-! ### two numbers sorted -/
/-! ### posts as data -/
section
variable {P : Program} {w : World} {H : Hp}
end
end PN

namespace PN
open PySem L2
/-! ### bits -/
/-! ### rows in order -/
noncomputable abbrev Rising (xs : List Int) : Prop := xs.Pairwise (· ≤ ·)
theorem rising_of_steps : ∀ {xs : List Int}, (∀ j, j + 1 < xs.length → xs.getD j 0 ≤ xs.getD (j + 1) 0) → Rising xs
  | [], _ => .nil
  | [x], _ => by simp [Rising]
  | x :: y :: r, h => by
    have ih : Rising (y :: r) := rising_of_steps fun j hj => by
      have z := h (j + 1) (by simpa using hj)
      simpa using z
    have h0 : x ≤ y := by
      have z := h 0 (by simp)
      simpa using z
    refine List.pairwise_cons.mpr ⟨fun z hz => ?_, ih⟩
    rcases List.mem_cons.mp hz with rfl | hz
    · exact h0
    · exact Int.le_trans h0 ((List.pairwise_cons.mp ih).1 z hz)
theorem steps_of_rising {xs : List Int} (h : Rising xs) {j : Nat} (hj : j + 1 < xs.length) : xs.getD j 0 ≤ xs.getD (j + 1) 0 := by
  have z := (List.pairwise_iff_getElem.mp h) j (j + 1) (by lia) hj (Nat.lt_succ_self _)
  rw [List.getD_eq_getElem?_getD, List.getD_eq_getElem?_getD, List.getElem?_eq_getElem hj, List.getElem?_eq_getElem (show j < xs.length by lia)]
  exact z
end PN

namespace PN
open PySem L2
/-! ### the rows of noughts and ones, in two orders -/
noncomputable def rowsP : Nat → List (List Int)
  | 0 => [[]]
  | n + 1 => (rowsP n).map (fun r => 0 :: r) ++ (rowsP n).map (fun r => 1 :: r)
theorem rowsP_length : ∀ n, (rowsP n).length = 2 ^ n
  | 0 => rfl
  | n + 1 => by
    show ((rowsP n).map (fun r => 0 :: r) ++ (rowsP n).map (fun r => 1 :: r)).length = 2 ^ (n + 1)
    rw [List.length_append, List.length_map, List.length_map, rowsP_length n, Nat.pow_succ]
    lia
theorem rowsP_row : ∀ n, ∀ r ∈ rowsP n, r.length = n
  | 0, r, h => by
    rw [show rowsP 0 = [[]] from rfl, List.mem_singleton] at h
    rw [h]
    rfl
  | n + 1, r, h => by
    have h' : r ∈ (rowsP n).map (fun r => 0 :: r) ++ (rowsP n).map (fun r => 1 :: r) := h
    rcases List.mem_append.mp h' with h1 | h1
    · obtain ⟨q, hq, rfl⟩ := List.mem_map.mp h1
      rw [List.length_cons, rowsP_row n q hq]
    · obtain ⟨q, hq, rfl⟩ := List.mem_map.mp h1
      rw [List.length_cons, rowsP_row n q hq]
/-! ### passing keeps the numbers -/
/-! ### noughts and ones tell -/
/-- the first row of noughts and ones that the posts don't put in order -/
noncomputable def badB (ps : List Post) (r : List Int) : Bool := !decide (Rising (passAll ps r))
noncomputable def firstBad (w : Nat) (ps : List Post) : Option (List Int) := (rowsP w).find? (badB ps)
/-! ### a lane left alone -/
/-! ### how the law's rows are sorted -/
theorem find_snoc {ps : List Post} {l : List (List Int)} {i : Nat} {r : List Int} (h : l[i]? = some r) (hp : (l.take i).find? (badB ps) = none) (hr : badB ps r = false) : (l.take (i + 1)).find? (badB ps) = none := by
  rw [take_snoc h, List.find?_append, hp, List.find?_cons, hr]
  rfl
theorem find_here {ps : List Post} {l : List (List Int)} {i : Nat} {r : List Int} (h : l[i]? = some r) (hp : (l.take i).find? (badB ps) = none) (hr : badB ps r = true) : l.find? (badB ps) = some r := by
  have e : l = l.take (i + 1) ++ l.drop (i + 1) := (List.take_append_drop (i + 1) l).symm
  rw [e, take_snoc h, List.find?_append, List.find?_append, hp, List.find?_cons, hr]
  rfl
theorem two_pow_le {i : Nat} (h : i ≤ 12) : 2 ^ i ≤ 4096 := Nat.le_trans (Nat.pow_le_pow_right (by decide) h) (by decide)
theorem Lists.app {H : Hp} {rs qs : List Addr} {as bs : List (List Int)} (h : Lists H rs as) (k : Lists H qs bs) : Lists H (rs ++ qs) (as ++ bs) := by
  refine ⟨by rw [List.length_append, List.length_append, h.1, k.1], fun i r row a b => ?_⟩
  rw [List.getElem?_append] at a b
  by_cases c : i < rs.length
  · rw [if_pos c] at a
    rw [if_pos (h.1 ▸ c)] at b
    exact h.2 i r row a b
  · rw [if_neg c] at a
    rw [if_neg (h.1 ▸ c), ← h.1] at b
    exact k.2 _ r row a b
end PN

namespace L2
open PySem PySem.Spec PyProof.Rows
/-! ### a comprehension of one clause with one test -/
theorem lcI_loop {prog : Program} {w : World} {A : Around} {R : Result → Shared → Prop} {s : Shared} {elt tg iter tst : Expr} {scope : Scope} {pos : Pos} {it acc : Value} {env : Env} (J : Nat → Shared → Prop)
    (turn : ∀ n s, J n s → wpAny (model prog w) A (pyNext it) (fun r s1 => match r with
      | none => R (.ok .next) s1
      | some v => wpAny (model prog w) A (letOwnedTupleGo tg it v) (fun _ s2 => wpAny (model prog w) A (assign tg env v) (fun _ s3 => wpAny (model prog w) A (isTrue tst env (eval tst env)) (fun b s6 => if b = true then wpAny (model prog w) A (eval elt env) (fun x s4 =>
          wpAny (model prog w) A (call (.builtin "list.append") [acc, x]) (fun _ s5 => ∃ m, m < n ∧ J m s5) (fun _ _ => False) s4) (fun _ _ => False) s6 else ∃ m, m < n ∧ J m s6) (fun _ _ => False) s3) (fun _ _ => False) s2) (fun _ _ => False) s1) (fun _ _ => False) s)
    (n : Nat) (h : J n s) : codeAny (model prog w) A (.compLoop (.ListComp elt [⟨tg, iter, [tst], 0⟩] scope pos) 0 it acc env) R s := by
  refine codeAny_loop rfl J (fun n s hI => ?_) n h
  show wpAny _ A ((compTurn (.ListComp elt [⟨tg, iter, [tst], 0⟩] scope pos) 0 it acc env).onRaise (fun x => do noteFrame x env; theTreesLotGoes x)) _ _ s
  refine wpAny_noted ?_
  rw [compTurn_list]
  refine wpAny_bind (wpAny_standAt (wpAny_bind (wpAny_mono (turn n s hI) (fun r s1 h1 => ?_) fun _ _ z => z.elim)))
  cases r with
  | none => exact wpAny_pure h1
  | some v =>
    refine wpAny_bind (wpAny_mono h1 (fun _ s2 h2 => wpAny_bind (wpAny_mono h2 (fun _ s3 h3 => ?_) fun _ _ z => z.elim)) fun _ _ z => z.elim)
    refine wpAny_bind (wpAny_tests_one (wpAny_mono h3 (fun ok s6 h6 => ?_) fun _ _ z => z.elim))
    cases ok with
    | false => exact wpAny_pure ⟨rfl, h6⟩
    | true => exact wpAny_bind (wpAny_bind (wpAny_mono h6 (fun x s4 h4 => wpAny_bind (wpAny_mono h4 (fun _ s5 h5 => wpAny_pure (wpAny_pure ⟨rfl, h5⟩)) fun _ _ z => z.elim)) fun _ _ z => z.elim))
section
variable {X : Cx} {elt tg iter tst : Expr} {scope : Scope} {pos : Pos} {wi : TI} {g : TG} {tt : TT} {te : TE} {N : List Str} {own : Nat} {fr : List Nat} {cl : List (Str × Addr)}
/-- the reading: D is the new list; W the word by the turn and a measure, over the block's names -/
noncomputable def tLcI (wi : TI) (g : TG) (tt : TT) (te : TE) (own : Nat) (fr : List Nat) : TE := fun σ H Q => wi σ H fun J H1 => ∀ D, H1 D = none → ∃ W : Nat → Nat → St → Hp → Prop, (∃ m, W 0 m (lcStart own fr σ) (upd H1 D (.lst []))) ∧ ∀ i m σ' H', W i m σ' H' →
  (J.stop i H' ∧ Q (.ref D) H') ∨ (J.go i H' ∧ ∀ x H2, J.yld i H' x H2 → g x σ' H2 fun σ3 H3 => tt σ3 H3 fun b H5 => if b = true then te σ3 H5 fun y H4 => ∃ ys, H4 D = some (.lst ys) ∧ ys.length < sizeLine ∧ ∃ m', m' < m ∧ W (i + 1) m' σ3 (upd H4 D (.lst (ys ++ [y]))) else ∃ m', m' < m ∧ W (i + 1) m' σ3 H5)
/-- what the block comes to: the comprehension's own objects apart -/
theorem lcI_block (hx : X.xe = fun _ _ => False) (hc : X.calm = true) (F : LcFree X scope cl N own fr) (hk : scope.kind = .function) (hcell : ∀ y ∈ scope.names, y.2 ≠ .cell)
    (hg : ∀ s H pins fp, PG (cxLc X scope N cl s H pins fp) tg g) (ht : ∀ s H pins fp, PT (cxLc X scope N cl s H pins fp) tst tt) (he : ∀ s H pins fp, PE (cxLc X scope N cl s H pins fp) elt te)
    {pins : List (Addr × Obj)} {σ : St} {Q : VK} {s2 : Shared} {itv : Value} {RR : Value → Addr → Result → Shared → Prop} {E : Value → Shared → Prop}
    (h : PIE X pins σ tg (fun J H1 => ∀ D, H1 D = none → ∃ W : Nat → Nat → St → Hp → Prop, (∃ m, W 0 m (lcStart own fr σ) (upd H1 D (.lst []))) ∧ ∀ i m σ' H', W i m σ' H' →
      (J.stop i H' ∧ Q (.ref D) H') ∨ (J.go i H' ∧ ∀ x H2, J.yld i H' x H2 → g x σ' H2 fun σ3 H3 => tt σ3 H3 fun b H5 => if b = true then te σ3 H5 fun y H4 => ∃ ys, H4 D = some (.lst ys) ∧ ys.length < sizeLine ∧ ∃ m', m' < m ∧ W (i + 1) m' σ3 (upd H4 D (.lst (ys ++ [y]))) else ∃ m', m' < m ∧ W (i + 1) m' σ3 H5)) itv s2)
    (hRR : ∀ (D C : Addr) (H' : Hp) (s' : Shared), Q (.ref D) H' → (∃ m, s'.heap.Ns C m) → H' C = none → C ≠ X.env.locals → (∀ x c, X.env.cells.lookup x = some c → c ≠ C) → (∀ p ∈ X.pn ++ pins, p.1 ≠ C) → X.s₀.heap.objs.size ≤ C →
      (∀ h', Heap.SameBut C s'.heap h' → Inv X pins σ H' { s' with heap := h' }) → RR (.ref D) C (.ok .next) s') :
    wpAny (model X.prog X.w) X.A (newList []) (fun acc s3 => wpAny (model X.prog X.w) X.A (newFunctionEnv scope X.env.globals cl [] X.env.qual none .none (some X.env)) (fun cenv s4 =>
      codeAny (model X.prog X.w) X.A (.compStart (.ListComp elt [⟨tg, iter, [tst], 0⟩] scope pos) 0 itv acc { cenv with scope := relabel scope X.env }) (RR acc cenv.locals) s4) E s3) E s2 := by
  obtain ⟨it, fp, tn, J, H2, e, I2, T, st2, f2, q⟩ := h
  subst e
  obtain ⟨W, ⟨m0, w0⟩, turn⟩ := q s2.heap.objs.size I2.fresh
  have I3 := I2.lnew (ys := []) (its := []) (t' := s2.toks) .nil (Nat.zero_le _)
  refine wpAny_newList (items := []) ?_ (Nat.zero_le _)
  generalize hH3 : upd H2 s2.heap.objs.size (.lst []) = H3 at w0 I3
  generalize hs3 : ({ s2 with heap := s2.heap.push { cls := .type "list", data := .seq ([] : List Value).toArray }, toks := s2.toks } : Shared) = s3 at I3
  have fp2 : ∀ b ∈ fp, b < s2.heap.objs.size := fun b hb => by
    obtain ⟨o, eo, _⟩ := T.obj _ _ st2 b hb
    exact Heap.lt_size eo
  have size3 : s3.heap.objs.size = s2.heap.objs.size + 1 := by rw [← hs3]; exact Heap.size_push ..
  have old3 : ∀ b o, s2.heap.get? b = some o → s3.heap.get? b = some o := fun b o z => by rw [← hs3]; exact Heap.get?_push_of_some _ z
  have st3 : tn 0 s3.heap := T.keep _ _ _ st2 fun b _ o z => old3 b o z
  have f3 : ∀ b ∈ fp, FpOk X pins H3 b := fun b hb => ⟨by rw [← hH3, upd_ne (Nat.ne_of_lt (fp2 b hb))]; exact (f2 b hb).1, (f2 b hb).2⟩
  refine wpAny_newFunctionEnv hcell (by intro y hy; simp at hy) (fun h4 hns4 hsb4 => ?_) hk
  have hC4 : ∀ b o, s3.heap.get? b = some o → h4.get? b = some o := fun b o z => (hsb4.2 b (Nat.ne_of_lt (Heap.lt_size z))).trans (Heap.get?_push_of_some _ z)
  have above : X.s₀.heap.objs.size ≤ s3.heap.objs.size := I3.sz
  have hok' : (cxLc X scope N cl s3 H3 pins fp).Ok := by
    refine ⟨I3.ok.mod, hk, I3.ok.glob, I3.ok.blt, Nat.le_refl _, ?_, ?_, ?_, I3.ok.hd, I3.ok.frames, .inl rfl, ?_, I3.bs, Nat.le_trans I3.ok.bsz I3.sz, ?_, ?_, I3.stack, I3.stkFree⟩
    · intro x y c a b
      exact I3.ok.inj x y c (F.clo x c a) (F.clo y c b)
    · intro x z
      exact F.has x z
    · intro x c z
      cases z
    · intro b hb
      refine ⟨Nat.ne_of_lt (show b < s3.heap.objs.size by rw [size3]; exact Nat.lt_succ_of_lt (fp2 b hb)), fun x c z => (f3 b hb).2.2.2.2.1 x c (F.clo x c z)⟩
    · intro b o z hb
      rcases (f3 b hb).2.2.2.1 with q | q
      · exact I3.ok.noex b o z q
      · exact absurd (Nat.lt_of_lt_of_le (Heap.lt_size z) I3.ok.bsz) (Nat.not_lt.mpr q)
    · intro b hb hf
      rcases List.mem_cons.mp (I3.stkSub b hf) with q | q
      · exact (f3 b hb).2.1 q
      · exact (f3 b hb).2.2.1 q
  have I4 : Inv (cxLc X scope N cl s3 H3 pins fp) [] (lcStart own fr σ) H3 { s3 with heap := h4, toks := s3.toks + ([] : List (Str × Value)).length } := by
    obtain ⟨m, nm, lk⟩ := I3.loc
    refine ⟨hok', rfl, I3.bare, Un.kept hC4, ⟨_, hns4, ?_⟩, ?_, I3.hok.fresh (Nat.le_refl _), ?_, ?_, I3.hok.kept hC4, ?_⟩
    · intro i x v hi hv _
      have hge : ¬ i < own := fun z => by
        unfold lcStart at hv
        rw [List.getElem?_append_left (by rw [List.length_replicate]; exact z), List.getElem?_replicate, if_pos z] at hv
        cases hv
      have hv' : (fr.map fun k => (σ[k]?).join)[i - own]? = some (some v) := by
        unfold lcStart at hv
        rw [List.getElem?_append_right (by rw [List.length_replicate]; lia), List.length_replicate] at hv
        exact hv
      rw [List.getElem?_map] at hv'
      cases ef : fr[i - own]? with
      | none => rw [ef] at hv'; cases hv'
      | some k =>
        rw [ef] at hv'
        have hσ : σ[k]? = some (some v) := by
          have z : (σ[k]?).join = some v := Option.some.inj hv'
          cases eσ : σ[k]? with
          | none => rw [eσ] at z; cases z
          | some y => rw [eσ] at z; exact congrArg some z
        obtain ⟨x', hx1, hx2, hx3, hx4, hx5, hx6⟩ := F.at_ _ _ ef
        have ex : x' = x := by
          rw [show own + (i - own) = i by lia] at hx1
          exact Option.some.inj (hx1.symm.trans hi)
        subst ex
        obtain ⟨u, ru, lu⟩ := lk k x' v hx2 hσ hx3
        refine ⟨u, ru, .inr ⟨hx6, ?_⟩⟩
        rcases lu with ⟨z, _⟩ | ⟨_, c, zc, zi⟩
        · exact absurd z hx4
        · obtain ⟨o, zo, zr⟩ := zi
          exact ⟨c, hx5 c zc, o, hC4 _ _ zo, zr⟩
    · intro x c z
      obtain ⟨v, o, zo, zr⟩ := I3.cell x c (F.clo x c z)
      exact ⟨v, o, hC4 _ _ zo, zr⟩
    · intro x c z
      exact I3.freeC x c (F.clo x c z)
    · intro p hp
      rw [List.append_nil] at hp
      obtain ⟨p1, p2, p3, p4, p5⟩ := I3.pin p hp
      refine ⟨hC4 _ _ p1, p2, Nat.ne_of_lt (Heap.lt_size p1), fun z => ?_, p5⟩
      rcases List.mem_cons.mp (I3.stkSub _ z) with q | q
      · exact p3 q
      · exact p4 q
    · show (lcStart own fr σ).length = N.length
      rw [F.len]
      simp [lcStart]
  have f4 : ∀ {H' : Hp}, (∀ b ∈ fp, H' b = none) → ∀ b ∈ fp, FpOk (cxLc X scope N cl s3 H3 pins fp) [] H' b := fun hn b hb =>
    ⟨hn b hb, (hok'.exf b hb).1, hok'.exfs b hb, .inl hb, (hok'.exf b hb).2, fun p hp => (f3 b hb).2.2.2.2.2 p (by rw [List.append_nil] at hp; exact hp)⟩
  have loop : ∀ s5 : Shared, s5 = { s3 with heap := h4, toks := s3.toks + ([] : List (Str × Value)).length } →
      codeAny (model X.prog X.w) X.A (.compLoop (.ListComp elt [⟨tg, iter, [tst], 0⟩] scope pos) 0 (.ref it) (.ref s2.heap.objs.size) (compEnvC scope cl s3.heap.objs.size X.env)) (RR (.ref s2.heap.objs.size) s3.heap.objs.size) s5 := by
    rintro s5 rfl
    refine lcI_loop (fun n s' => ∃ i σ' H', Inv (cxLc X scope N cl s3 H3 pins fp) [] σ' H' s' ∧ tn i s'.heap ∧ (∀ b ∈ fp, H' b = none) ∧ W i n σ' H') ?_ m0
      ⟨0, _, H3, I4, T.keep _ _ _ st3 fun b _ o z => hC4 b o z, fun b hb => (f3 b hb).1, w0⟩
    rintro n s' ⟨i, σ', H', I', st', fr', w'⟩
    rcases turn i n σ' H' w' with ⟨stop, qn⟩ | ⟨go, step⟩
    · refine thn (T.done (cxLc X scope N cl s3 H3 pins fp) rfl rfl rfl hc i [] s' σ' H' _ I' (f4 fr') st' stop) fun r s6 ⟨hr, I6⟩ => ?_
      subst hr
      refine hRR _ _ H' s6 qn ?_ I6.free ?_ ?_ ?_ above ?_
      · obtain ⟨m, nm, _⟩ := I6.loc
        exact ⟨m, nm⟩
      · exact Ne.symm (Nat.ne_of_lt I3.lt)
      · intro x c z
        obtain ⟨v, o, zo, _⟩ := I3.cell x c z
        exact Nat.ne_of_lt (Heap.lt_size zo)
      · intro p hp
        exact Nat.ne_of_lt (Heap.lt_size (I3.pin p hp).1)
      · intro h' sb
        have u : Un (frs X.stack) fp H3 H' s3.heap s6.heap := I6.base
        exact I3.call' (s' := { s6 with heap := h' }) (ch := fp) I6.os (u.off (Nat.le_refl _) sb) (I6.hok.off I6.free sb) I6.bare fun b hb => ⟨(f3 b hb).2.2.2.1, (f3 b hb).2.1, (f3 b hb).2.2.2.2.1, (f3 b hb).2.2.2.2.2⟩
    · refine thn (T.item (cxLc X scope N cl s3 H3 pins fp) rfl rfl rfl hc i [] s' σ' H' _ I' (f4 fr') st' go) fun r s6 ⟨u, hr, h6⟩ => ?_
      subst hr
      refine thn h6 fun _ s7 ⟨x, H7, I7, r7, y7, st7, fr7⟩ => ?_
      have I7' := I7.pinned (f4 fr7) (T.obj _ _ st7)
      have gg := hg s3 H3 pins fp _ s7 σ' H7 x u _ I7' r7 (step x H7 y7)
      rw [show (cxLc X scope N cl s3 H3 pins fp).xe = fun _ _ => False from hx] at gg
      refine thn gg fun _ s8 ⟨σ8, H8, I8, q8⟩ => ?_
      have tt8 := ht s3 H3 pins fp _ s8 σ8 H8 _ I8 q8
      rw [show (cxLc X scope N cl s3 H3 pins fp).xe = fun _ _ => False from hx] at tt8
      refine thn tt8 fun bb s11 ⟨H11, I11, q11⟩ => ?_
      cases bb with
      | false =>
        rw [if_neg Bool.false_ne_true] at q11 ⊢
        obtain ⟨m', hm, w9⟩ := q11
        refine ⟨m', hm, i + 1, σ8, _, I11.unpinned (pins := []), ?_, ?_, w9⟩
        · exact T.keep _ _ _ st7 fun b hb o z => (I11.pin (b, o) (List.mem_append_right _ (List.mem_append_right _ (mem_pinsAt hb z)))).1
        · intro b hb
          obtain ⟨o, z, d⟩ := T.obj _ _ st7 b hb
          exact (I11.pin (b, o) (List.mem_append_right _ (List.mem_append_right _ (mem_pinsAt hb z)))).2.1
      | true =>
      rw [if_pos rfl] at q11 ⊢
      have ee := he s3 H3 pins fp _ s11 σ8 H11 _ I11 q11
      rw [show (cxLc X scope N cl s3 H3 pins fp).xe = fun _ _ => False from hx] at ee
      refine thn ee fun uy s9 ⟨y, H9, I9, r9, ys, e9, l9, m', hm, w9⟩ => ?_
      have aa := mt_append (X := cxLc X scope N cl s3 H3 pins fp) _ s9 σ8 H9 (.ref s2.heap.objs.size) [y] (.ref s2.heap.objs.size) [uy] (fun _ Hz => Hz = upd H9 s2.heap.objs.size (.lst (ys ++ [y]))) I9 rfl (.cons r9 .nil) ⟨_, ys, y, rfl, rfl, e9, l9, rfl⟩
      rw [show (cxLc X scope N cl s3 H3 pins fp).xe = fun _ _ => False from hx] at aa
      refine thn aa fun _ s10 ⟨v, H10, I10, _, e10⟩ => ?_
      subst e10
      refine ⟨m', hm, i + 1, σ8, _, I10.unpinned (pins := []), ?_, ?_, w9⟩
      · exact T.keep _ _ _ st7 fun b hb o z => (I10.pin (b, o) (List.mem_append_right _ (List.mem_append_right _ (mem_pinsAt hb z)))).1
      · intro b hb
        obtain ⟨o, z, d⟩ := T.obj _ _ st7 b hb
        exact (I10.pin (b, o) (List.mem_append_right _ (List.mem_append_right _ (mem_pinsAt hb z)))).2.1
  exact codeAny_compStart_list (loop _ rfl) (T.self _ 0 _ _ _ (T.keep _ _ _ st3 fun b _ o z => hC4 b o z) (loop _ rfl))
theorem pe_lcI (hx : X.xe = fun _ _ => False) (hc : X.calm = true) (hi : PI X tg iter wi) (hclos : closureFor scope X.env = pure cl) (F : LcFree X scope cl N own fr) (hk : scope.kind = .function) (hcell : ∀ y ∈ scope.names, y.2 ≠ .cell)
    (hnm : ∀ y ∈ scope.names, y.2 = .local → scope.names.lookup y.1 = some .local) (hg : ∀ s H pins fp, PG (cxLc X scope N cl s H pins fp) tg g) (ht : ∀ s H pins fp, PT (cxLc X scope N cl s H pins fp) tst tt) (he : ∀ s H pins fp, PE (cxLc X scope N cl s H pins fp) elt te)
    (hs : ∀ x, foldedSetIterable iter X.env x = pure x := by intro _; rfl) : PE X (.ListComp elt [⟨tg, iter, [tst], 0⟩] scope pos) (tLcI wi g tt te own fr) := by
  intro pins s σ H Q I h
  rw [eval_ListComp]
  refine wpAny_comprehension_free (use := none) rfl hs hclos hk hnm ?_
  refine thn (hi pins s σ H _ I h) fun v s1 h1 => thn h1 fun itv s2 h2 => ?_
  refine lcI_block (RR := fun acc C => compPost (model X.prog X.w) X.A X.xe none (EP X pins σ Q) acc C) hx hc F hk hcell hg ht he h2 ?_
  intro D C H' s' q hm _ _ _ _ _ back
  obtain ⟨m, nm⟩ := hm
  exact ⟨m, nm, fun h' sb => ⟨.ref D, H', back h' sb, rfl, q⟩⟩
end

/-! ### a comprehension with a test, by a word over the turns -/
/-- behind a turn: the list grown by one or as it was, and the word -/
noncomputable abbrev LcSkip (Pv : Nat → St → Hp → Prop) (n i : Nat) (σ : St) (H : Hp) : Prop := ∃ m', m' < n - i ∧ (m' = n - (i + 1) ∧ i + 1 ≤ n ∧ Pv (i + 1) σ H)
theorem LcSkip.mk {Pv : Nat → St → Hp → Prop} {n i : Nat} {σ : St} {H : Hp} (hi : i < n) (p : Pv (i + 1) σ H) : LcSkip Pv n i σ H := ⟨n - (i + 1), by lia, rfl, hi, p⟩
section
variable {g : TG} {tt : TT} {te : TE} {own : Nat} {fr : List Nat} {σ : St} {H : Hp} {R : Hp → Prop} {D : Addr}
theorem lcI_of {J : It} {n : Nat} (Pv : Nat → St → Hp → Prop) (h0 : Pv 0 (lcStart own fr σ) (upd H D (.lst []))) (hgo : ∀ i σ H, i < n → Pv i σ H → J.go i H)
    (hs : ∀ i x H2 σ H, i < n → Pv i σ H → J.yld i H x H2 → g x σ H2 fun σ3 H3 => tt σ3 H3 fun b H5 => if b = true then te σ3 H5 fun y H4 => LcEnd Pv D n i σ3 y H4 else LcSkip Pv n i σ3 H5) (hd : ∀ σ H, Pv n σ H → J.stop n H ∧ R H) :
    ∃ W : Nat → Nat → St → Hp → Prop, (∃ m, W 0 m (lcStart own fr σ) (upd H D (.lst []))) ∧ ∀ i m σ' H', W i m σ' H' →
      (J.stop i H' ∧ R H') ∨ (J.go i H' ∧ ∀ x H2, J.yld i H' x H2 → g x σ' H2 fun σ3 H3 => tt σ3 H3 fun b H5 => if b = true then te σ3 H5 fun y H4 => ∃ ys, H4 D = some (.lst ys) ∧ ys.length < sizeLine ∧ ∃ m', m' < m ∧ W (i + 1) m' σ3 (upd H4 D (.lst (ys ++ [y]))) else ∃ m', m' < m ∧ W (i + 1) m' σ3 H5) := by
  refine ⟨fun i m σ H => m = n - i ∧ i ≤ n ∧ Pv i σ H, ⟨n, by simp, Nat.zero_le _, h0⟩, ?_⟩
  rintro i m σ' H' ⟨rfl, hi, p⟩
  by_cases hlt : i < n
  · exact .inr ⟨hgo i σ' H' hlt p, fun x H2 y => hs i x H2 σ' H' hlt p y⟩
  · have e : i = n := by lia
    subst e
    exact .inl (hd σ' H' p)
theorem lcI_list {K : PySem.W.Frag} {a : Addr} {xs : List V} (Pv : Nat → St → Hp → Prop) (h0 : Pv 0 (lcStart own fr σ) (upd H D (.lst []))) (hl : ∀ i σ H, i ≤ xs.length → Pv i σ H → SqL K H a xs)
    (hs : ∀ i x σ H, xs[i]? = some x → Pv i σ H → g x σ H fun σ3 H3 => tt σ3 H3 fun b H5 => if b = true then te σ3 H5 fun y H4 => LcEnd Pv D xs.length i σ3 y H4 else LcSkip Pv xs.length i σ3 H5) (hd : ∀ σ H, Pv xs.length σ H → R H) :
    ∃ W : Nat → Nat → St → Hp → Prop, (∃ m, W 0 m (lcStart own fr σ) (upd H D (.lst []))) ∧ ∀ i m σ' H', W i m σ' H' →
      ((Itl K a).stop i H' ∧ R H') ∨ ((Itl K a).go i H' ∧ ∀ x H2, (Itl K a).yld i H' x H2 → g x σ' H2 fun σ3 H3 => tt σ3 H3 fun b H5 => if b = true then te σ3 H5 fun y H4 => ∃ ys, H4 D = some (.lst ys) ∧ ys.length < sizeLine ∧ ∃ m', m' < m ∧ W (i + 1) m' σ3 (upd H4 D (.lst (ys ++ [y]))) else ∃ m', m' < m ∧ W (i + 1) m' σ3 H5) := by
  refine lcI_of (n := xs.length) Pv h0 (fun i σ H hi p => ⟨xs, xs[i], hl i σ H (Nat.le_of_lt hi) p, by simp [hi]⟩) (fun i x H2 σ H hi p y => ?_) (fun σ H p => ⟨⟨xs, hl _ σ H (Nat.le_refl _) p, Nat.le_refl _⟩, hd σ H p⟩)
  obtain ⟨e, y⟩ := y
  subst e
  exact hs i x σ _ (y xs (hl i σ _ (Nat.le_of_lt hi) p)) p
end
end L2

namespace L2
open PySem PySem.Spec PyProof.Rows PySem.W
/-! ### what the sort comes to, whatever the keys are -/
noncomputable def ltR (r : Nat → Int) (i j : Nat) : Bool := decide (r i < r j)
noncomputable def KP (r : Nat → Int) (n : Nat) {α : Type} (t : KasT α) (Q : α → Prop) : Prop := kasOk (ltR r) n t = true ∧ Q (kasEval (ltR r) t)
section
variable {r : Nat → Int} {n : Nat}
theorem KP.ret {α : Type} {a : α} {Q : α → Prop} (h : Q a) : KP r n (.ret a) Q := ⟨rfl, h⟩
theorem KP.ask {α : Type} {i j : Nat} {k : Bool → KasT α} {Q : α → Prop} (hi : i < n) (hj : j < n) (h1 : r i < r j → KP r n (k true) Q) (h2 : r j ≤ r i → KP r n (k false) Q) : KP r n (.ask i j k) Q := by
  have h : KP r n (k (ltR r i j)) Q := by
    by_cases c : r i < r j
    · rw [show ltR r i j = true from decide_eq_true c]
      exact h1 c
    · rw [show ltR r i j = false from decide_eq_false c]
      exact h2 (by lia)
  refine ⟨?_, h.2⟩
  show (decide (i < n) && decide (j < n) && kasOk (ltR r) n (k (ltR r i j))) = true
  rw [decide_eq_true hi, decide_eq_true hj, h.1]
  rfl
theorem kasEval_bind {α β : Type} {lt : Nat → Nat → Bool} {f : α → KasT β} : ∀ t : KasT α, kasEval lt (t.bind f) = kasEval lt (f (kasEval lt t))
  | .ret _ => rfl
  | .ask i j k => by
    show kasEval lt ((k (lt i j)).bind f) = kasEval lt (f (kasEval lt (k (lt i j))))
    exact kasEval_bind (k (lt i j))
theorem kasOk_bind {α β : Type} {lt : Nat → Nat → Bool} {f : α → KasT β} : ∀ t : KasT α, kasOk lt n t = true → kasOk lt n (f (kasEval lt t)) = true → kasOk lt n (t.bind f) = true
  | .ret _, _, h => h
  | .ask i j k, h1, h2 => by
    have h1' : (decide (i < n) && decide (j < n) && kasOk lt n (k (lt i j))) = true := h1
    rw [Bool.and_eq_true] at h1'
    show (decide (i < n) && decide (j < n) && kasOk lt n ((k (lt i j)).bind f)) = true
    rw [h1'.1, kasOk_bind (k (lt i j)) h1'.2 h2]
    rfl
theorem KP.bind {α β : Type} {t : KasT α} {f : α → KasT β} {Q : β → Prop} (h : KP r n t fun a => KP r n (f a) Q) : KP r n (t.bind f) Q :=
  ⟨kasOk_bind t h.1 h.2.1, by rw [kasEval_bind]; exact h.2.2⟩
theorem KP.mono {α : Type} {t : KasT α} {Q Q' : α → Prop} (h : KP r n t Q) (hq : ∀ a, Q a → Q' a) : KP r n t Q' := ⟨h.1, hq _ h.2⟩
noncomputable def kp (r : Nat → Int) (p : Array Nat) (i : Nat) : Int := r (p.getD i 0)
noncomputable def PmO (n : Nat) (p : Array Nat) : Prop := p.toList.Perm (List.range n)
theorem PmO.size {p : Array Nat} (h : PmO n p) : p.size = n := by
  have z := h.length_eq
  rw [List.length_range] at z
  exact z
theorem getD_at {p : Array Nat} {i : Nat} : p.getD i 0 = (p[i]?).getD 0 := by
  rw [Array.getD_eq_getD_getElem?]
theorem PmO.lt {p : Array Nat} (h : PmO n p) {i : Nat} (hi : i < n) : p.getD i 0 < n := by
  have hs := h.size
  have z : p.getD i 0 ∈ p.toList := by
    rw [getD_at, Array.getElem?_eq_getElem (by lia)]
    exact Array.getElem_mem_toList (by lia)
  exact List.mem_range.mp (h.mem_iff.mp z)
theorem PmO.rev {p : Array Nat} (h : PmO n p) (i j : Nat) : PmO n (kas_rev p i j) := (Array.perm_iff_toList_perm.mp (mirror_perm p i j ((j - i) / 2))).trans h
theorem PmO.bub {p : Array Nat} (h : PmO n p) (k d : Nat) : PmO n (bubble p k d) := (Array.perm_iff_toList_perm.mp (bubble_perm p k d)).trans h
theorem kp_rev {p : Array Nat} {i j : Nat} (hj : j ≤ p.size) (k : Nat) : kp r (kas_rev p i j) k = if i ≤ k ∧ k < j then kp r p (i + j - 1 - k) else kp r p k := by
  unfold kp kas_rev
  rw [getD_at, getElem?_mirror_all hj]
  by_cases c : i ≤ k ∧ k < j
  · rw [if_pos c, if_pos c, getD_at]
  · rw [if_neg c, if_neg c, getD_at]
theorem kp_bub {p : Array Nat} {src d : Nat} (hs : src < p.size) (hd : d ≤ src) (k : Nat) : kp r (bubble p src d) k = if k = src - d then kp r p src else if src - d < k ∧ k ≤ src then kp r p (k - 1) else kp r p k := by
  unfold kp
  rw [getD_at, getElem?_bubble hs d hd]
  by_cases c : k = src - d
  · rw [if_pos c, if_pos c, getD_at]
  · rw [if_neg c, if_neg c]
    by_cases c2 : src - d < k ∧ k ≤ src
    · rw [if_pos c2, if_pos c2, getD_at]
    · rw [if_neg c2, if_neg c2, getD_at]
noncomputable def Up (r : Nat → Int) (p : Array Nat) (k : Nat) : Prop := ∀ i j, i ≤ j → j < k → kp r p i ≤ kp r p j
noncomputable def Dn (r : Nat → Int) (p : Array Nat) (k : Nat) : Prop := ∀ i j, i ≤ j → j < k → kp r p j ≤ kp r p i
theorem Up.snoc {p : Array Nat} {k : Nat} (h : Up r p k) (h1 : 1 ≤ k) (hl : kp r p (k - 1) ≤ kp r p k) : Up r p (k + 1) := fun i j hi hj => by
  by_cases c : j < k
  · exact h i j hi c
  · have e : j = k := by lia
    subst e
    by_cases c2 : i = j
    · rw [c2]; exact Int.le_refl _
    · exact Int.le_trans (h i (j - 1) (by lia) (by lia)) hl
theorem Dn.snoc {p : Array Nat} {k : Nat} (h : Dn r p k) (h1 : 1 ≤ k) (hl : kp r p k ≤ kp r p (k - 1)) : Dn r p (k + 1) := fun i j hi hj => by
  by_cases c : j < k
  · exact h i j hi c
  · have e : j = k := by lia
    subst e
    by_cases c2 : i = j
    · rw [c2]; exact Int.le_refl _
    · exact Int.le_trans hl (h i (j - 1) (by lia) (by lia))
theorem kp_asc {p : Array Nat} (hp : PmO n p) : ∀ (f m : Nat), 1 ≤ m → m + f ≤ n → Up r p m → KP r n (kas_asc p f m) fun m' => m ≤ m' ∧ m' ≤ m + f ∧ Up r p m' ∧ (m' = m + f ∨ kp r p m' < kp r p (m' - 1))
  | 0, m, _, _, h => KP.ret ⟨Nat.le_refl _, Nat.le_refl _, h, .inl rfl⟩
  | f + 1, m, h1, hm, h => by
    refine KP.ask (hp.lt (by lia)) (hp.lt (by lia)) (fun c => ?_) (fun c => ?_)
    · exact KP.ret ⟨Nat.le_refl _, by lia, h, .inr c⟩
    · exact (kp_asc hp f (m + 1) (by lia) (by lia) (h.snoc h1 c)).mono fun m' ⟨a, b, c', d⟩ => ⟨by lia, by lia, c', by rcases d with d | d; exact .inl (by lia); exact .inr d⟩
/-- the last q + 1 of the first m are equal -/
noncomputable def Eqs (r : Nat → Int) (p : Array Nat) (m q : Nat) : Prop := ∀ i, m - (q + 1) ≤ i → i < m → kp r p i = kp r p (m - 1)
theorem rev_eqs {p : Array Nat} {m q : Nat} (hm : m ≤ p.size) (h : Eqs r p m q) (k : Nat) : kp r (kas_rev p (m - (q + 1)) m) k = kp r p k := by
  rw [kp_rev hm]
  split
  · rw [h _ (by lia) (by lia), h k (by lia) (by lia)]
  · rfl
theorem kp_desc : ∀ (f : Nat) (p : Array Nat) (m q : Nat), PmO n p → 1 ≤ m → m + f ≤ n → Dn r p m → Eqs r p m q → q + 1 ≤ m → KP r n (kas_desc f p m q) fun x => PmO n x.1 ∧ m ≤ x.2.1 ∧ x.2.1 ≤ n ∧ Dn r x.1 x.2.1 ∧ Eqs r x.1 x.2.1 x.2.2
  | 0, p, m, q, hp, h1, hm, hd, he, hq => KP.ret ⟨hp, Nat.le_refl _, by lia, hd, he⟩
  | f + 1, p, m, q, hp, h1, hm, hd, he, hq => by
    have hs := hp.size
    refine KP.ask (hp.lt (by lia)) (hp.lt (by lia)) (fun c => ?_) (fun c => ?_)
    · have c' : kp r p m < kp r p (m - 1) := c
      show KP r n (if true = true then (if q > 0 then kas_desc f (kas_rev p (m - (q + 1)) m) (m + 1) 0 else kas_desc f p (m + 1) 0) else _) _
      rw [if_pos rfl]
      by_cases z : q > 0
      · rw [if_pos z]
        have ek := rev_eqs (p := p) (by lia) he
        have hd' : Dn r (kas_rev p (m - (q + 1)) m) m := fun i j a b => by rw [ek, ek]; exact hd i j a b
        refine (kp_desc f (kas_rev p (m - (q + 1)) m) (m + 1) 0 (hp.rev _ _) (by lia) (by lia) (hd'.snoc h1 (by rw [ek, ek]; lia)) (fun i a b => ?_) (by lia)).mono fun x ⟨a, b, c, d, e⟩ => ⟨a, by lia, c, d, e⟩
        rw [show i = m + 1 - 1 by lia]
      · rw [if_neg z]
        refine (kp_desc f p (m + 1) 0 hp (by lia) (by lia) (hd.snoc h1 (by lia)) (fun i a b => ?_) (by lia)).mono fun x ⟨a, b, c, d, e⟩ => ⟨a, by lia, c, d, e⟩
        rw [show i = m + 1 - 1 by lia]
    · have c' : kp r p (m - 1) ≤ kp r p m := c
      refine KP.ask (hp.lt (by lia)) (hp.lt (by lia)) (fun c2 => ?_) (fun c2 => ?_)
      · exact KP.ret ⟨hp, Nat.le_refl _, (by show m ≤ n; lia), hd, he⟩
      · have c2' : kp r p m ≤ kp r p (m - 1) := c2
        refine (kp_desc f p (m + 1) (q + 1) hp (by lia) (by lia) (hd.snoc h1 c2') (fun i a b => ?_) (by lia)).mono fun x ⟨a, b, c, d, e⟩ => ⟨a, by lia, c, d, e⟩
        rw [show m + 1 - 1 = m by lia]
        by_cases z : i = m
        · rw [z]
        · rw [he i (by lia) (by lia)]
          lia
theorem kp_tail3 {p : Array Nat} {m : Nat} (hp : PmO n p) (h1 : 1 ≤ m) (hm : m ≤ n) (hd : Dn r p m) : KP r n (kas_tail3 m n p) fun x => PmO n x.2 ∧ 1 ≤ x.1 ∧ x.1 ≤ n ∧ Up r x.2 x.1 := by
  have hs := hp.size
  have up : Up r (kas_rev p 0 m) m := fun i j a b => by
    rw [kp_rev (by lia), kp_rev (by lia), if_pos (by lia), if_pos (by lia)]
    exact hd _ _ (by lia) (by lia)
  refine KP.bind ((kp_asc (hp.rev 0 m) (n - m) m h1 (by lia) up).mono fun m' ⟨a, b, c, _⟩ => KP.ret ⟨hp.rev 0 m, by show 1 ≤ m'; lia, by show m' ≤ n; lia, c⟩)
theorem kp_descPart {p : Array Nat} {m : Nat} (hp : PmO n p) (h1 : 1 ≤ m) (hm : m + 1 ≤ n) (hd : Dn r p (m + 1)) : KP r n (kas_descPart m n p) fun x => PmO n x.2 ∧ 1 ≤ x.1 ∧ x.1 ≤ n ∧ Up r x.2 x.1 := by
  refine KP.bind ((kp_desc (n - (m + 1)) p (m + 1) 0 hp (by lia) (by lia) hd (fun i a b => by rw [show i = m + 1 - 1 by lia]) (by lia)).mono fun x ⟨a, b, c, d, e⟩ => ?_)
  have hs := a.size
  by_cases z : x.2.2 > 0
  · rw [if_pos z]
    have ek := rev_eqs (p := x.1) (m := x.2.1) (q := x.2.2) (by lia) e
    exact kp_tail3 (a.rev _ _) (by lia) c fun i j u v => by rw [ek, ek]; exact d i j u v
  · rw [if_neg z]
    exact kp_tail3 a (by lia) c d
theorem kp_count {p : Array Nat} (hp : PmO n p) (h1 : 1 ≤ n) : KP r n (kas_count n p) fun x => PmO n x.2 ∧ 1 ≤ x.1 ∧ x.1 ≤ n ∧ Up r x.2 x.1 := by
  have hs := hp.size
  refine KP.bind ((kp_asc hp (n - 1) 1 (Nat.le_refl _) (by lia) fun i j a b => by rw [show i = j by lia]; exact Int.le_refl _).mono fun m ⟨a, b, c, d⟩ => ?_)
  by_cases z : m = n
  · rw [if_pos (by rw [z]; exact beq_self_eq_true n)]
    exact KP.ret ⟨hp, by show 1 ≤ m; lia, by show m ≤ n; lia, c⟩
  · rw [if_neg (by simpa using z)]
    have d' : kp r p m < kp r p (m - 1) := by
      rcases d with d | d
      · lia
      · exact d
    by_cases y : m > 1
    · rw [if_pos y]
      refine KP.ask (hp.lt (by lia)) (hp.lt (by lia)) (fun c2 => ?_) (fun c2 => ?_)
      · exact KP.ret ⟨hp, by show 1 ≤ m; lia, by show m ≤ n; lia, c⟩
      · have c2' : kp r p (m - 1) ≤ kp r p 0 := c2
        have eqs : Eqs r p m (m - 1) := fun i u v => by
          have a1 := c 0 i (by lia) (by lia)
          have a2 := c i (m - 1) (by lia) (by lia)
          lia
        have ek : ∀ k, kp r (kas_rev p 0 m) k = kp r p k := fun k => by
          have z := rev_eqs (p := p) (m := m) (q := m - 1) (by lia) eqs k
          rw [show m - (m - 1 + 1) = 0 by lia] at z
          exact z
        refine kp_descPart (hp.rev 0 m) (by lia) (by lia) fun i j u v => ?_
        rw [ek, ek]
        by_cases cj : j < m
        · rw [eqs i (by lia) (by lia), eqs j (by lia) cj]
          exact Int.le_refl _
        · rw [show j = m by lia]
          by_cases ci : i < m
          · rw [eqs i (by lia) ci]
            lia
          · rw [show i = m by lia]
            exact Int.le_refl _
    · rw [if_neg y]
      have em : m = 1 := by lia
      subst em
      refine kp_descPart hp (by lia) (by lia) fun i j u v => ?_
      by_cases ci : i = j
      · rw [ci]; exact Int.le_refl _
      · rw [show j = 1 by lia, show i = 0 by lia]
        have d'' : kp r p 1 < kp r p 0 := d'
        lia
theorem kp_place {p : Array Nat} (hp : PmO n p) {k : Nat} (hk : k < n) (hu : Up r p k) : ∀ (f a b : Nat), a ≤ b → b ≤ k → b - a ≤ f → (∀ i, i < a → kp r p i ≤ kp r p k) → (∀ i, b ≤ i → i < k → kp r p k < kp r p i) →
    KP r n (kas_place p k f a b) fun l => l ≤ k ∧ (∀ i, i < l → kp r p i ≤ kp r p k) ∧ ∀ i, l ≤ i → i < k → kp r p k < kp r p i
  | 0, a, b, h1, h2, h3, ha, hb => KP.ret ⟨by lia, ha, fun i u v => hb i (by lia) v⟩
  | f + 1, a, b, h1, h2, h3, ha, hb => by
    show KP r n (if a ≥ b then .ret a else .ask (p.getD k 0) (p.getD ((a + b) / 2) 0) fun c => if c = true then kas_place p k f a ((a + b) / 2) else kas_place p k f ((a + b) / 2 + 1) b) _
    by_cases c : a ≥ b
    · rw [if_pos c]
      exact KP.ret ⟨by lia, ha, fun i u v => hb i (by lia) v⟩
    · rw [if_neg c]
      refine KP.ask (hp.lt hk) (hp.lt (by lia)) (fun z => ?_) (fun z => ?_)
      · have z' : kp r p k < kp r p ((a + b) / 2) := z
        exact kp_place hp hk hu f a ((a + b) / 2) (by lia) (by lia) (by lia) ha fun i u v => by
          have := hu ((a + b) / 2) i u v
          lia
      · have z' : kp r p ((a + b) / 2) ≤ kp r p k := z
        exact kp_place hp hk hu f ((a + b) / 2 + 1) b (by lia) (by lia) (by lia) (fun i u => by
          have := hu i ((a + b) / 2) (by lia) (by lia)
          lia) hb
theorem kp_bin : ∀ (f : Nat) (p : Array Nat) (k : Nat), PmO n p → k + f = n → Up r p k → KP r n (kas_bin f p k) fun x => PmO n x ∧ Up r x n
  | 0, p, k, hp, hk, hu => KP.ret ⟨hp, by rw [← hk]; exact hu⟩
  | f + 1, p, k, hp, hk, hu => by
    have hs := hp.size
    refine KP.bind ((kp_place hp (by lia) hu k 0 k (by lia) (by lia) (by lia) (fun i u => by lia) (fun i u v => by lia)).mono fun l ⟨a, b, c⟩ => ?_)
    refine kp_bin f (bubble p k (k - l)) (k + 1) (hp.bub _ _) (by lia) fun i j u v => ?_
    have e : k - (k - l) = l := by lia
    rw [kp_bub (by lia) (by lia), kp_bub (by lia) (by lia), e]
    by_cases ci : i = l
    · rw [if_pos ci]
      by_cases cj : j = l
      · rw [if_pos cj]; exact Int.le_refl _
      · rw [if_neg cj, if_pos (by lia)]
        have := c (j - 1) (by lia) (by lia)
        lia
    · rw [if_neg ci]
      by_cases ci2 : l < i ∧ i ≤ k
      · rw [if_pos ci2, if_neg (by lia), if_pos (by lia)]
        exact hu _ _ (by lia) (by lia)
      · rw [if_neg ci2]
        by_cases cj : j = l
        · rw [if_pos cj]
          exact b i (by lia)
        · rw [if_neg cj]
          by_cases cj2 : l < j ∧ j ≤ k
          · rw [if_pos cj2]
            exact hu _ _ (by lia) (by lia)
          · rw [if_neg cj2]
            exact hu _ _ u (by lia)
/-- the sort puts the keys in order -/
theorem kp_sort (h1 : 1 ≤ n) : KP r n (kas_sort n) fun x => PmO n x ∧ Up r x n := by
  have h0 : PmO n (List.toArray (List.range n)) := by
    unfold PmO
    exact List.Perm.refl _
  refine KP.bind ((kp_count h0 h1).mono fun x ⟨a, b, c, d⟩ => ?_)
  by_cases z : x.1 < n
  · rw [if_pos z]
    have e : max x.1 1 = x.1 := by lia
    rw [e]
    exact kp_bin _ _ _ a (by lia) d
  · rw [if_neg z]
    have e : x.1 = n := by lia
    rw [e] at d
    exact KP.ret ⟨a, d⟩
end
end L2

namespace L2
open PySem PySem.Spec PyProof.Rows
/-! ### sorted of a list of pairs of ints -/
section
variable {prog : Program} {w : World} {A : Around} {E : Value → Shared → Prop} {s : Shared}
/-- the heap while a list at l is being sorted: emptied, its items held in a tuple, an empty list beside -/
noncomputable def heldAt (h : Heap) (l : Addr) (vs : List Value) : Heap := ((h.update l (Obj.mapSeq fun _ => #[])).push (seqObj "tuple" vs.toArray 0)).push (seqObj "list" #[] 0)
theorem held_get {h : Heap} {l : Addr} {vs : List Value} {n : Nat} (hl : h.get? l = some (seqObj "list" vs.toArray n)) : ∃ e, (h.update l (Obj.mapSeq fun _ => #[])).get? l = some (seqObj "list" #[] e) ∧ (heldAt h l vs).get? l = some (seqObj "list" #[] e) := by
  have lt := Heap.lt_size hl
  have up := get?_update_seq hl fun _ => #[]
  refine ⟨_, up, ?_⟩
  unfold heldAt
  have n1 : l ≠ ((h.update l (Obj.mapSeq fun _ => #[])).push (seqObj "tuple" vs.toArray 0)).objs.size := by
    rw [size_push', Heap.size_update]
    exact Nat.ne_of_lt (Nat.lt_succ_of_lt lt)
  have n2 : l ≠ (h.update l (Obj.mapSeq fun _ => #[])).objs.size := by
    rw [Heap.size_update]
    exact Nat.ne_of_lt lt
  rw [Heap.get?_push_ne _ _ _ n1, Heap.get?_push_ne _ _ _ n2, up]
theorem few {vs : List Value} (h : vs.length < 2) : vs.length ≤ sizeLine ∧ vs.toArray.size < 2 ∧ vs.toArray.size ≤ sizeLine := by
  have z : 2 ≤ sizeLine := by decide
  refine ⟨by lia, ?_, ?_⟩ <;> rw [List.size_toArray] <;> lia
theorem zip_few {vs : List Value} (h : vs.length < 2) : (vs.toArray.zip vs.toArray).map (·.2) = vs.toArray := by
  rcases vs with _ | ⟨a, _ | ⟨b, r⟩⟩
  · simp
  · simp
  · exact absurd h (Nat.not_lt.mpr (Nat.le_add_left 2 r.length))
/-- fewer than two items: nothing is compared -/
theorem sort_few {l : Addr} {vs : List Value} {n : Nat} {P : PySem.Fin → Shared → Prop} (hl : s.heap.get? l = some (seqObj "list" vs.toArray n)) (h2 : vs.length < 2)
    (fin : P (.done (.ret .none)) { s with heap := sortedHeap s.heap l vs vs.toArray }) : wpAny (model prog w) A (Builtin.«list.sort» ⟨[.ref l], []⟩) P E s := by
  obtain ⟨z1, z2, z3⟩ := few h2
  obtain ⟨e, g1, g2⟩ := held_get hl
  have out : (vs.toArray.zip vs.toArray).map (·.2) = vs.toArray := by
    exact zip_few h2
  rw [list_sort_plain]
  refine wpAny_bind (listItems_at hl rfl (wpAny_bind (listUpdate_at hl rfl (wpAny_bind (seqEpoch_at g1 rfl (wpAny_bind (wpAny_newTuple (wpAny_bind (wpAny_newList (wpAny_holding ?_))) z1)))) (hsz := z3))))
  show wpAny _ A _ P E { s with heap := heldAt s.heap l vs }
  dsimp only
  rw [if_pos z2, if_pos z2]
  refine wpAny_bind (wpAny_pure (?_ : wpAny _ A _ P E { s with heap := heldAt s.heap l vs }))
  rw [StateT.run_pure]
  refine wpAny_bind (wpAny_pure (?_ : wpAny _ A _ P E { s with heap := heldAt s.heap l vs }))
  dsimp only
  rw [show (arrOf (SortSt.mk' general' (vs.toArray.zip vs.toArray) #[] 7 none)).map (·.2) = vs.toArray from out]
  refine wpAny_bind (seqEpoch_at g2 rfl (wpAny_bind (listUpdate_at g2 rfl ?_ (hsz2 := Nat.le_succ_of_le z3))))
  rw [bne_self_eq_false]
  exact wpAny_pure fin
/-- the heap with the copy that sorted makes, at the place behind the next -/
noncomputable def copied (h : Heap) (vs : List Value) : Heap := ((h.push (seqObj "list" #[] 0)).update h.objs.size (Obj.mapSeq (· ++ vs.toArray))).push (seqObj "list" vs.toArray 0)
theorem copied_size (h : Heap) (vs : List Value) : ((h.push (seqObj "list" #[] 0)).update h.objs.size (Obj.mapSeq (· ++ vs.toArray))).objs.size = h.objs.size + 1 := (Heap.size_update ..).trans (size_push' ..)
theorem copied_get (h : Heap) (vs : List Value) : (copied h vs).get? (h.objs.size + 1) = some (seqObj "list" vs.toArray 0) := by
  have z := Heap.get?_push_size ((h.push (seqObj "list" #[] 0)).update h.objs.size (Obj.mapSeq (· ++ vs.toArray))) (o := seqObj "list" vs.toArray 0) rfl
  rw [copied_size] at z
  exact z
theorem sorted_few {l : Addr} {vs : List Value} {Q : Value → Shared → Prop} (hl : s.heap.IsList l vs.toArray) (h2 : vs.length < 2)
    (fin : Q (.ref (s.heap.objs.size + 1)) { s with heap := sortedAll s.heap vs vs.toArray }) : wpAny (model prog w) A (call (.builtin "sorted") [.ref l]) Q E s := by
  obtain ⟨z1, _, z3⟩ := few h2
  refine Calls.call_function_entry kind_sorted plain_sorted entry_sorted (args_sorted1 (.ref l)) ?_
  rw [Builtin.«sorted»]
  refine wpAny_bind (m := checkCount "sorted" 1 1 _) (wpAny_pure (wpAny_bind (collect_list hl (wpAny_bind (wpAny_newList ?_ z1)) z3)))
  show wpAny _ _ _ _ _ { s with heap := copied s.heap vs }
  rw [copied_size]
  have g := copied_get s.heap vs
  exact wpAny_bind (wpAny_holding (wpAny_call_entry slot_list_sort ⟨_, g, rfl⟩ entry_list_sort (sort_few g h2 ⟨_, rfl, wpAny_pure ⟨_, rfl, fin⟩⟩) (args_list_sort (.ref (s.heap.objs.size + 1)))))
theorem key_lt_pairs {x y : Addr} {ox oy : Obj} {a1 a2 b1 b2 : Int} {t1 t2 u1 u2 : Tok} {n k : Nat} {Q : Bool → Shared → Prop} (hx : s.heap.get? x = some ox) (dx : ox.data = .seq #[.int a1 t1, .int a2 t2] n) (hy : s.heap.get? y = some oy) (dy : oy.data = .seq #[.int b1 u1, .int b2 u2] k)
    (h : Q (decide (a1 < b1 ∨ a1 = b1 ∧ a2 < b2)) s) : wpAny (model prog w) A (keyLt' (tuples' true) (.ref x) (.ref y)) Q E s := by
  refine PySem.W.kat_lt hx dx hy dy (PySem.W.kat_cons (wpAny_eqBool_int (PySem.W.kat_go (fun e => PySem.W.kat_yes (PySem.W.kat_cons (wpAny_eqBool_int (PySem.W.kat_go (fun e2 => PySem.W.kat_yes (PySem.W.kat_nil ?_)) (fun e2 => PySem.W.kat_no (PySem.W.kat_one _ _ (lt_int ?_)))))) ) (fun e => PySem.W.kat_no (oneLt_int ?_)))))
  · have e' : a1 = b1 := by simpa using e
    have e2' : a2 = b2 := by simpa using e2
    have z : decide (a1 < b1 ∨ a1 = b1 ∧ a2 < b2) = false := decide_eq_false (by lia)
    rw [z] at h
    exact h
  · have e' : a1 = b1 := by simpa using e
    have z : decide (a1 < b1 ∨ a1 = b1 ∧ a2 < b2) = decide (a2 < b2) := by
      by_cases c : a2 < b2
      · rw [decide_eq_true c, decide_eq_true (.inr ⟨e', c⟩)]
      · rw [decide_eq_false c, decide_eq_false (by lia)]
    rw [z] at h
    exact h
  · have e' : ¬ a1 = b1 := by simpa using e
    have z : decide (a1 < b1 ∨ a1 = b1 ∧ a2 < b2) = decide (a1 < b1) := by
      by_cases c : a1 < b1
      · rw [decide_eq_true c, decide_eq_true (.inl c)]
      · rw [decide_eq_false c, decide_eq_false (by lia)]
    rw [z] at h
    exact h
end
end L2
namespace PN
open PySem PySem.Spec PyProof.Rows L2
noncomputable def leP (a b : Post) : Prop := a.1 < b.1 ∨ a.1 = b.1 ∧ a.2 ≤ b.2
/-- the tuple at a place, as the heap has it -/
noncomputable def PairAt (h : Heap) (r : Addr) (p : Post) : Prop := ∃ ob t1 t2 n, h.get? r = some ob ∧ ob.cls = .type "tuple" ∧ ob.data = .seq #[.int (p.1 : Nat) t1, .int (p.2 : Nat) t2] n
theorem katTups_of {h : Heap} : ∀ (rs : List Addr) (ps : List Post), rs.length = ps.length → (∀ (i : Nat) r p, rs[i]? = some r → ps[i]? = some p → PairAt h r p) →
    ∃ fs, PySem.W.KatTups h (rs.map Value.ref) fs ∧ fs.length = rs.length ∧ ∀ v ∈ fs, ∃ (i : Int) (t : Tok), v = .int i t
  | [], [], _, _ => ⟨[], .nil, rfl, fun v hv => by cases hv⟩
  | [], _ :: _, h, _ => by simp at h
  | _ :: _, [], h, _ => by simp at h
  | r :: rs, p :: ps, hl, k => by
    obtain ⟨fs, a, b, c⟩ := katTups_of rs ps (by simpa using hl) fun i r' p' x y => k (i + 1) r' p' (by simpa using x) (by simpa using y)
    obtain ⟨ob, t1, t2, n, e1, e2, e3⟩ := k 0 r p rfl rfl
    refine ⟨.int (p.1 : Nat) t1 :: fs, PySem.W.KatTups.cons e1 e2 e3 rfl a, by rw [List.length_cons, List.length_cons, b], fun v hv => ?_⟩
    rcases List.mem_cons.mp hv with z | z
    · exact ⟨_, _, z⟩
    · exact c v z
theorem key_bound : ∀ ps : List Post, ∃ M : Nat, ∀ p ∈ ps, p.2 < M
  | [] => ⟨0, fun p hp => by cases hp⟩
  | q :: ps => by
    obtain ⟨M, h⟩ := key_bound ps
    refine ⟨q.2 + 1 + M, fun p hp => ?_⟩
    rcases List.mem_cons.mp hp with z | z
    · rw [z]; lia
    · have := h p z; lia
noncomputable def keyM (M : Nat) (p : Post) : Int := ((p.1 * M + p.2 : Nat) : Int)
theorem keyM_lt {M : Nat} {p q : Post} (hp : p.2 < M) (hq : q.2 < M) : keyM M p < keyM M q ↔ (p.1 < q.1 ∨ p.1 = q.1 ∧ p.2 < q.2) := by
  unfold keyM
  rw [Int.ofNat_lt]
  constructor
  · intro h
    rcases Nat.lt_trichotomy p.1 q.1 with c | c | c
    · exact .inl c
    · rw [c] at h
      exact .inr ⟨c, by lia⟩
    · exfalso
      have z : (q.1 + 1) * M ≤ p.1 * M := Nat.mul_le_mul_right M c
      rw [Nat.add_mul, Nat.one_mul] at z
      lia
  · rintro (c | ⟨c, d⟩)
    · have z : (p.1 + 1) * M ≤ q.1 * M := Nat.mul_le_mul_right M c
      rw [Nat.add_mul, Nat.one_mul] at z
      lia
    · rw [c]
      lia
theorem map_getD_range {α : Type} (l : List α) (d : α) : (List.range l.length).map (fun i => l.getD i d) = l := by
  apply List.ext_getElem
  · rw [List.length_map, List.length_range]
  · intro i h1 h2
    rw [List.getElem_map, List.getElem_range, List.getD_eq_getElem?_getD, List.getElem?_eq_getElem h2]
    rfl
section
variable {X : Cx}
theorem call_sortedT {K : PySem.W.Frag} (hK : X.K = K) : CallR X (.builtin "sorted") (fun xs H Q => ∃ (p : Addr) (rs : List Addr) (ps : List Post), xs = [.ref p] ∧ SqL K H p (rs.map V.ref) ∧ Tups H rs ps ∧ rs.length < 64 ∧
    ∀ (l : Addr) (rs' : List Addr) (ps' : List Post), H l = none → Tups H rs' ps' → ps'.Perm ps → ps'.Pairwise leP → Q (.ref l) (upd H l (.lst (rs'.map V.ref)))) := by
  subst hK
  intro pins s σ H xs us Q I r h
  obtain ⟨p, rs, ps, rfl, hq, hT, h64, q⟩ := h
  obtain ⟨u, rfl, rx⟩ := vals1 r
  cases rx
  obtain ⟨its, r', pl, hz⟩ := I.list hq
  have hits : its = rs.map Value.ref := by
    clear hq pl hz h64 hT q
    have go : ∀ (rs : List Addr) (us : List Value), Vals (rs.map V.ref) us → us = rs.map Value.ref := by
      intro rs
      induction rs with
      | nil => intro us v; cases v; rfl
      | cons a rs ih =>
        intro us v
        cases v with
        | cons e t => cases e; rw [ih _ t]; rfl
    exact go rs its r'
  subst hits
  by_cases hshort : rs.length < 2
  · refine sorted_few pl.isList (by rw [List.length_map]; exact hshort) ?_
    obtain ⟨e, he⟩ := sortedAll_at s.heap (rs.map Value.ref) (rs.map Value.ref).toArray
    have hz' : (rs.map V.ref).length ≤ sizeLine := by
      rw [List.length_map]
      exact Nat.le_trans (Nat.le_of_lt h64) (by decide)
    refine ⟨.ref (s.heap.objs.size + 1), _, I.laid (t' := s.toks) (fun b o z => sortedAll_old z) (Nat.le_succ _) (show ObjOk X.prog X.w _ _ _ (.lst (rs.map V.ref)) from ⟨hz', rs.map Value.ref, e, r', ?_⟩), rfl, q _ rs ps (I.hok.fresh (Nat.le_succ _)) hT (List.Perm.refl _) ?_⟩
    · rw [he]
    · have hpl : ps.length < 2 := by rw [← hT.1]; exact hshort
      match ps, hpl with
      | [], _ => exact .nil
      | [x], _ => exact List.pairwise_singleton _ _
  · obtain ⟨m, F⟩ := I.fr
    have N := news_all (g := X.base) (h := s.heap) (L := X.env.locals)
    have inN : ∀ b o ob, H b = some o → s.heap.get? b = some ob → (b, ob) ∈ allNews X.base s.heap X.env.locals := fun b o ob hb ho => by
      refine mem_allNews (ne_of_none hb I.free) ?_ ho
      cases e : X.base.get? b with
      | none => rfl
      | some z => have := (I.bs b z e).2; rw [hb] at this; cases this
    have pairAt : ∀ (i : Nat) r p, rs[i]? = some r → ps[i]? = some p → PairAt s.heap r p ∧ H r = some (.tup [.int (p.1 : Nat), .int (p.2 : Nat)]) := fun i r p a b => by
      have hr := hT.2 i r p a b
      obtain ⟨_, its, v, ob, e1, e2, n, e3⟩ := (show ObjOk X.prog X.w H s.heap r (.tup [.int (p.1 : Nat), .int (p.2 : Nat)]) from I.hok _ _ hr)
      cases v with
      | cons v1 v =>
        cases v with
        | cons v2 v =>
          cases v
          obtain ⟨t1, rfl⟩ := v1
          obtain ⟨t2, rfl⟩ := v2
          exact ⟨⟨ob, t1, t2, n, e1, e2, e3⟩, hr⟩
    obtain ⟨M, hM⟩ := key_bound ps
    have hlen := hT.1
    have sorts := kp_sort (r := fun i => keyM M (ps.getD i (0, 0))) (n := rs.length) (by lia)
    refine PySem.W.kat_sorted F N pl.isList (by rw [List.length_map]; lia) (by rw [List.length_map]; exact h64) (fun D e1 h' F' N' hD => ?_)
    have here : ∀ (i : Nat) r p, rs[i]? = some r → ps[i]? = some p → PairAt h' r p := fun i r p a b => by
      obtain ⟨⟨ob, t1, t2, n, g1, g2, g3⟩, hr⟩ := pairAt i r p a b
      exact ⟨ob, t1, t2, n, (N' _ (List.mem_cons_of_mem _ (inN r _ _ hr g1))).1, g2, g3⟩
    obtain ⟨fs, kt, kl, ki⟩ := katTups_of rs ps hlen here
    refine PySem.W.kat_kind (T := .type "int") kt (by lia) (fun v hv => ?_) (by decide +kernel) ?_
    · obtain ⟨i, t, rfl⟩ := ki v hv
      exact PySem.W.Looks.of_pure rfl
    · rw [List.length_map]
      refine kas_by (lt := ltR fun i => keyM M (ps.getD i (0, 0))) (n := rs.length) (fun i j C hi hj hC => ?_) _ sorts.1 ?_
      · have e1 : rs[i]? = some (rs.getD i 0) := by rw [List.getD_eq_getElem?_getD, List.getElem?_eq_getElem hi]; rfl
        have e2 : rs[j]? = some (rs.getD j 0) := by rw [List.getD_eq_getElem?_getD, List.getElem?_eq_getElem hj]; rfl
        have f1 : ps[i]? = some (ps.getD i (0, 0)) := by rw [List.getD_eq_getElem?_getD, List.getElem?_eq_getElem (by lia)]; rfl
        have f2 : ps[j]? = some (ps.getD j (0, 0)) := by rw [List.getD_eq_getElem?_getD, List.getElem?_eq_getElem (by lia)]; rfl
        obtain ⟨o1, t1, t2, n1, g1, _, g3⟩ := here i _ _ e1 f1
        obtain ⟨o2, u1, u2, n2, k1, _, k3⟩ := here j _ _ e2 f2
        have a1 : (rs.map Value.ref).getD i Value.none = .ref (rs.getD i 0) := by
          rw [List.getD_eq_getElem?_getD, List.getElem?_map, e1]
          rfl
        have a2 : (rs.map Value.ref).getD j Value.none = .ref (rs.getD j 0) := by
          rw [List.getD_eq_getElem?_getD, List.getElem?_map, e2]
          rfl
        unfold PySem.W.kas_ask
        rw [a1, a2]
        refine key_lt_pairs g1 g3 k1 k3 ?_
        have z : ltR (fun i => keyM M (ps.getD i (0, 0))) i j = decide (((ps.getD i (0, 0)).1 : Int) < ((ps.getD j (0, 0)).1 : Int) ∨ ((ps.getD i (0, 0)).1 : Int) = ((ps.getD j (0, 0)).1 : Int) ∧ ((ps.getD i (0, 0)).2 : Int) < ((ps.getD j (0, 0)).2 : Int)) := by
          unfold ltR
          rw [Bool.eq_iff_iff, decide_eq_true_iff, decide_eq_true_iff, keyM_lt (hM _ (List.mem_of_getElem? f1)) (hM _ (List.mem_of_getElem? f2))]
          lia
        rw [z] at hC
        exact hC
      · obtain ⟨perm, up⟩ := sorts.2
        generalize kasEval (ltR fun i => keyM M (ps.getD i (0, 0))) (PySem.W.kas_sort rs.length) = arr at perm up ⊢
        have hlt : ∀ i ∈ arr.toList, i < rs.length := fun i hi => List.mem_range.mp (perm.mem_iff.mp hi)
        have hal : arr.toList.length = rs.length := by rw [perm.length_eq, List.length_range]
        have hDn : s.heap.get? D = none ∧ D ≠ X.env.locals := by
          have z := N' (D, _) List.mem_cons_self
          refine ⟨?_, z.2.1⟩
          cases e : s.heap.get? D with
          | none => rfl
          | some ob => exact absurd (hD _ (mem_allNews z.2.1 z.2.2 e)) (Nat.lt_irrefl _)
        have HDn : H D = none := by
          cases e : H D with
          | none => rfl
          | some o =>
            obtain ⟨ob, eo⟩ := (I.hok D o e).there
            rw [hDn.1] at eo
            cases eo
        refine PySem.W.KasFin.intro F' N' (.head fun p hp => ?_) (fun h2 c F2 N2 => ?_)
        · intro z
          have zz := hD p hp
          rw [z] at zz
          exact Nat.lt_irrefl _ zz
        · have kp : ∀ b o, b ≠ X.env.locals → s.heap.get? b = some o → h2.get? b = some o := fun b o hb ho => by
            cases e : X.base.get? b with
            | some z =>
              have zz := (I.bs b z e).1
              rw [ho] at zz
              cases zz
              exact F2.keep b _ e
            | none => exact (N2 (b, o) (List.mem_cons_of_mem _ (mem_allNews hb e ho))).1
          have hv : Vals ((arr.toList.map fun i => rs.getD i 0).map V.ref) (arr.toList.map fun i => (rs.map Value.ref).getD i Value.none) := by
            rw [List.map_map]
            refine paired_map (F := RelV) arr.toList fun i hi => ?_
            have hi' := hlt i hi
            show (rs.map Value.ref).getD i Value.none = Value.ref (rs.getD i 0)
            rw [List.getD_eq_getElem?_getD, List.getD_eq_getElem?_getD, List.getElem?_map, List.getElem?_eq_getElem hi']
            rfl
          have hok2 : HOk X.prog X.w (upd H D (.lst ((arr.toList.map fun i => rs.getD i 0).map V.ref))) h2 := by
            intro b o hb
            by_cases e : b = D
            · subst e
              rw [upd_same] at hb
              cases hb
              exact ⟨by rw [List.length_map, List.length_map, hal]; exact Nat.le_trans (Nat.le_of_lt h64) (by decide), _, c, hv, (N2 (b, _) List.mem_cons_self).1⟩
            · rw [upd_ne e] at hb
              refine (I.hok b o hb).stay (fun b' o' hb' e' => ?_) (fun b' hb' => ?_) (fun b' xs' hb' => ?_)
              · rcases hb' with z | z
                · rw [z] at e' ⊢
                  exact kp b o' (ne_of_none hb I.free) e'
                · exact kp b' o' (ne_of_none z I.free) e'
              · rw [upd_ne (ne_of_none hb' HDn)]; exact hb'
              · rw [upd_ne (ne_of_none hb' HDn)]; exact hb'
          refine ⟨.ref D, _, I.quietly (t' := s.toks) F.ns F2.ns kp (fun b o h1 h3 => ?_) (fun b o h1 => ?_) hok2, rfl, q D _ (arr.toList.map fun i => ps.getD i (0, 0)) HDn ?_ ?_ ?_⟩
          · rw [upd_ne]
            · exact h3
            · intro z
              rw [z, hDn.1] at h1
              cases h1
          · rw [upd_ne (ne_of_none h1 HDn)]
            exact h1
          · refine ⟨by rw [List.length_map, List.length_map], fun i r p a b => ?_⟩
            obtain ⟨m, hm, rfl⟩ := map_get a
            rw [List.getElem?_map, hm] at b
            have hb : p = ps.getD m (0, 0) := (Option.some.inj b).symm
            have hml := hlt m (List.mem_of_getElem? hm)
            rw [hb]
            exact hT.2 m _ _ (by rw [List.getD_eq_getElem?_getD, List.getElem?_eq_getElem hml]; rfl) (by rw [List.getD_eq_getElem?_getD, List.getElem?_eq_getElem (by lia)]; rfl)
          · have z := perm.map (fun i => ps.getD i (0, 0))
            rw [hlen, map_getD_range] at z
            exact z
          · rw [List.pairwise_iff_getElem]
            intro i j hi hj hij
            rw [List.length_map] at hi hj
            have u := up i j (Nat.le_of_lt hij) (by lia)
            unfold L2.kp at u
            have g : ∀ k (hk : k < arr.toList.length), arr.getD k 0 = arr.toList[k] := fun k hk => by
              rw [Array.getD_eq_getD_getElem?, Array.getElem?_eq_getElem (by simpa using hk)]
              simp
            rw [g i hi, g j hj] at u
            rw [List.getElem_map, List.getElem_map]
            have m1 := hlt _ (List.getElem_mem hi)
            have m2 := hlt _ (List.getElem_mem hj)
            have b1 : (ps.getD arr.toList[i] (0, 0)).2 < M := hM _ (List.mem_of_getElem? (i := arr.toList[i]) (by rw [List.getD_eq_getElem?_getD, List.getElem?_eq_getElem (by lia)]; rfl))
            have b2 : (ps.getD arr.toList[j] (0, 0)).2 < M := hM _ (List.mem_of_getElem? (i := arr.toList[j]) (by rw [List.getD_eq_getElem?_getD, List.getElem?_eq_getElem (by lia)]; rfl))
            have u' : keyM M (ps.getD arr.toList[i] (0, 0)) ≤ keyM M (ps.getD arr.toList[j] (0, 0)) := u
            have nl : ¬ keyM M (ps.getD arr.toList[j] (0, 0)) < keyM M (ps.getD arr.toList[i] (0, 0)) := by lia
            rw [keyM_lt b2 b1] at nl
            unfold leP
            lia
end
end PN
namespace L2
open PySem PySem.Spec PyProof.Rows
end L2

namespace PN
open PySem L2
/-! ### the plain net -/
noncomputable def plainP (n : Nat) : List Post := (List.range n).map fun i => (i, i + 1)
theorem plainP_succ (n : Nat) : plainP (n + 1) = plainP n ++ [(n, n + 1)] := by
  unfold plainP
  rw [List.range_succ, List.map_append]
  rfl
theorem plainP_length (n : Nat) : (plainP n).length = n := by
  unfold plainP
  rw [List.length_map, List.length_range]
noncomputable def plainFrom : Nat → List Post
  | 0 => []
  | n + 1 => plainP (n + 1) ++ plainFrom n
theorem passAll_app (ps qs : List Post) (xs : List Int) : passAll (ps ++ qs) xs = passAll qs (passAll ps xs) := by
  unfold passAll
  rw [List.foldl_append]
/-! ### a part of the row -/
noncomputable def sh (k : Nat) (p : Post) : Post := (p.1 + k, p.2 + k)
/-! ### posts with a lane that is not there -/
/-! ### by halves -/
noncomputable def rungs (a c s : Nat) : List Post := (List.range (c / (2 * s) - 1)).map fun k => (a + s + 2 * s * k, a + s + 2 * s * k + s)
noncomputable def mergedP : Nat → Nat → Nat → Nat → List Post
  | 0, _, _, _ => []
  | f + 1, a, c, s => if c ≤ 2 * s then [(a, a + s)] else mergedP f a c (2 * s) ++ mergedP f (a + s) c (2 * s) ++ rungs a c s
noncomputable def hv : Nat → List Post
  | 0 => []
  | d + 1 => hv d ++ (hv d).map (sh (2 ^ d)) ++ mergedP (d + 1) 0 (2 ^ (d + 1)) 1
noncomputable def lg (w : Nat) : Nat := if w ≤ 1 then 0 else if w ≤ 2 then 1 else if w ≤ 4 then 2 else if w ≤ 8 then 3 else if w ≤ 16 then 4 else 5
noncomputable def byHalves (w : Nat) : List Post := (hv (lg w)).filter fun p => decide (p.2 < w)
theorem lg_le (w : Nat) : lg w ≤ 5 := by
  unfold lg
  split
  · lia
  · split
    · lia
    · split
      · lia
      · split
        · lia
        · split <;> lia
/-! ### nets that sort, and posts more or fewer -/
theorem plain_length : ∀ n : Nat, (plainFrom n).length ≤ n * n
  | 0 => Nat.le_refl _
  | n + 1 => by
    rw [show plainFrom (n + 1) = plainP (n + 1) ++ plainFrom n from rfl, List.length_append, plainP_length]
    have ih := plain_length n
    have e : (n + 1) * (n + 1) = n * n + n + n + 1 := by rw [Nat.add_mul, Nat.mul_add]; lia
    lia
theorem Tups.app {H : Hp} {rs qs : List Addr} {ps os : List Post} (h : Tups H rs ps) (k : Tups H qs os) : Tups H (rs ++ qs) (ps ++ os) := by
  refine ⟨by rw [List.length_append, List.length_append, h.1, k.1], fun i r p a b => ?_⟩
  rw [List.getElem?_append] at a b
  by_cases c : i < rs.length
  · rw [if_pos c] at a
    rw [if_pos (h.1 ▸ c)] at b
    exact h.2 i r p a b
  · rw [if_neg c] at a
    rw [if_neg (h.1 ▸ c), ← h.1] at b
    exact k.2 _ r p a b
theorem seq_by {t u : TS} {D : Ends} {σ : St} {H : Hp} (R : St → Hp → Prop) (h1 : ∀ N : St → Hp → Prop, (∀ σ H, R σ H → N σ H) → t { D with nx := N } σ H) (h2 : ∀ σ H, R σ H → u D σ H) : tSeq t u D σ H := h1 (u D) h2
end PN

namespace PN
open PySem PySem.Spec PyProof.Rows L2
/-! ### None not in a list of Nones and lists of ints -/
noncomputable def rNoneNotIn (K : PySem.W.Frag) : R2 := fun x y H Q => ∃ p xs, x = .non ∧ y = .ref p ∧ SqL K H p xs ∧ (∀ v ∈ xs, v = .non ∨ ∃ d ns, v = .ref d ∧ Ints H d ns) ∧ Q (.bl (!xs.any fun v => decide (v = .non))) H
noncomputable def isNoneU : Value → Bool
  | .none => true
  | _ => false
theorem any_none {H : Hp} : ∀ {xs : List V} {us : List Value}, Vals xs us → (∀ v ∈ xs, v = .non ∨ ∃ d ns, v = .ref d ∧ Ints H d ns) → us.any isNoneU = xs.any fun v => decide (v = .non)
  | _, _, .nil, _ => rfl
  | x :: xs, u :: us, .cons r t, h => by
    rw [List.any_cons, List.any_cons, any_none t fun v hv => h v (List.mem_cons_of_mem _ hv)]
    congr 1
    rcases h x List.mem_cons_self with e | ⟨d, ns, e, _⟩
    · subst e
      cases r
      rfl
    · subst e
      cases r
      rfl
theorem mem_vals : ∀ {xs : List V} {us : List Value}, Vals xs us → ∀ u ∈ us, ∃ v ∈ xs, RelV v u
  | _, _, .nil, u, hu => by cases hu
  | x :: xs, u' :: us, .cons r t, u, hu => by
    rcases List.mem_cons.mp hu with e | e
    · rw [e]
      exact ⟨x, List.mem_cons_self, r⟩
    · obtain ⟨v, hv, rv⟩ := mem_vals t u e
      exact ⟨v, List.mem_cons_of_mem _ hv, rv⟩
theorem op_noneNotIn {X : Cx} (hu : X.A.units + 64 < cLine) : OpR X (compareOp .NotIn) (rNoneNotIn X.K) := by
  intro pins s σ H x y v u Q I rx ry h
  obtain ⟨p, xs, rfl, rfl, hq, hall, q⟩ := h
  cases rx
  cases ry
  obtain ⟨its, r, pl, hz⟩ := I.list hq
  refine SeqAt.notIn_listAt isNoneU pl.isList (fun w hw => ?_) ⟨.bl _, H, I, rfl, ?_⟩
  · obtain ⟨v, hv, rv⟩ := mem_vals r w (by simpa using hw)
    rcases hall v hv with e | ⟨d, ns, e, hd⟩
    · subst e
      have z := eqAt_V (A := X.A.in1) (s := s) (y := .non) (x := .non) rv (show RelV .non Value.none from rfl) rfl rfl
      cases rv
      exact z
    · subst e
      obtain ⟨as, ra⟩ := DtV.ints (P := X.prog) (w := X.w) hd _ I.hok _ rv
      obtain ⟨bs, rb⟩ := DtV.non (P := X.prog) (w := X.w) (H := H) _ I.hok Value.none rfl
      have z := SeqAt.eqAt_reads _ _ X.A.in1 s w Value.none as bs ra rb (by
        have := PySem.W.shaped_ints ns
        unfold SeqAt.shaped at this
        rw [Bool.and_eq_true] at this
        exact this.1) rfl (by
        have e : min (PyData.depth (.list (ns.map PyData.int))) (PyData.depth .none) ≤ PyData.depth .none := Nat.min_le_right _ _
        have e2 : PyData.depth .none ≤ 60 := by decide
        show X.A.units + 1 + _ < cLine
        lia)
      cases rv
      exact z
  · rw [show its.toArray.any isNoneU = its.any isNoneU by simp, any_none r hall]
    exact q
end PN

namespace PN
open PySem L2
noncomputable def hvA : Nat → Nat → List Post
  | 0, _ => []
  | d + 1, a => hvA d a ++ hvA d (a + 2 ^ d) ++ mergedP (d + 1) a (2 ^ (d + 1)) 1
noncomputable def rungsN (a s k : Nat) : List Post := (List.range k).map fun k => (a + s + 2 * s * k, a + s + 2 * s * k + s)
theorem rungsN_succ (a s k : Nat) : rungsN a s (k + 1) = rungsN a s k ++ [(a + s + 2 * s * k, a + s + 2 * s * k + s)] := by
  unfold rungsN
  rw [List.range_succ, List.map_append]
  rfl
theorem merged_length : ∀ (f a c s : Nat), c ≤ 64 → (mergedP f a c s).length + 64 ≤ 2 ^ f * 64
  | 0, a, c, s, h => by show 0 + 64 ≤ 1 * 64; lia
  | f + 1, a, c, s, h => by
    have i1 := merged_length f a c (2 * s) h
    have i2 := merged_length f (a + s) c (2 * s) h
    have hp : 1 ≤ 2 ^ f := Nat.one_le_two_pow
    show (if c ≤ 2 * s then [(a, a + s)] else mergedP f a c (2 * s) ++ mergedP f (a + s) c (2 * s) ++ rungs a c s).length + 64 ≤ 2 ^ (f + 1) * 64
    rw [Nat.pow_succ]
    split
    · show 1 + 64 ≤ _
      lia
    · rw [List.length_append, List.length_append]
      have z : (rungs a c s).length ≤ 64 := by
        unfold rungs
        rw [List.length_map, List.length_range]
        have := Nat.div_le_self c (2 * s)
        lia
      lia
theorem hvA_length : ∀ (d a : Nat), d ≤ 5 → (hvA d a).length + 2048 ≤ 2048 * 2 ^ d
  | 0, a, _ => by show 0 + 2048 ≤ 2048 * 1; lia
  | d + 1, a, h => by
    have i1 := hvA_length d a (by lia)
    have i2 := hvA_length d (a + 2 ^ d) (by lia)
    have hc : 2 ^ (d + 1) ≤ 2 ^ 5 := Nat.pow_le_pow_right (by decide) h
    have m := merged_length (d + 1) a (2 ^ (d + 1)) 1 (by lia)
    have e : 2 ^ (d + 1) * 64 ≤ 2048 := by lia
    show (hvA d a ++ hvA d (a + 2 ^ d) ++ mergedP (d + 1) a (2 ^ (d + 1)) 1).length + 2048 ≤ 2048 * 2 ^ (d + 1)
    rw [List.length_append, List.length_append]
    rw [Nat.pow_succ] at *
    lia
theorem hvA_hv : ∀ d, d ≤ 5 → hvA d 0 = hv d := by
  have h : ∀ d ∈ List.range 6, hvA d 0 = hv d := by decide +kernel
  exact fun d hd => h d (List.mem_range.mpr (by lia))
theorem lg_of {d w : Nat} (h5 : d ≤ 5) (hw : w ≤ 2 ^ d) (hd : d = 0 ∨ 2 ^ (d - 1) < w) : lg w = d := by
  have h : d = 0 ∨ d = 1 ∨ d = 2 ∨ d = 3 ∨ d = 4 ∨ d = 5 := by lia
  unfold lg
  rcases h with rfl | rfl | rfl | rfl | rfl | rfl <;> simp at hw hd <;> (repeat' split) <;> lia
theorem filter_take {ps : List Post} {w i : Nat} {p : Post} (h : ps[i]? = some p) : (ps.take (i + 1)).filter (fun p => decide (p.2 < w)) = (ps.take i).filter (fun p => decide (p.2 < w)) ++ (if p.2 < w then [p] else []) := by
  rw [take_snoc h, List.filter_append]
  by_cases c : p.2 < w
  · rw [if_pos c, List.filter_cons, if_pos (decide_eq_true c)]
    rfl
  · rw [if_neg c, List.filter_cons, if_neg (by simpa using c)]
    rfl
noncomputable def actB (ps : List Post) (k : Nat) (r : List Int) : Bool := acts (passAll (ps.take k) r) (ps.getD k (0, 0))
/-- what is known of a post behind some rows -/
noncomputable def At1 (H : Hp) (rows : List (List Int)) (ps : List Post) (j : Nat) (v : V) : Prop := (v = .non ∧ rows.find? (actB ps j) = none) ∨ ∃ d r, v = .ref d ∧ rows.find? (actB ps j) = some r ∧ Ints H d r
noncomputable def DueOk (H : Hp) (ds : List V) (rows : List (List Int)) (ps : List Post) : Prop := ds.length = ps.length ∧ ∀ j v, ds[j]? = some v → At1 H rows ps j v
theorem At1.mono {H H' : Hp} {rows : List (List Int)} {ps : List Post} {j : Nat} {v : V} (h : At1 H rows ps j v) (s : ∀ d r, v = .ref d → Ints H d r → Ints H' d r) : At1 H' rows ps j v := by
  rcases h with h | ⟨d, r, e, f, i⟩
  · exact .inl h
  · exact .inr ⟨d, r, e, f, s d r e i⟩
theorem At1.no {H : Hp} {rows : List (List Int)} {ps : List Post} {j i : Nat} {v : V} {row : List Int} (hr : rows[i]? = some row) (h : At1 H (rows.take i) ps j v) (c : actB ps j row = false) : At1 H (rows.take (i + 1)) ps j v := by
  rw [take_snoc hr]
  rcases h with ⟨e, f⟩ | ⟨d, r, e, f, x⟩
  · exact .inl ⟨e, by rw [List.find?_append, f, List.find?_cons, c]; rfl⟩
  · exact .inr ⟨d, r, e, by rw [List.find?_append, f]; rfl, x⟩
theorem At1.old {H : Hp} {rows : List (List Int)} {ps : List Post} {j i : Nat} {d : Addr} {row : List Int} (hr : rows[i]? = some row) (h : At1 H (rows.take i) ps j (.ref d)) : At1 H (rows.take (i + 1)) ps j (.ref d) := by
  rw [take_snoc hr]
  rcases h with ⟨e, f⟩ | ⟨d', r, e, f, x⟩
  · cases e
  · exact .inr ⟨d', r, e, by rw [List.find?_append, f]; rfl, x⟩
theorem At1.yes {H H' : Hp} {rows : List (List Int)} {ps : List Post} {j i : Nat} {d : Addr} {row : List Int} (hr : rows[i]? = some row) (h : At1 H (rows.take i) ps j .non) (c : actB ps j row = true) (x : Ints H' d row) : At1 H' (rows.take (i + 1)) ps j (.ref d) := by
  rw [take_snoc hr]
  rcases h with ⟨e, f⟩ | ⟨d', r, e, f, x⟩
  · exact .inr ⟨d, row, rfl, by rw [List.find?_append, f, List.find?_cons, c]; rfl, x⟩
  · cases e
theorem rep_non (n : Nat) : (List.replicate n [V.non]).flatten = List.replicate n V.non := by
  induction n with
  | zero => rfl
  | succ n ih => rw [List.replicate_succ, List.flatten_cons, ih, List.replicate_succ]; rfl
/-! ### thinning -/
noncomputable def thinN (w : Nat) (ps : List Post) : Nat → List Post
  | 0 => []
  | j + 1 => thinN w ps j ++ (if ((rowsP w).find? (actB ps j)).isSome = true then [ps.getD j (0, 0)] else [])
noncomputable def thinP (w : Nat) (ps : List Post) : List Post := thinN w ps ps.length
theorem thinN_length {w : Nat} {ps : List Post} : ∀ j, (thinN w ps j).length ≤ j
  | 0 => Nat.le_refl _
  | j + 1 => by
    have ih := thinN_length (w := w) (ps := ps) j
    show (thinN w ps j ++ _).length ≤ j + 1
    rw [List.length_append]
    split
    · show _ + 1 ≤ _
      lia
    · show _ + 0 ≤ _
      lia
end PN

namespace L2
open PySem PySem.Spec PyProof.Rows
/-! ### zip of two lists, its pairs taken apart -/
section
variable {X : Cx} {pins : List (Addr × Obj)} {σ : St} {H : Hp} {s : Shared} {h' : Heap}
/-- several records of an iterator's own have turned -/
theorem Inv.turnedL {ch : List Addr} {t' : Nat} (I : Inv X pins σ H s) (hf : ∀ b ∈ ch, FpOk X pins H b) (k : ∀ b o, b ∉ ch → s.heap.get? b = some o → h'.get? b = some o) : Inv X pins σ H { s with heap := h', toks := t' } := by
  have nin : ∀ b u, H b = some u → b ∉ ch := fun b u e z => by have q := (hf b z).1; rw [e] at q; cases q
  refine I.step (g' := s.gens) (d' := s.drawn) (ch := ch) (fun b hb => ?_) (fun b o _ _ hc e _ => k b o hc e) (fun b o _ _ hc e _ => ⟨o.slots, k b o hc e⟩) (fun _ _ _ _ n => n)
    (fun b o hc e => ⟨o, k b o hc e⟩) (fun _ _ e => e) (fun _ _ _ e => e) (fun b ps e => ⟨#[], by rw [e]; simp⟩) (fun m hm => ?_) (fun b u e => ?_) I.bare
  · obtain ⟨_, f1, f2, f3, f4, f5⟩ := hf b hb
    exact ⟨f3, f1, f4, f5⟩
  · exact hm.at' fun o e' => k _ o (fun z => (hf _ z).2.1 rfl) e'
  · refine (I.hok b u e).stay (fun b' o' hb' e' => ?_) (fun b' hb' => hb') (fun b' xs' hb' => hb')
    rcases hb' with q' | q'
    · subst q'
      exact k _ _ (nin _ _ e) e'
    · exact k _ _ (nin _ _ q') e'
/-- the same, and a pair laid -/
theorem Inv.turnedPair {ch : List Addr} {t' : Nat} {x y : V} {u v : Value} (I : Inv X pins σ H s) (hf : ∀ b ∈ ch, FpOk X pins H b) (k : ∀ b o, b ∉ ch → s.heap.get? b = some o → h'.get? b = some o) (lt : ∀ b ∈ ch, b < s.heap.objs.size)
    (ru : RelV x u) (rv : RelV y v) (hT : h'.get? s.heap.objs.size = some { cls := .type "tuple", data := .seq #[u, v] }) : Inv X pins σ (upd H s.heap.objs.size (.tup [x, y])) { s with heap := h', toks := t' } := by
  have nin : ∀ b u, H b = some u → b ∉ ch := fun b u e z => by have q := (hf b z).1; rw [e] at q; cases q
  have hn : H s.heap.objs.size = none := I.hok.fresh (Nat.le_refl _)
  refine I.step (g' := s.gens) (d' := s.drawn) (ch := ch) (fun b hb => ?_) (fun b o _ _ hc e _ => k b o hc e) (fun b o _ _ hc e _ => ⟨o.slots, k b o hc e⟩) (fun b o _ h1 h3 => by rw [upd_ne (Nat.ne_of_lt (Heap.lt_size h1))]; exact h3)
    (fun b o hc e => ⟨o, k b o hc e⟩) (fun b xs' hb => by rw [upd_ne (ne_of_none hb hn)]; exact hb) (fun b o u' hb => by rw [upd_ne (ne_of_none hb hn)]; exact hb) (fun b ps hb => ⟨#[], by rw [upd_ne (ne_of_none hb hn)]; simpa using hb⟩) (fun m hm => ?_) (fun b o hb => ?_) I.bare
  · obtain ⟨_, f1, f2, f3, f4, f5⟩ := hf b hb
    exact ⟨f3, f1, f4, f5⟩
  · exact hm.at' fun o e' => k _ o (fun z => (hf _ z).2.1 rfl) e'
  · by_cases q : b = s.heap.objs.size
    · subst q
      rw [upd_same] at hb
      cases hb
      exact ⟨by show 2 ≤ sizeLine; decide, [u, v], .cons ru (.cons rv .nil), ⟨_, hT, rfl, _, rfl⟩⟩
    · rw [upd_ne q] at hb
      refine (I.hok b o hb).stay (fun b' o' hb' e' => ?_) (fun b' hb' => ?_) (fun b' xs' hb' => ?_)
      · rcases hb' with q' | q'
        · subst q'
          exact k _ _ (nin _ _ hb) e'
        · exact k _ _ (nin _ _ q') e'
      · rw [upd_ne (ne_of_none hb' hn)]; exact hb'
      · rw [upd_ne (ne_of_none hb' hn)]; exact hb'
end
noncomputable def Itz (K : PySem.W.Frag) (a b : Addr) : It :=
  ⟨fun i H => ∃ xs ys x y, SqL K H a xs ∧ SqL K H b ys ∧ xs[i]? = some x ∧ ys[i]? = some y,
   fun i H x H' => ∃ p u v, x = .ref p ∧ H p = none ∧ H' = upd H p (.tup [u, v]) ∧ (∀ xs, SqL K H a xs → xs[i]? = some u) ∧ ∀ ys, SqL K H b ys → ys[i]? = some v,
   fun i H => ∃ xs ys, SqL K H a xs ∧ SqL K H b ys ∧ (xs.length ≤ i ∨ ys.length ≤ i)⟩
theorem turn_zip {P : Program} {w : World} {K : PySem.W.Frag} {es : List Expr} {k : Nat} {tp : Pos} (l1 l2 z TI TO i1 i2 : Addr) (D : ZipApart z TI TO i1 i2 l1 l2) :
    Turn P w K (.Tuple es k tp) (Itz K l1 l2) [z, TI, TO, i1, i2] z (fun i h => IsZip h z TI TO .none ∧ IsPair h TI (.ref i1) (.ref i2) ∧ (∃ a b, IsPair h TO a b) ∧ h.IsListIter i1 l1 i ∧ h.IsListIter i2 l2 i) where
  mem := by simp
  obj := fun i h st b hb => by
    obtain ⟨hz, hTI, ⟨a, b', hTO⟩, ⟨o1, e1, c1, d1⟩, ⟨o2, e2, c2, d2⟩⟩ := st
    simp only [List.mem_cons, List.not_mem_nil, or_false] at hb
    rcases hb with q | q | q | q | q
    · subst q
      exact ⟨_, hz, fun v z => by
        have z' : Data.fields _ = Data.cell v := z
        cases z'⟩
    · subst q
      exact ⟨_, hTI, fun v z => by
        have z' : Data.seq _ _ = Data.cell v := z
        cases z'⟩
    · subst q
      exact ⟨_, hTO, fun v z => by
        have z' : Data.seq _ _ = Data.cell v := z
        cases z'⟩
    · subst q
      exact ⟨o1, e1, fun v z => by rw [d1] at z; cases z⟩
    · subst q
      exact ⟨o2, e2, fun v z => by rw [d2] at z; cases z⟩
  keep := fun i h h' st k => by
    obtain ⟨hz, hTI, ⟨a, b', hTO⟩, h1, h2⟩ := st
    exact ⟨k z (by simp) _ hz, k TI (by simp) _ hTI, ⟨a, b', k TO (by simp) _ hTO⟩, h1.at fun o x => k i1 (by simp) o x, h2.at fun o x => k i2 (by simp) o x⟩
  item := by
    intro X hP hw hK hc i pins s σ H E I hf st hg
    subst hP hw hK
    obtain ⟨xs, ys, x, y, hq1, hq2, hx, hy⟩ := hg
    obtain ⟨its1, rv1, p1, _⟩ := I.list hq1
    obtain ⟨its2, rv2, p2, _⟩ := I.list hq2
    obtain ⟨u, hu, ru⟩ := rv1.get hx
    obtain ⟨v, hv, rv⟩ := rv2.get hy
    obtain ⟨hz, hTI, ⟨a, b, hTO⟩, h1, h2⟩ := st
    have zl := Heap.lt_size hz
    have TIl := Heap.lt_size hTI
    have TOl := Heap.lt_size hTO
    have i1l : i1 < s.heap.objs.size := by obtain ⟨o, e, _⟩ := h1; exact Heap.lt_size e
    have i2l : i2 < s.heap.objs.size := by obtain ⟨o, e, _⟩ := h2; exact Heap.lt_size e
    refine wpAny_pyNext_zip_item D hz hTI hTO h1 h2 p1.isList p2.isList (x := u) (y := v) (by simpa using hu) (by simpa using hv) fun h' hz' hTO' h1' h2' hT hsz hk => ?_
    refine ⟨_, rfl, ?_⟩
    refine wpAny_letOwnedTupleGo_zip (s := { s with heap := h' }) hz' fun h3 hz3 hs3 => ?_
    have keep2 : ∀ b o, b ∉ [z, TO, i1, i2] → s.heap.get? b = some o → h3.get? b = some o := fun b o hb e => by
      simp only [List.mem_cons, List.not_mem_nil, or_false, not_or] at hb
      exact (hs3.2 b hb.1).trans (hk b o hb.1 hb.2.1 hb.2.2.1 hb.2.2.2 e)
    have sub : ∀ b ∈ [z, TO, i1, i2], b ∈ [z, TI, TO, i1, i2] := fun b hb => by
      simp only [List.mem_cons, List.not_mem_nil, or_false] at hb ⊢
      rcases hb with q | q | q | q
      · exact .inl q
      · exact .inr (.inr (.inl q))
      · exact .inr (.inr (.inr (.inl q)))
      · exact .inr (.inr (.inr (.inr q)))
    have hT3 : h3.get? s.heap.objs.size = some { cls := .type "tuple", data := .seq #[u, v] } := (hs3.2 _ (Nat.ne_of_gt zl)).trans hT
    have I2 : Inv X pins σ (upd H s.heap.objs.size (.tup [x, y])) { s with heap := h3, toks := s.toks } := I.turnedPair (ch := [z, TO, i1, i2]) (fun b hb => hf b (sub b hb)) keep2 (fun b hb => by
      simp only [List.mem_cons, List.not_mem_nil, or_false] at hb
      rcases hb with q | q | q | q <;> subst q <;> assumption) ru rv hT3
    refine ⟨.ref s.heap.objs.size, _, I2, rfl, ⟨_, x, y, rfl, I.hok.fresh (Nat.le_refl _), rfl, fun zs hy' => by rw [I.list_inj hy' hq1]; exact hx, fun zs hy' => by rw [I.list_inj hy' hq2]; exact hy⟩, ⟨hz3, ?_, ⟨u, v, ?_⟩, ?_, ?_⟩, fun b hb => ?_⟩
    · exact (hs3.2 TI D.TIz).trans (hk TI _ D.TIz D.TITO D.TIi1 D.TIi2 hTI)
    · exact (hs3.2 TO D.TOz).trans hTO'
    · exact h1'.at fun o e => (hs3.2 i1 D.i1z).trans e
    · exact h2'.at fun o e => (hs3.2 i2 D.i2z).trans e
    · rw [upd_ne]
      · exact (hf b hb).1
      · simp only [List.mem_cons, List.not_mem_nil, or_false] at hb
        rcases hb with q | q | q | q | q <;> subst q <;> exact Nat.ne_of_lt (by assumption)
  done := by
    intro X hP hw hK hc i pins s σ H E I hf st hg
    subst hP hw hK
    obtain ⟨xs, ys, hq1, hq2, hx⟩ := hg
    obtain ⟨its1, rv1, p1, _⟩ := I.list hq1
    obtain ⟨its2, rv2, p2, _⟩ := I.list hq2
    obtain ⟨hz, hTI, ⟨a, b, hTO⟩, h1, h2⟩ := st
    have hl1 := rv1.length
    have hl2 := rv2.length
    refine wpAny_pyNext_zip_end (I.ok.hd hc) D hz hTI hTO h1 h2 p1.isList p2.isList ?_ fun h' eb => ⟨rfl, I.turnedL (ch := [z, TO, i1, i2]) (t' := s.toks) (fun b hb => hf b ?_) (fun b o hb e => ?_)⟩
    · rcases hx with q | q
      · exact .inl (by simp; lia)
      · exact .inr (by simp; lia)
    · simp only [List.mem_cons, List.not_mem_nil, or_false] at hb ⊢
      rcases hb with q | q | q | q
      · exact .inl q
      · exact .inr (.inr (.inl q))
      · exact .inr (.inr (.inr (.inl q)))
      · exact .inr (.inr (.inr (.inr q)))
    · simp only [List.mem_cons, List.not_mem_nil, or_false, not_or] at hb
      exact eb b o hb.1 hb.2.1 hb.2.2.1 hb.2.2.2 e
  self := fun _ _ _ _ _ st h => wpAny_pyIter_zip st.1 h
section
variable {X : Cx}
noncomputable def iZip (K : PySem.W.Frag) (ta : TA) : TI := fun σ H R => ta σ H fun vs H1 => ∃ a b, vs = [.ref a, .ref b] ∧ (∃ xs, SqL K H1 a xs) ∧ (∃ ys, SqL K H1 b ys) ∧ R (Itz K a b) H1
theorem pi_zip {es : List Expr} {k : Nat} {tp : Pos} {a b : Expr} {ta : TA} {p pos : Pos} (hg : Gl X "zip") (hm : X.mg "zip" = none) (ha : PA X [a, b] ta) (hs : starEach [a, b] X.env = [(false, eval a X.env), (false, eval b X.env)] := by rfl) (hs2 : starEach [b] X.env = [(false, eval b X.env)] := by rfl) :
    PI X (.Tuple es k tp) (.Call (.Name "zip" p) [a, b] [] pos) (iZip X.K ta) := by
  intro pins s σ H R I h
  refine Call_ (ld_blt I hg hm boot_zip (PyProof.Rows.callWith_type1 (thn (ha pos pins s σ H _ I h) fun us s1 ⟨vs, H1, I1, r1, q1⟩ => ?_) (by rw [hs, hs2]) (by rw [hs2]; rfl)))
  obtain ⟨a', b', e, ⟨xs, hq⟩, ⟨ys, hq'⟩, q⟩ := q1
  subst e
  cases r1 with
  | cons r rr =>
    cases rr with
    | cons r' rr =>
      cases rr
      cases r
      cases r'
      obtain ⟨its, rv, p, hz⟩ := I1.list hq
      obtain ⟨its', rv', p', hz'⟩ := I1.list hq'
      have a1 : a' < s1.heap.objs.size := by obtain ⟨_, e, _⟩ := p.isList; exact Heap.lt_size e
      have a2 : b' < s1.heap.objs.size := by obtain ⟨_, e, _⟩ := p'.isList; exact Heap.lt_size e
      refine call_zip_2 p.isList p'.isList fun h' gz gTI gTO g1 g2 hsz hk => ?_
      refine wpAny_pyIter_zip (s := { s1 with heap := h' }) gz ?_
      have I2 : Inv X pins σ H1 { s1 with heap := h' } := I1.kept (t' := s1.toks) hk
      refine ⟨s1.heap.objs.size + 4, [s1.heap.objs.size + 4, s1.heap.objs.size + 2, s1.heap.objs.size + 3, s1.heap.objs.size, s1.heap.objs.size + 1], _, _, H1, rfl, I2, turn_zip a' b' _ _ _ _ _ (zipApart_new a1 a2), ⟨gz, gTI, ⟨_, _, gTO⟩, g1, g2⟩, fun b hb => ?_, q⟩
      have le : s1.heap.objs.size ≤ b := by
        simp only [List.mem_cons, List.not_mem_nil, or_false] at hb
        rcases hb with q | q | q | q | q <;> subst q
        · exact Nat.le_add_right _ _
        · exact Nat.le_add_right _ _
        · exact Nat.le_add_right _ _
        · exact Nat.le_refl _
        · exact Nat.le_add_right _ _
      exact I1.fpOk le (I1.hok.fresh le)
end
theorem for_zip {K : PySem.W.Frag} {a b : Addr} {xs ys : List V} {g : TG} {tb : TS} {D : Ends} {σ : St} {H : Hp} (Pv : Nat → St → Hp → Prop) (hle : xs.length = ys.length) (h0 : Pv 0 σ H) (hl : ∀ i σ H, i ≤ xs.length → Pv i σ H → SqL K H a xs ∧ SqL K H b ys)
    (hs : ∀ i x y p σ H, xs[i]? = some x → ys[i]? = some y → Pv i σ H → H p = none → g (.ref p) σ (upd H p (.tup [x, y])) fun σ2 H2 => tb { D with nx := Pv (i + 1), ct := Pv (i + 1), bk := D.nx } σ2 H2) (hd : ∀ σ H, Pv xs.length σ H → D.nx σ H) :
    ∃ W : Nat → Nat → St → Hp → Prop, (∃ m, W 0 m σ H) ∧ ∀ i m σ H, W i m σ H →
      ((Itz K a b).stop i H ∧ D.nx σ H) ∨ ((Itz K a b).go i H ∧ ∃ N : St → Hp → Prop, (∀ σ' H', N σ' H' → ∃ m', m' < m ∧ W (i + 1) m' σ' H') ∧ ∀ x H', (Itz K a b).yld i H x H' → g x σ H' fun σ2 H2 => tb { D with nx := N, ct := N, bk := D.nx } σ2 H2) := by
  refine ⟨fun i m σ H => m = xs.length - i ∧ i ≤ xs.length ∧ Pv i σ H, ⟨xs.length, by simp, Nat.zero_le _, h0⟩, ?_⟩
  rintro i m σ H ⟨rfl, hi, p⟩
  obtain ⟨q1, q2⟩ := hl i σ H hi p
  by_cases hlt : i < xs.length
  · have hlt2 : i < ys.length := hle ▸ hlt
    refine .inr ⟨⟨xs, ys, xs[i], ys[i], q1, q2, by simp [hlt], by simp [hlt2]⟩, Pv (i + 1), fun σ' H' p' => ⟨xs.length - (i + 1), by lia, rfl, hlt, p'⟩, fun x H' y => ?_⟩
    obtain ⟨t, u, v, e, ht, e', y1, y2⟩ := y
    subst e e'
    exact hs i u v t σ _ (y1 xs q1) (y2 ys q2) p ht
  · have e : i = xs.length := by lia
    subst e
    exact .inl ⟨⟨xs, ys, q1, q2, .inl (Nat.le_refl _)⟩, hd σ H p⟩
section
variable {g : TG} {tt : TT} {te : TE} {own : Nat} {fr : List Nat} {σ : St} {H : Hp} {R : Hp → Prop} {D : Addr}
/-- the same in a comprehension with a test -/
theorem lcI_zip {K : PySem.W.Frag} {a b : Addr} {xs ys : List V} (hle : xs.length = ys.length) (Pv : Nat → St → Hp → Prop) (h0 : Pv 0 (lcStart own fr σ) (upd H D (.lst []))) (hl : ∀ i σ H, i ≤ xs.length → Pv i σ H → SqL K H a xs ∧ SqL K H b ys)
    (hs : ∀ i x y p σ H, xs[i]? = some x → ys[i]? = some y → Pv i σ H → H p = none → g (.ref p) σ (upd H p (.tup [x, y])) fun σ3 H3 => tt σ3 H3 fun b H5 => if b = true then te σ3 H5 fun y H4 => LcEnd Pv D xs.length i σ3 y H4 else LcSkip Pv xs.length i σ3 H5)
    (hd : ∀ σ H, Pv xs.length σ H → R H) :
    ∃ W : Nat → Nat → St → Hp → Prop, (∃ m, W 0 m (lcStart own fr σ) (upd H D (.lst []))) ∧ ∀ i m σ' H', W i m σ' H' →
      ((Itz K a b).stop i H' ∧ R H') ∨ ((Itz K a b).go i H' ∧ ∀ x H2, (Itz K a b).yld i H' x H2 → g x σ' H2 fun σ3 H3 => tt σ3 H3 fun b H5 => if b = true then te σ3 H5 fun y H4 => ∃ ys, H4 D = some (.lst ys) ∧ ys.length < sizeLine ∧ ∃ m', m' < m ∧ W (i + 1) m' σ3 (upd H4 D (.lst (ys ++ [y]))) else ∃ m', m' < m ∧ W (i + 1) m' σ3 H5) := by
  refine lcI_of (n := xs.length) (J := Itz K a b) Pv h0 (fun i σ H hi p => ?_) (fun i x H2 σ H hi p y => ?_) fun σ H p => ?_
  · obtain ⟨q1, q2⟩ := hl i σ H (Nat.le_of_lt hi) p
    exact ⟨xs, ys, xs[i], ys[i]'(hle ▸ hi), q1, q2, by simp [hi], by simp [hle ▸ hi]⟩
  · obtain ⟨q1, q2⟩ := hl i σ H (Nat.le_of_lt hi) p
    obtain ⟨t, u, v, e, ht, e', y1, y2⟩ := y
    subst e e'
    exact hs i u v t σ _ (y1 xs q1) (y2 ys q2) p ht
  · obtain ⟨q1, q2⟩ := hl _ σ H (Nat.le_refl _) p
    exact ⟨⟨xs, ys, q1, q2, .inl (Nat.le_refl _)⟩, hd σ H p⟩
end
end L2

namespace L2
open PySem PySem.Spec PyProof.Rows
/-! ### range(a, b, c), c above nought -/
noncomputable def Its (lo c : Int) (n : Nat) : It := ⟨fun i _ => i < n, fun i H x H' => H' = H ∧ x = .int (lo + (i : Nat) * c), fun i _ => n ≤ i⟩
theorem turn_step {P : Program} {w : World} {K : PySem.W.Frag} {tg : Expr} (it : Addr) (lo c : Int) (n : Nat) : Turn P w K tg (Its lo c n) [it] it (fun i h => IsRangeIter h it (lo + (i : Nat) * c) ((n : Int) - (i : Nat)) c) where
  mem := by simp
  obj := fun i h st b hb => by
    have e : b = it := by simpa using hb
    subst e
    exact ⟨_, st, fun v z => by
      have z' : Data.fields _ = Data.cell v := z
      cases z'⟩
  keep := fun i h h' st k => k it (by simp) _ st
  item := by
    intro X hP hw hK hc i pins s σ H E I hf st hg
    subst hP hw hK
    obtain ⟨f0, f1, f2, f3, f4, f5⟩ := hf it (by simp)
    have W := Walks.range (prog := X.prog) (w := X.w) (I.ok.hd hc) it lo c n
    refine W.item i s _ _ hg st fun v h' tk hv st' kk => ?_
    obtain ⟨t, rfl⟩ := hv
    have I1 : Inv X pins σ H { s with heap := h', toks := tk } := I.turned (fun b o hb e => kk b o (by simpa using hb) e) f0 f1 f3 f4 f5
    exact ⟨_, rfl, go_of (s := { s with heap := h', toks := tk }) (n := "range_iterator") st' rfl rfl (by decide) ⟨.int (lo + (i : Nat) * c), H, I1, ⟨t, rfl⟩, ⟨rfl, rfl⟩, st', fun b hb => (hf b hb).1⟩⟩
  done := by
    intro X hP hw hK hc i pins s σ H E I hf st hg
    subst hP hw hK
    obtain ⟨f0, f1, f2, f3, f4, f5⟩ := hf it (by simp)
    exact wpAny_pyNext_range_end (I.ok.hd hc) st (by have : n ≤ i := hg; lia) fun h' eb => ⟨rfl, I.turned (t' := s.toks) (fun b o hb e => eb b o hb e) f0 f1 f3 f4 f5⟩
  self := fun _ _ _ _ _ st h => wpAny_pyIter_rangeiter st h
section
variable {X : Cx} {tg : Expr}
noncomputable def iRngS (ta : TA) : TI := fun σ H R => ta σ H fun vs H1 => ∃ (i j c : Int) (n : Nat), vs = [.int i, .int j, .int c] ∧ (-100000 ≤ i ∧ i < 100000 ∧ -100000 ≤ j ∧ j < 100000 ∧ 0 < c ∧ c < 100000) ∧ (if i < j then (j - i - 1) / c + 1 else 0) = (n : Int) ∧ R (Its i c n) H1
theorem small_step {a b c : Int} {n : Nat} (h1 : -100000 ≤ a) (h2 : a < 100000) (h3 : -100000 ≤ b) (h4 : b < 100000) (h5 : 0 < c) (h6 : c < 100000) (e : (if a < b then (b - a - 1) / c + 1 else 0) = (n : Int)) : Builtin.Range.small a b c = true ∧ Builtin.Range.rangeSize a b c = (n : Int) := by
  have e' : Builtin.Range.rangeSize a b c = (n : Int) := by
    unfold Builtin.Range.rangeSize
    rw [if_pos h5]
    exact e
  refine ⟨?_, e'⟩
  unfold Builtin.Range.small
  rw [e']
  have hz0 : 0 ≤ (n : Int) := by lia
  have hz : (n : Int) ≤ 200000 := by
    rw [← e]
    split
    · have : (b - a - 1) / c ≤ b - a - 1 := Int.ediv_le_self _ (by lia)
      lia
    · lia
  generalize (n : Int) = z at hz hz0
  simp only [Builtin.Range.rangeFitsLong, Bool.and_eq_true, Bool.or_eq_true, decide_eq_true_eq, beq_iff_eq]
  rw [if_pos h5, Bool.and_eq_true, decide_eq_true_eq, decide_eq_true_eq]
  lia
theorem pi_rangeS {a b c : Expr} {ta : TA} {p pos : Pos} (hg : Gl X "range") (hm : X.mg "range" = none) (ha : PA X [a, b, c] ta) (hs : starEach [a, b, c] X.env = [(false, eval a X.env), (false, eval b X.env), (false, eval c X.env)] := by rfl)
    (hs2 : starEach [b, c] X.env = [(false, eval b X.env), (false, eval c X.env)] := by rfl) : PI X tg (.Call (.Name "range" p) [a, b, c] [] pos) (iRngS ta) := by
  intro pins s σ H R I h
  refine Call_ (ld_blt I hg hm boot_range (PyProof.Rows.callWith_type1 (thn (ha pos pins s σ H _ I h) fun us s1 ⟨vs, H1, I1, r1, q1⟩ => ?_) (by rw [hs, hs2]) (by rw [hs2]; rfl)))
  obtain ⟨i, j, c, n, e, ⟨q1, q2, q3, q4, q5, q6⟩, en, q⟩ := q1
  subst e
  cases r1 with
  | cons r rr =>
    cases rr with
    | cons r' rr =>
      cases rr with
      | cons r2 rr =>
        cases rr
        obtain ⟨t, rfl⟩ := r
        obtain ⟨t', rfl⟩ := r'
        obtain ⟨t2, rfl⟩ := r2
        obtain ⟨sm, sz⟩ := small_step q1 q2 q3 q4 q5 q6 en
        refine call_range_3 (by lia) ?_ (Or.inl (PyProof.noPylong_small (by lia)))
        refine wpAny_pyIter_range (IsRange.new ..) sm ?_
        have I2 : Inv X pins σ H1 { s1 with heap := s1.heap.push { cls := .type "range", data := .fields #[.int i t, .int j t', .int c t2] }, toks := s1.toks } := I1.kept fun b o e => Heap.get?_push_of_some _ e
        refine ⟨_, [_], _, _, H1, rfl, I2.kept (t' := s1.toks) fun b o e => Heap.get?_push_of_some _ e, turn_step _ i c n, ?_, fun b hb => ?_, q⟩
        · have e1 : i + ((0 : Nat) : Int) * c = i := by rw [show ((0 : Nat) : Int) = 0 from rfl, Int.zero_mul]; lia
          show IsRangeIter _ _ (i + ((0 : Nat) : Int) * c) ((n : Int) - ((0 : Nat) : Int)) c
          rw [e1, show ((n : Int) - ((0 : Nat) : Int)) = Builtin.Range.rangeSize i j c by rw [sz]; lia]
          exact Heap.get?_push_size _ rfl
        · have e := List.mem_singleton.mp hb
          subst e
          exact I2.fpOk (Nat.le_refl _) (I2.hok.fresh (Nat.le_refl _))
end
section
variable {g : TG} {te : TE} {own : Nat} {fr : List Nat} {σ : St} {H : Hp} {R : Hp → Prop} {D : Addr}
theorem lc_step {lo c : Int} {n : Nat} (Pv : Nat → St → Hp → Prop) (h0 : Pv 0 (lcStart own fr σ) (upd H D (.lst [])))
    (hs : ∀ i σ H, i < n → Pv i σ H → g (.int (lo + (i : Nat) * c)) σ H fun σ3 H3 => te σ3 H3 fun y H4 => LcEnd Pv D n i σ3 y H4) (hd : ∀ σ H, Pv n σ H → R H) :
    ∃ W : Nat → Nat → St → Hp → Prop, (∃ m, W 0 m (lcStart own fr σ) (upd H D (.lst []))) ∧ ∀ i m σ' H', W i m σ' H' →
      ((Its lo c n).stop i H' ∧ R H') ∨ ((Its lo c n).go i H' ∧ ∀ x H2, (Its lo c n).yld i H' x H2 → g x σ' H2 fun σ3 H3 => te σ3 H3 fun y H4 => ∃ ys, H4 D = some (.lst ys) ∧ ys.length < sizeLine ∧ ∃ m', m' < m ∧ W (i + 1) m' σ3 (upd H4 D (.lst (ys ++ [y])))) := by
  refine lc_of (n := n) Pv h0 (fun i σ H hi p => hi) (fun i x H2 σ H hi p y => ?_) (fun σ H p => ⟨Nat.le_refl _, hd σ H p⟩)
  obtain ⟨e, y⟩ := y
  subst e y
  exact hs i σ _ hi p
end
end L2

namespace L2
open PySem PySem.Spec PyProof.Rows

/-! ### lists of pairs as tables -/
section
variable {κ : Type} [DecidableEq κ]
noncomputable def valV (kvs : List (κ × V)) (k : κ) : Option V := (kvs.find? fun kv => decide (kv.1 = k)).map (·.2)
/-- in its place, or at the end -/
noncomputable def putK (kvs : List (κ × V)) (k : κ) (v : V) : List (κ × V) :=
  if (kvs.any fun kv => decide (kv.1 = k)) = true then kvs.map (fun kv => if kv.1 = k then (kv.1, v) else kv) else kvs ++ [(k, v)]

theorem valV_pos {p : κ × V} {r : List (κ × V)} {k : κ} (e : p.1 = k) : valV (p :: r) k = some p.2 := by simp [valV, List.find?_cons, e]
theorem valV_neg {p : κ × V} {r : List (κ × V)} {k : κ} (e : ¬ p.1 = k) : valV (p :: r) k = valV r k := by simp [valV, List.find?_cons, e]
theorem valV_any (k : κ) : ∀ kvs : List (κ × V), (kvs.any fun kv => decide (kv.1 = k)) = (valV kvs k).isSome
  | [] => rfl
  | p :: r => by
    rw [List.any_cons]
    by_cases e : p.1 = k
    · simp only [valV_pos e, decide_eq_true e, Bool.true_or, Option.isSome_some]
    · rw [valV_neg e, decide_eq_false e, Bool.false_or]; exact valV_any k r
theorem valV_map (k j : κ) (y : V) : ∀ kvs : List (κ × V), valV (kvs.map fun kv => if kv.1 = k then (kv.1, y) else kv) j = (valV kvs j).map fun x => if j = k then y else x
  | [] => rfl
  | p :: r => by
    have ih := valV_map k j y r
    rw [List.map_cons]
    by_cases h : p.1 = k
    · rw [if_pos h]
      by_cases e : p.1 = j
      · rw [valV_pos (p := (p.1, y)) e, valV_pos e, Option.map_some, if_pos (e.symm.trans h)]
      · rw [valV_neg (p := (p.1, y)) e, valV_neg e, ih]
    · rw [if_neg h]
      by_cases e : p.1 = j
      · rw [valV_pos (p := p) e, valV_pos e, Option.map_some, if_neg (fun z => h (e.trans z))]
      · rw [valV_neg (p := p) e, valV_neg e, ih]
theorem valV_snoc (k j : κ) (y : V) : ∀ kvs : List (κ × V), valV kvs k = none → valV (kvs ++ [(k, y)]) j = if j = k then some y else valV kvs j
  | [], _ => by
    by_cases e : k = j
    · rw [if_pos e.symm]; exact valV_pos (p := (k, y)) e
    · rw [if_neg (fun z => e z.symm)]; exact valV_neg (p := (k, y)) e
  | p :: r, hn => by
    rw [List.cons_append]
    have hk : ¬ p.1 = k := fun z => by rw [valV_pos z] at hn; cases hn
    rw [valV_neg hk] at hn
    have ih := valV_snoc k j y r hn
    by_cases e : p.1 = j
    · rw [valV_pos e, valV_pos e, if_neg (fun z => hk (e.trans z))]
    · rw [valV_neg e, valV_neg e, ih]
theorem valV_put (kvs : List (κ × V)) (k j : κ) (y : V) : valV (putK kvs k y) j = if j = k then some y else valV kvs j := by
  unfold putK
  by_cases a : (kvs.any fun kv => decide (kv.1 = k)) = true
  · rw [if_pos a, valV_map]
    rw [valV_any] at a
    by_cases e : j = k
    · obtain ⟨x, hx⟩ := Option.isSome_iff_exists.mp a
      rw [if_pos e, e, hx, Option.map_some, if_pos rfl]
    · rw [if_neg e]
      cases valV kvs j with
      | none => rfl
      | some x => rw [Option.map_some, if_neg e]
  · rw [if_neg a]
    refine valV_snoc k j y kvs ?_
    rw [valV_any] at a
    cases q : valV kvs k with
    | none => rfl
    | some x => rw [q] at a; exact (a rfl).elim
theorem length_putK (kvs : List (κ × V)) (k : κ) (v : V) : (putK kvs k v).length ≤ kvs.length + 1 := by
  unfold putK
  split
  · rw [List.length_map]; lia
  · rw [List.length_append, List.length_cons, List.length_nil]; lia

theorem RelO.isSome_eq {o : Option V} {u : Option Value} (r : RelO o u) : o.isSome = u.isSome := by
  cases o with
  | none => cases u with
    | none => rfl
    | some _ => exact (show False from r).elim
  | some _ => cases u with
    | none => exact (show False from r).elim
    | some _ => rfl
theorem RelO.getD {o : Option V} {u : Option Value} {d : V} {d' : Value} (r : RelO o u) (rd : RelV d d') : RelV (o.getD d) (u.getD d') := by
  cases o with
  | none => cases u with
    | none => exact rd
    | some _ => exact (show False from r).elim
  | some _ => cases u with
    | none => exact (show False from r).elim
    | some _ => exact r

/-- raw tables of the same keys -/
theorem KV.val {kvs : List (κ × V)} {vs : List (κ × Value)} (r : KV kvs vs) (k : κ) : RelO (valV kvs k) (valueAt vs k) := by
  unfold KV at r
  induction r with
  | nil => exact True.intro
  | @cons p q ps qs h t ih =>
    obtain ⟨h1, h2⟩ := h
    by_cases e : p.1 = k
    · have e' : q.1 = k := h1.symm.trans e
      have b : valueAt (q :: qs) k = some q.2 := by simp [valueAt, List.find?_cons, e']
      rw [valV_pos e, b]; exact h2
    · have e' : ¬ q.1 = k := fun z => e (h1.trans z)
      have b : valueAt (q :: qs) k = valueAt qs k := by simp [valueAt, List.find?_cons, e']
      rw [valV_neg e, b]; exact ih
theorem KV.any {kvs : List (κ × V)} {vs : List (κ × Value)} (r : KV kvs vs) (k : κ) : (kvs.any fun kv => decide (kv.1 = k)) = vs.any fun kv => decide (kv.1 = k) := by
  unfold KV at r
  induction r with
  | nil => rfl
  | cons h t ih => rw [List.any_cons, List.any_cons, ih, h.1]
theorem KV.repl {kvs : List (κ × V)} {vs : List (κ × Value)} (r : KV kvs vs) (k : κ) {y : V} {u : Value} (ry : RelV y u) :
    KV (kvs.map fun kv => if kv.1 = k then (kv.1, y) else kv) (vs.map fun kv => if kv.1 = k then (kv.1, u) else kv) := by
  unfold KV at r ⊢
  induction r with
  | nil => exact .nil
  | @cons p q ps qs h t ih =>
    rw [List.map_cons, List.map_cons]
    refine .cons ?_ ih
    obtain ⟨h1, h2⟩ := h
    by_cases e : p.1 = k
    · rw [if_pos e, if_pos (h1.symm.trans e)]; exact ⟨h1, ry⟩
    · rw [if_neg e, if_neg (fun z => e (h1.trans z))]; exact ⟨h1, h2⟩
theorem KV.put {kvs : List (κ × V)} {vs : List (κ × Value)} (r : KV kvs vs) (k : κ) {y : V} {u : Value} (ry : RelV y u) : KV (putK kvs k y) (stored vs k u) := by
  unfold putK stored
  rw [r.any k]
  by_cases e : (vs.any fun kv => decide (kv.1 = k)) = true
  · rw [if_pos e, if_pos e]; exact r.repl k ry
  · rw [if_neg e, if_neg e]; exact Paired.snoc r ⟨rfl, ry⟩
theorem KV.length {kvs : List (κ × V)} {vs : List (κ × Value)} (r : KV kvs vs) : kvs.length = vs.length := Paired.length r
end


/-! ### a tracked dict, its keys ints and texts or tuples of these -/
theorem kV_is {P : Program} {w : World} {k : Key} {u : Value} (r : RelV (kV k) u) : (mixKind P w).is k u = true := by
  cases k with
  | inl i => obtain ⟨t, e⟩ := (show ∃ t, u = Value.int i t from r); subst e; exact mixKind_int P w i t
  | inr x => obtain ⟨t, e⟩ := (show ∃ t, u = Value.str x t from r); subst e; exact mixKind_str P w x t
theorem items_are {P : Program} {w : World} : ∀ {ks : List Key} {us : List Value}, Vals (ks.map kV) us → ItemsAre (mixKind P w) ks us
  | [], _, r => by rw [List.map_nil] at r; cases r; exact .nil
  | k :: ks, _, r => by
    rw [List.map_cons] at r
    cases r with
    | cons h t => exact .cons (kV_is h) (items_are t)

/-- raw entries of a dict with tuple keys -/
noncomputable abbrev KT (H : Hp) : List (List Key × V) → List (List Key × Addr × Value) → Prop := Paired fun p q => p.1 = q.1 ∧ H q.2.1 = some (.tup (p.1.map kV)) ∧ RelV p.2 q.2.2
theorem KT.val {H : Hp} {kvs : List (List Key × V)} {xs : List (List Key × Addr × Value)} (r : KT H kvs xs) (k : List Key) : RelO (valV kvs k) ((atKey xs k).map (·.2)) := by
  induction r with
  | nil => exact True.intro
  | @cons p q ps qs h t ih =>
    obtain ⟨h1, _, h2⟩ := h
    by_cases e : p.1 = k
    · have e' : q.1 = k := h1.symm.trans e
      have b : atKey (q :: qs) k = some q.2 := by simp [atKey, List.find?_cons, e']
      rw [valV_pos e, b]; exact h2
    · have e' : ¬ q.1 = k := fun z => e (h1.trans z)
      have b : atKey (q :: qs) k = atKey qs k := by simp [atKey, List.find?_cons, e']
      rw [valV_neg e, b]; exact ih
theorem KT.repl {H : Hp} {kvs : List (List Key × V)} {xs : List (List Key × Addr × Value)} (r : KT H kvs xs) (k : List Key) {y : V} {u : Value} (ry : RelV y u) :
    KT H (kvs.map fun kv => if kv.1 = k then (kv.1, y) else kv) (xs.map (putAt k u)) := by
  induction r with
  | nil => exact .nil
  | @cons p q ps qs h t ih =>
    rw [List.map_cons, List.map_cons]
    refine .cons ?_ ih
    obtain ⟨h1, h2, h3⟩ := h
    unfold putAt
    by_cases e : p.1 = k
    · rw [if_pos e, if_pos (h1.symm.trans e)]; exact ⟨h1, h2, ry⟩
    · rw [if_neg e, if_neg (fun z => e (h1.trans z))]; exact ⟨h1, h2, h3⟩
theorem KT.put {H : Hp} {kvs : List (List Key × V)} {xs : List (List Key × Addr × Value)} (r : KT H kvs xs) (k : List Key) {b : Addr} {y : V} {u : Value} (hb : H b = some (.tup (k.map kV))) (ry : RelV y u) :
    KT H (putK kvs k y) (storedH xs k b u) := by
  have e : (kvs.any fun kv => decide (kv.1 = k)) = (atKey xs k).isSome := by
    rw [valV_any, (r.val k).isSome_eq, Option.isSome_map]
  unfold putK storedH
  rw [e]
  by_cases q : (atKey xs k).isSome = true
  · rw [if_pos q, if_pos q]; exact r.repl k ry
  · rw [if_neg q, if_neg q]; exact Paired.snoc r ⟨rfl, hb, ry⟩
theorem KT.keeps {H H' : Hp} {kvs : List (List Key × V)} {xs : List (List Key × Addr × Value)} (r : KT H kvs xs) (ht : ∀ b ys, H b = some (.tup ys) → H' b = some (.tup ys)) : KT H' kvs xs :=
  Paired.mapP r fun _ _ z => ⟨z.1, ht _ _ z.2.1, z.2.2⟩

section
variable {P : Program} {w : World} {H : Hp} {h : Heap} {a : Addr}
theorem rd_of {u : HO} (ok : HOk P w H h) (e : Rd H a u) : ObjOk P w H h a u := e.ok ok
theorem dk_rd {kvs : List (Key × V)} (ok : HOk P w H h) (e : Rd H a (.dK kvs)) : kvs.length ≤ sizeLine ∧ (a == sysModules) = false ∧ ∃ vs, KV kvs vs ∧ h.DictOf (mixKind P w) a vs :=
  show ObjOk P w H h a (.dK kvs) from rd_of ok e
theorem dk_of {kvs : List (Key × V)} (ok : HOk P w H h) (e : H a = some (.dK kvs)) : kvs.length ≤ sizeLine ∧ (a == sysModules) = false ∧ ∃ vs, KV kvs vs ∧ h.DictOf (mixKind P w) a vs := dk_rd ok (.inl e)
/-- a tracked tuple of ints and texts is a key -/
theorem key_of {ks : List Key} (ok : HOk P w H h) (e : H a = some (.tup (ks.map kV))) : (tupleKind (mixKind P w)).is h ks a := by
  obtain ⟨_, its, r, o, h1, h2, n, h3⟩ := (show ObjOk P w H h a (.tup (ks.map kV)) from ok a _ e)
  exact ⟨o, its.toArray, n, h1, h2, h3, by simpa using items_are r⟩
theorem dt_rd {kvs : List (List Key × V)} (ok : HOk P w H h) (e : Rd H a (.dT kvs)) : kvs.length ≤ sizeLine ∧ (a == sysModules) = false ∧
    ∃ xs, KT H kvs xs ∧ h.DictOfH (tupleKind (mixKind P w)) a xs := by
  obtain ⟨z, y, xs, r, o, es, ep, h1, h2, h3, h4, h5⟩ := (show ObjOk P w H h a (.dT kvs) from rd_of ok e)
  refine ⟨z, y, xs, r, o, es, ep, h1, h2, h3, h4, fun x hx => ?_, h5⟩
  have all : ∀ {l : List (List Key × V)} {m : List (List Key × Addr × Value)}, KT H l m → ∀ x ∈ m, (tupleKind (mixKind P w)).is h x.1 x.2.1 := by
    intro l m q
    induction q with
    | nil => intro x hx; exact nomatch hx
    | @cons p q ps qs hq t ih =>
      intro x hx
      rcases List.mem_cons.mp hx with e | hx
      · subst e
        exact key_of ok (by rw [← hq.1]; exact hq.2.1)
      · exact ih x hx
  exact all r x hx
theorem dt_of {kvs : List (List Key × V)} (ok : HOk P w H h) (e : H a = some (.dT kvs)) : kvs.length ≤ sizeLine ∧ (a == sysModules) = false ∧
    ∃ xs, KT H kvs xs ∧ h.DictOfH (tupleKind (mixKind P w)) a xs := dt_rd ok (.inl e)
end

/-- what the dict at a holds at the key y -/
noncomputable def DGet (H : Hp) (a : Addr) (y : V) (r : Option V) : Prop :=
  (∃ kvs k, Rd H a (.dK kvs) ∧ y = kV k ∧ r = valV kvs k) ∨ ∃ kvs k b, Rd H a (.dT kvs) ∧ y = .ref b ∧ H b = some (.tup (k.map kV)) ∧ r = valV kvs k
/-- the heap behind a[y] = v -/
noncomputable def DPut (H : Hp) (a : Addr) (y v : V) (H' : Hp) : Prop :=
  (∃ kvs k, H a = some (.dK kvs) ∧ y = kV k ∧ kvs.length < sizeLine ∧ H' = upd H a (.dK (putK kvs k v))) ∨
  ∃ kvs k b, H a = some (.dT kvs) ∧ y = .ref b ∧ H b = some (.tup (k.map kV)) ∧ kvs.length < sizeLine ∧ H' = upd H a (.dT (putK kvs k v))
theorem DGet.k {H : Hp} {a : Addr} {kvs : List (Key × V)} {k : Key} (e : H a = some (.dK kvs)) : DGet H a (kV k) (valV kvs k) := .inl ⟨kvs, k, .inl e, rfl, rfl⟩
theorem DPut.k {H : Hp} {a : Addr} {kvs : List (Key × V)} {k : Key} {v : V} (e : H a = some (.dK kvs)) (hl : kvs.length < sizeLine) : DPut H a (kV k) v (upd H a (.dK (putK kvs k v))) := .inl ⟨kvs, k, e, rfl, hl, rfl⟩


section
variable {X : Cx} {pins : List (Addr × Obj)} {σ : St} {H : Hp} {s : Shared} {a : Addr} {y v : V} {u r : Value} {o : Option V} {A : Around} {E : Value → Shared → Prop}

theorem Inv.big (I : Inv X pins σ H s) : sysModules < s.heap.objs.size := by
  have h : mainGlobals < s.heap.objs.size := (I.mod.glob.keeps I.bk).lt
  exact Nat.lt_trans (by decide) h

/-- a dict's object is replaced -/
theorem d_write {h' : Heap} {t' : Nat} {ob : HO} (I : Inv X pins σ H s) (mu : Mut (H a)) (hs : Heap.SameBut a s.heap h') (he : ∃ q, h'.get? a = some q) (new : ObjOk X.prog X.w (upd H a ob) h' a ob) :
    Inv X pins σ (upd H a ob) { s with heap := h', toks := t' } :=
  I.write (x := a) (e := a) mu (.inl rfl) (fun b q hb z => (hs.2 b hb).trans z) he new
theorem dk_new {P : Program} {w : World} {H' : Hp} {h' : Heap} {kvs : List (Key × V)} {vs : List (Key × Value)} (z : kvs.length ≤ sizeLine) (hd : (a == sysModules) = false) (rel : KV kvs vs) (dd : h'.DictOf (mixKind P w) a vs) :
    ObjOk P w H' h' a (.dK kvs) := ⟨z, hd, vs, rel, dd⟩
/-- d[y] = v -/
theorem d_setItem {H' : Hp} {Q : Unit → Shared → Prop} (hu : A.units + 1 < cLine) (I : Inv X pins σ H s) (g : DPut H a y v H') (ry : RelV y u) (rv : RelV v r) (h : ∀ s', Inv X pins σ H' s' → Q () s') :
    wpAny (model X.prog X.w) A (setItem (.ref a) u r) Q E s := by
  rcases g with ⟨kvs, k, e, ey, l, eH⟩ | ⟨kvs, k, b, e, ey, eb, l, eH⟩
  · subst ey eH
    obtain ⟨z, hd, vs, rel, dd⟩ := dk_of I.hok e
    have hz : vs.length ≤ sizeLine := by rw [← rel.length]; exact z
    have hl : (putK kvs k v).length ≤ sizeLine := by have := length_putK kvs k v; lia
    refine wpAny_setItem_pairs (hsz := hz) (kV_is ry) dd fun h' dd' hs => h _ ?_
    have he : ∃ q, h'.get? a = some q := let ⟨q, _, _, hq, _⟩ := dd'; ⟨q, hq⟩
    exact d_write I (by rw [e]; exact True.intro) hs he (dk_new hl hd (rel.put k rv) dd')
  · subst ey eH
    cases (show u = Value.ref b from ry)
    obtain ⟨z, hd, xs, rel, dd⟩ := dt_of I.hok e
    have hz : xs.length ≤ sizeLine := by rw [← Paired.length rel]; exact z
    have hl : (putK kvs k v).length ≤ sizeLine := by have := length_putK kvs k v; lia
    refine wpAny_setItem_heap (hsz := hz) (tupleKind_room_in1 hu) (key_of I.hok eb) dd fun h' dd' hs => h _ ?_
    obtain ⟨q, es, ep, hq, h2, h3, h4, _, h5⟩ := dd'
    refine d_write I (by rw [e]; exact True.intro) hs ⟨q, hq⟩ ⟨hl, hd, _, (rel.put k eb rv).keeps fun c ys ec => ?_, q, es, ep, hq, h2, h3, h4, h5⟩
    rw [upd_ne (ne_of ec e (fun z => nomatch z))]
    exact ec
end

section
variable {X : Cx} {pins : List (Addr × Obj)} {σ : St} {H : Hp} {s : Shared} {a : Addr} {kvs : List (Key × V)} {k : Key} {u : Value} {A : Around} {E : Value → Shared → Prop}
end


/-! ### readings and rules -/


/-- d[y] = v -/
noncomputable def sDPut (td ty tv : TE) : TS := fun D σ H => tv σ H fun v H1 => td σ H1 fun x H2 => ty σ H2 fun y H3 => ∃ a H4, x = .ref a ∧ DPut H3 a y v H4 ∧ D.nx σ H4

section
variable {X : Cx} {o i e value : Expr} {pos pos' tpos : Pos} {td ty tv : TE}
theorem ps_dput (hu : X.A.units + 1 < cLine) (ho : PE X o td) (hi : PE X i ty) (hv : PE X value tv) (hs : swapsWith value (some (.Subscript o i pos')) pos.line X.env = pure false) :
    PS X (.Assign [.Subscript o i pos'] value pos) (sDPut td ty tv) := by
  intro pins s σ H D I h
  refine wpAny_Assign_Subscript (thn (hv pins s σ H _ I h) fun r s1 ⟨v, H1, I1, rv, q1⟩ => thn (ho pins s1 σ H1 _ I1 q1) fun u s2 ⟨x, H2, I2, rx, q2⟩ => thn (hi pins s2 σ H2 _ I2 q2) fun iv s3 ⟨y, H3, I3, ry, a, H4, ex, g, q3⟩ => ?_) hs
  subst ex
  obtain rfl : u = Value.ref a := rx
  exact d_setItem hu I3 g ry rv fun s4 I4 => ⟨σ, H4, I4, q3⟩
end


/-! ### displays -/
theorem dk_empty {P : Program} {w : World} {H : Hp} (h : Heap) (hb : sysModules < h.objs.size) : ObjOk P w H (h.push { cls := .type "dict", data := .dict #[] }) h.objs.size (.dK []) :=
  ⟨Nat.zero_le _, beq_eq_false_iff_ne.mpr (Ne.symm (Nat.ne_of_lt hb)), [], .nil, Heap.DictOf.new h⟩
/-- {}, to be a dict of the kind that is wanted -/
noncomputable def tDNewK : TE := fun _ H Q => ∀ p, H p = none → Q (.ref p) (upd H p (.dK []))
section
variable {X : Cx} {pos : Pos}
theorem pe_dnewK : PE X (.Dict [] [] pos) tDNewK := fun pins s σ H Q I h =>
  wpAny_Dict_empty ⟨.ref s.heap.objs.size, _, I.laid (a := s.heap.objs.size) (o := .dK []) (t' := s.toks) (fun _ _ q => Heap.get?_push_of_some _ q) (Nat.le_refl _) (dk_empty s.heap I.big), rfl, h _ (I.hok.fresh (Nat.le_refl _))⟩
end




/-! ### methods -/
structure M2 (X : Cx) (o : Expr) (m : Str) (apos : Pos) (e f : Expr) (cpos : Pos) : Prop where
  base : attributeBase o m X.env (eval o X.env) = eval o X.env
  few : ((backTo cpos (starEach [e, f] X.env)).all (fun x => !x.1) && (backToKw cpos (keywordEach [] X.env)).all (fun x => x.1.isSome)
    && decide (([e, f] : List Expr).length + ([] : List Keyword).length + (if ([] : List Keyword).isEmpty then 0 else 1) < 30)) = true
  line : (apos.endLine == cpos.line) = true
  trees : backTo cpos (starEach [e, f] X.env) = [(false, eval e X.env), (false, eval f X.env)]

/-- a is a dict, whatever its keys -/
noncomputable def IsD (H : Hp) (a : Addr) : Prop := (∃ kvs, Rd H a (.dK kvs)) ∨ ∃ kvs, Rd H a (.dT kvs)
theorem isD_at {X : Cx} {pins : List (Addr × Obj)} {σ : St} {H : Hp} {s : Shared} {a : Addr} (I : Inv X pins σ H s) (d : IsD H a) :
    s.TypeIs (.ref a) "dict" ∧ (∀ b, Value.ref a = .ref b → ∃ ob, s.heap.get? b = some ob ∧ ob.dict = none) ∧ (a == sysModules) = false := by
  rcases d with ⟨kvs, e⟩ | ⟨kvs, e⟩
  · obtain ⟨_, hd, vs, _, dd⟩ := dk_rd I.hok e
    refine ⟨dd.typeIs, fun b q => ?_, hd⟩
    cases q
    obtain ⟨ob, _, _, h1, h2, _⟩ := dd
    exact ⟨ob, h1, h2.2.1⟩
  · obtain ⟨_, hd, xs, _, dd⟩ := dt_rd I.hok e
    refine ⟨dd.typeIs, fun b q => ?_, hd⟩
    cases q
    obtain ⟨ob, _, _, h1, h2, _⟩ := dd
    exact ⟨ob, h1, h2.2.1⟩

section
variable {X : Cx} {pins : List (Addr × Obj)} {σ : St} {H : Hp} {s : Shared} {a : Addr} {y d : V} {u r : Value} {o : Option V} {A : Around} {E : Value → Shared → Prop}
/-- d.get(y, x) -/
theorem d_get2 {Q : Value → Shared → Prop} (hu : A.units + 1 < cLine) (I : Inv X pins σ H s) (g : DGet H a y o) (ry : RelV y u) (rd : RelV d r) (h : ∀ w' s', Inv X pins σ H s' → RelV (o.getD d) w' → Q w' s') :
    wpAny (model X.prog X.w) A (call (.builtin "dict.get") [.ref a, u, r]) Q E s := by
  rcases g with ⟨kvs, k, e, ey, l⟩ | ⟨kvs, k, b, e, ey, eb, l⟩
  · subst ey
    obtain ⟨z, hd, vs, rel, dd⟩ := dk_rd I.hok e
    refine call_meetsIn PySem.F.slot_dict_get dd.typeIs PySem.F.entry_dict_get (PySem.F.args_dict_get_3 _ _ _) (meets_dict_get_default (mixKind X.prog X.w) a (kV_is ry) hd r) ⟨_, dd.mapOf, h _ _ (I.tok _) ?_⟩
    rw [l]
    exact (rel.val k).getD rd
  · subst ey
    cases (show u = Value.ref b from ry)
    obtain ⟨z, hd, xs, rel, dd⟩ := dt_rd I.hok e
    refine call_meetsIn PySem.F.slot_dict_get dd.typeIs PySem.F.entry_dict_get (PySem.F.args_dict_get_3 _ _ _) (meetsH_dict_get_default (tupleKind (mixKind X.prog X.w)) a b hd r) ⟨tupleKind_room_in1 hu, k, xs, key_of I.hok eb, dd, h _ _ (I.tok _) ?_⟩
    rw [l]
    exact (rel.val k).getD rd
end

noncomputable def tDGet2 (td ty tx : TE) : TE := fun σ H Q => td σ H fun x H1 => ∃ a, x = .ref a ∧ IsD H1 a ∧ ty σ H1 fun y H2 => tx σ H2 fun z H3 => ∃ o, DGet H3 a y o ∧ Q (o.getD z) H3
section
variable {X : Cx} {o e f : Expr} {apos cpos : Pos} {td ty tx : TE}
theorem pe_dget2 (hu : X.A.units + 1 < cLine) (ho : PE X o td) (he : PE X e ty) (hf : PE X f tx) (m : M2 X o "get" apos e f cpos) : PE X (.Call (.Attribute o "get" apos) [e, f] [] cpos) (tDGet2 td ty tx) := by
  intro pins s σ H Q I h
  refine wpAny_Call_method m.base m.few m.line PySem.F.plainAttrs_dict PySem.F.slot_dict_get PySem.F.type_dict_get (thn (ho pins s σ H _ I h) fun u s1 ⟨x, H1, I1, rx, a, ex, d, q1⟩ => ?_)
  subst ex
  obtain rfl : u = Value.ref a := rx
  obtain ⟨t1, t2, _⟩ := isD_at I1 d
  refine ⟨t1, t2, ?_⟩
  rw [m.trees]
  refine Calls.callWith_builtin rfl (Calls.evalArgs_plain (Calls.spliced_cons (thn (he pins s1 σ H1 _ I1 q1) fun iv s2 ⟨y, H2, I2, ry, q2⟩ =>
    Calls.spliced_cons (thn (hf pins s2 σ H2 _ I2 q2) fun fv s3 ⟨z, H3, I3, rz, ov, g, q3⟩ => Calls.spliced_nil ?_))))
  exact d_get2 hu I3 g ry rz fun w' s4 I4 rw' => ⟨_, H3, I4, rw', q3⟩
end

/-! ### dict(d): a copy -/
section
variable {X : Cx} {pins : List (Addr × Obj)} {σ : St} {H : Hp} {s : Shared} {a : Addr} {kvs : List (Key × V)} {A : Around} {E : Value → Shared → Prop}
end


section
variable {X : Cx} {pins : List (Addr × Obj)} {σ : St} {H : Hp} {s : Shared} {a : Addr} {y : V} {u : Value} {A : Around} {E : Value → Shared → Prop}
end
end L2

namespace PN
open PySem L2
/-! ### layers -/
noncomputable def onL (l : Nat) (p : Post) : Bool := decide (p.1 = l) || decide (p.2 = l)
noncomputable def laneN (f : Nat → Nat) (p : Post) : Nat := max (f p.1) (f p.2)
noncomputable def behind (f : Nat → Nat) (p : Post) : Nat → Nat := fun l => if l = p.2 then laneN f p + 1 else if l = p.1 then laneN f p + 1 else f l
noncomputable def lanesAt (ps : List Post) : Nat → Nat := ps.foldl behind (fun _ => 0)
noncomputable def gP (ps : List Post) (i : Nat) : Post := ps.getD i (0, 0)
noncomputable def numAt (ps : List Post) (i : Nat) : Nat := laneN (lanesAt (ps.take i)) (gP ps i)
noncomputable def deepTo (ps : List Post) : Nat → Nat
  | 0 => 0
  | n + 1 => max (deepTo ps n) (numAt ps n + 1)
noncomputable def bucket (ps : List Post) (n k : Nat) : List Post := ((List.range n).filter fun i => decide (numAt ps i = k)).map (gP ps)
theorem onL_iff {l : Nat} {p : Post} : onL l p = true ↔ p.1 = l ∨ p.2 = l := by
  unfold onL
  rw [Bool.or_eq_true, decide_eq_true_eq, decide_eq_true_eq]
theorem gP_get {ps : List Post} {i : Nat} {p : Post} (h : ps[i]? = some p) : gP ps i = p := by
  unfold gP
  rw [List.getD_eq_getElem?_getD, h]
  rfl
theorem gP_at {ps : List Post} {i : Nat} (h : i < ps.length) : ps[i]? = some (gP ps i) := by
  have e : ps[i]? = some ps[i] := List.getElem?_eq_getElem h
  rw [gP_get e, e]
theorem lanesAt_take {ps : List Post} {i : Nat} (h : i < ps.length) : lanesAt (ps.take (i + 1)) = behind (lanesAt (ps.take i)) (gP ps i) := by
  unfold lanesAt
  rw [take_snoc (gP_at h), List.foldl_append]
  rfl
theorem behind_on {f : Nat → Nat} {p : Post} {l : Nat} (h : onL l p = true) : behind f p l = laneN f p + 1 := by
  unfold behind
  rcases onL_iff.mp h with e | e
  · by_cases c : l = p.2
    · rw [if_pos c]
    · rw [if_neg c, if_pos e.symm]
  · rw [if_pos e.symm]
theorem behind_off {f : Nat → Nat} {p : Post} {l : Nat} (h : onL l p = false) : behind f p l = f l := by
  have h' : ¬ (p.1 = l ∨ p.2 = l) := fun z => by rw [onL_iff.mpr z] at h; cases h
  unfold behind
  rw [if_neg (fun e => h' (.inr e.symm)), if_neg (fun e => h' (.inl e.symm))]
theorem lane_le {f : Nat → Nat} {p : Post} {l : Nat} (h : onL l p = true) : f l ≤ laneN f p := by
  unfold laneN
  rcases onL_iff.mp h with e | e
  · rw [← e]; exact Nat.le_max_left _ _
  · rw [← e]; exact Nat.le_max_right _ _
theorem behind_ge {f : Nat → Nat} {p : Post} {l : Nat} : f l ≤ behind f p l := by
  cases c : onL l p with
  | true => rw [behind_on c]; exact Nat.le_succ_of_le (lane_le c)
  | false => rw [behind_off c]; exact Nat.le_refl _
theorem lanes_ge {ps : List Post} {i l : Nat} (hon : onL l (gP ps i) = true) : ∀ j, i < j → j ≤ ps.length → numAt ps i + 1 ≤ lanesAt (ps.take j) l
  | 0, h, _ => absurd h (Nat.not_lt_zero _)
  | j + 1, h, hj => by
    rw [lanesAt_take hj]
    by_cases c : i < j
    · exact Nat.le_trans (lanes_ge hon j c (by lia)) behind_ge
    · have e : i = j := by lia
      subst e
      rw [behind_on hon]
      exact Nat.le_refl _
theorem num_lt {ps : List Post} {i j l : Nat} (hij : i < j) (hj : j < ps.length) (h1 : onL l (gP ps i) = true) (h2 : onL l (gP ps j) = true) : numAt ps i < numAt ps j :=
  Nat.lt_of_lt_of_le (lanes_ge h1 j hij (by lia)) (lane_le h2)
theorem lanes_from {ps : List Post} {l : Nat} : ∀ j, j ≤ ps.length → lanesAt (ps.take j) l = 0 ∨ ∃ i, i < j ∧ onL l (gP ps i) = true ∧ lanesAt (ps.take j) l = numAt ps i + 1
  | 0, _ => .inl rfl
  | j + 1, hj => by
    rw [lanesAt_take hj]
    cases c : onL l (gP ps j) with
    | true => exact .inr ⟨j, by lia, c, by rw [behind_on c]; rfl⟩
    | false =>
      rw [behind_off c]
      rcases lanes_from (ps := ps) (l := l) j (by lia) with h | ⟨i, h1, h2, h3⟩
      · exact .inl h
      · exact .inr ⟨i, by lia, h2, h3⟩
theorem num_from {ps : List Post} {j : Nat} (hj : j < ps.length) (h : 0 < numAt ps j) : ∃ i l, i < j ∧ onL l (gP ps i) = true ∧ onL l (gP ps j) = true ∧ numAt ps i + 1 = numAt ps j := by
  have e : numAt ps j = lanesAt (ps.take j) (gP ps j).1 ∨ numAt ps j = lanesAt (ps.take j) (gP ps j).2 := by
    unfold numAt laneN
    lia
  rcases e with e | e
  · rcases lanes_from (ps := ps) (l := (gP ps j).1) j (by lia) with z | ⟨i, h1, h2, h3⟩
    · lia
    · exact ⟨i, _, h1, h2, onL_iff.mpr (.inl rfl), by lia⟩
  · rcases lanes_from (ps := ps) (l := (gP ps j).2) j (by lia) with z | ⟨i, h1, h2, h3⟩
    · lia
    · exact ⟨i, _, h1, h2, onL_iff.mpr (.inr rfl), by lia⟩
theorem num_deep {ps : List Post} : ∀ n i, i < n → numAt ps i < deepTo ps n
  | 0, i, h => absurd h (Nat.not_lt_zero _)
  | n + 1, i, h => by
    show _ < max (deepTo ps n) (numAt ps n + 1)
    by_cases c : i < n
    · have := num_deep (ps := ps) n i c
      lia
    · have e : i = n := by lia
      subst e
      lia
theorem num_le_deep {ps : List Post} {n : Nat} (hn : n < ps.length) : numAt ps n ≤ deepTo ps n := by
  by_cases h : 0 < numAt ps n
  · obtain ⟨i, l, h1, _, _, h2⟩ := num_from hn h
    have := num_deep (ps := ps) n i h1
    lia
  · lia
theorem deep_le {ps : List Post} : ∀ n, n ≤ ps.length → deepTo ps n ≤ n
  | 0, _ => Nat.le_refl _
  | n + 1, h => by
    have h1 := deep_le (ps := ps) n (by lia)
    have h2 := num_le_deep (ps := ps) (n := n) h
    show max (deepTo ps n) (numAt ps n + 1) ≤ n + 1
    lia
theorem bucket_succ (ps : List Post) (n k : Nat) : bucket ps (n + 1) k = bucket ps n k ++ (if numAt ps n = k then [gP ps n] else []) := by
  unfold bucket
  rw [List.range_succ, List.filter_append, List.map_append]
  congr 1
  by_cases c : numAt ps n = k
  · rw [if_pos c, List.filter_cons, if_pos (decide_eq_true c)]
    rfl
  · rw [if_neg c, List.filter_cons, if_neg (by simpa using c)]
    rfl
theorem bucket_empty {ps : List Post} {n k : Nat} (h : deepTo ps n ≤ k) : bucket ps n k = [] := by
  unfold bucket
  rw [List.map_eq_nil_iff, List.filter_eq_nil_iff]
  intro i hi
  have z := num_deep (ps := ps) n i (List.mem_range.mp hi)
  simp
  lia
theorem mem_bucket {ps : List Post} {n k : Nat} {p : Post} : p ∈ bucket ps n k ↔ ∃ i, i < n ∧ numAt ps i = k ∧ gP ps i = p := by
  unfold bucket
  rw [List.mem_map]
  constructor
  · rintro ⟨i, hi, e⟩
    obtain ⟨h1, h2⟩ := List.mem_filter.mp hi
    exact ⟨i, List.mem_range.mp h1, by simpa using h2, e⟩
  · rintro ⟨i, h1, h2, e⟩
    exact ⟨i, List.mem_filter.mpr ⟨List.mem_range.mpr h1, by simpa using h2⟩, e⟩
/-- no lane together -/
noncomputable def Apart (p q : Post) : Prop := ∀ l, onL l p = true → onL l q = true → False
theorem bucket_apart {ps : List Post} {n k : Nat} (hn : n ≤ ps.length) : (bucket ps n k).Pairwise Apart := by
  unfold bucket
  rw [List.pairwise_map]
  have h0 : (List.range n).Pairwise (· < ·) := List.pairwise_lt_range
  have h1 := h0.filter (fun i => decide (numAt ps i = k))
  refine h1.imp_of_mem fun {a b} ha hb hab l la lb => ?_
  obtain ⟨a1, a2⟩ := List.mem_filter.mp ha
  obtain ⟨b1, b2⟩ := List.mem_filter.mp hb
  have := num_lt hab (show b < ps.length by have := List.mem_range.mp b1; lia) la lb
  simp at a2 b2
  lia
/-- layers of all posts, each in some order -/
structure LayersOf (ps : List Post) (Ls : List (List Post)) : Prop where
  len : Ls.length = deepTo ps ps.length
  at_ : ∀ (k : Nat) (L : List Post), Ls[k]? = some L → L.Perm (bucket ps ps.length k)
theorem LayersOf.mem {ps : List Post} {Ls : List (List Post)} (h : LayersOf ps Ls) {k : Nat} {L : List Post} (e : Ls[k]? = some L) {p : Post} (hp : p ∈ L) : p ∈ ps := by
  obtain ⟨j, hj, hk, e2⟩ := mem_bucket.mp ((h.at_ _ _ e).mem_iff.mp hp)
  rw [← e2]
  exact List.mem_of_getElem? (gP_at hj)
/-! the same posts on each lane -/
theorem perm_one {α : Type} {a b : List α} (h : a.Perm b) (hl : b.length ≤ 1) : a = b := by
  match b, hl, h with
  | [], _, h => exact h.eq_nil
  | [x], _, h => exact List.perm_singleton.mp h
  | _ :: _ :: _, hl, _ => simp at hl
theorem buckets {S : List Nat} {num : Nat → Nat} {K : Nat} (hs : S.Pairwise fun a b => num a < num b) (hk : ∀ a ∈ S, num a < K) : ((List.range K).map fun k => S.filter fun i => decide (num i = k)).flatten = S := by
  induction S generalizing K with
  | nil =>
    rw [List.flatten_eq_nil_iff]
    intro l hl
    obtain ⟨k, _, e⟩ := List.mem_map.mp hl
    rw [← e]
    rfl
  | cons a S ih =>
    obtain ⟨h1, h2⟩ := List.pairwise_cons.mp hs
    have ih' := ih h2 (fun b hb => hk b (List.mem_cons_of_mem _ hb))
    have ha := hk a List.mem_cons_self
    obtain ⟨d, rfl⟩ : ∃ d, K = num a + 1 + d := ⟨K - (num a + 1), by lia⟩
    have small : ∀ k, k ≤ num a → S.filter (fun i => decide (num i = k)) = [] := fun k hle => by
      rw [List.filter_eq_nil_iff]
      intro b hb
      have := h1 b hb
      simp
      lia
    have z0 : ∀ f : Nat → List Nat, (∀ k, k < num a → f k = []) → ((List.range (num a)).map f).flatten = [] := fun f hf => by
      rw [List.flatten_eq_nil_iff]
      intro l hl
      obtain ⟨k, hk', e⟩ := List.mem_map.mp hl
      rw [← e]
      exact hf k (List.mem_range.mp hk')
    rw [List.range_add, List.range_succ] at ih' ⊢
    simp only [List.map_append, List.flatten_append, List.map_cons, List.map_nil, List.flatten_cons, List.flatten_nil, List.append_nil] at ih' ⊢
    rw [z0 _ fun k hlt => small k (by lia), small _ (Nat.le_refl _)] at ih'
    rw [z0 _ fun k hlt => by rw [List.filter_cons, if_neg (by simp; lia)]; exact small k (by lia)]
    rw [List.filter_cons, if_pos (by simp), small _ (Nat.le_refl _)]
    rw [List.nil_append, List.nil_append] at ih'
    rw [List.nil_append]
    refine congrArg (List.cons a) (Eq.trans (congrArg List.flatten (List.map_congr_left fun k hk' => ?_)) ih')
    obtain ⟨m, _, e⟩ := List.mem_map.mp hk'
    rw [List.filter_cons, if_neg (by simp; lia)]
theorem range_gP (ps : List Post) : (List.range ps.length).map (gP ps) = ps := by
  refine List.ext_getElem (by simp) fun i h1 h2 => ?_
  rw [List.getElem_map, List.getElem_range]
  have := gP_at h2
  rw [List.getElem?_eq_getElem h2] at this
  exact (Option.some.inj this).symm
theorem filter_one {l : Nat} : ∀ {L : List Post}, L.Pairwise Apart → (L.filter (onL l)).length ≤ 1
  | [], _ => Nat.zero_le _
  | p :: L, h => by
    obtain ⟨h1, h2⟩ := List.pairwise_cons.mp h
    rw [List.filter_cons]
    split
    · rename_i c
      have z : L.filter (onL l) = [] := by
        rw [List.filter_eq_nil_iff]
        intro q hq e
        exact h1 q hq l c e
      rw [z]
      exact Nat.le_refl _
    · exact filter_one h2
theorem LayersOf.lane {ps : List Post} {Ls : List (List Post)} (h : LayersOf ps Ls) (l : Nat) : Ls.flatten.filter (onL l) = ps.filter (onL l) := by
  have e1 : Ls.map (List.filter (onL l)) = (List.range (deepTo ps ps.length)).map fun k => (bucket ps ps.length k).filter (onL l) := by
    refine List.ext_getElem (by rw [List.length_map, List.length_map, List.length_range, h.len]) fun k h1 h2 => ?_
    rw [List.getElem_map, List.getElem_map, List.getElem_range]
    have hk : k < Ls.length := by simpa using h1
    exact perm_one ((h.at_ k _ (List.getElem?_eq_getElem hk)).filter _) (filter_one (bucket_apart (Nat.le_refl _)))
  have e2 : ∀ k, (bucket ps ps.length k).filter (onL l) = (((List.range ps.length).filter fun i => onL l (gP ps i)).filter fun i => decide (numAt ps i = k)).map (gP ps) := fun k => by
    unfold bucket
    rw [List.filter_map, List.filter_filter, List.filter_filter]
    congr 1
    refine List.filter_congr fun i _ => ?_
    show (onL l (gP ps i) && decide (numAt ps i = k)) = (decide (numAt ps i = k) && onL l (gP ps i))
    rw [Bool.and_comm]
  have hS : ((List.range ps.length).filter fun i => onL l (gP ps i)).Pairwise fun a b => numAt ps a < numAt ps b := by
    have h0 : (List.range ps.length).Pairwise (· < ·) := List.pairwise_lt_range
    refine (h0.filter _).imp_of_mem fun {a b} ha hb hab => ?_
    obtain ⟨a1, a2⟩ := List.mem_filter.mp ha
    obtain ⟨b1, b2⟩ := List.mem_filter.mp hb
    exact num_lt hab (List.mem_range.mp b1) a2 b2
  have e3 := buckets (K := deepTo ps ps.length) hS fun a ha => num_deep _ a (List.mem_range.mp (List.mem_filter.mp ha).1)
  have e4 := congrArg (List.map (gP ps)) e3
  rw [List.map_flatten, List.map_map] at e4
  rw [List.filter_flatten, e1]
  rw [show (fun k => (bucket ps ps.length k).filter (onL l)) = List.map (gP ps) ∘ (fun k => ((List.range ps.length).filter fun i => onL l (gP ps i)).filter fun i => decide (numAt ps i = k)) from funext e2, e4]
  have e5 : ((List.range ps.length).filter fun i => onL l (gP ps i)).map (gP ps) = ((List.range ps.length).map (gP ps)).filter (onL l) := by
    rw [List.filter_map]
    rfl
  rw [e5, range_gP]
/-! posts that are apart change places -/
theorem step_apart {xs : List Int} {p q : Post} (hp1 : p.1 < xs.length) (hp2 : p.2 < xs.length) (hq1 : q.1 < xs.length) (hq2 : q.2 < xs.length) (h : Apart p q) : stepRow (stepRow xs p) q = stepRow (stepRow xs q) p := by
  have a1 : p.1 ≠ q.1 := fun e => h p.1 (onL_iff.mpr (.inl rfl)) (onL_iff.mpr (.inl e.symm))
  have a2 : p.1 ≠ q.2 := fun e => h p.1 (onL_iff.mpr (.inl rfl)) (onL_iff.mpr (.inr e.symm))
  have a3 : p.2 ≠ q.1 := fun e => h p.2 (onL_iff.mpr (.inr rfl)) (onL_iff.mpr (.inl e.symm))
  have a4 : p.2 ≠ q.2 := fun e => h p.2 (onL_iff.mpr (.inr rfl)) (onL_iff.mpr (.inr e.symm))
  refine getD_ext (by simp only [stepRow_length]) fun j hj => ?_
  rw [stepRow_get (by rw [stepRow_length]; exact hq1) (by rw [stepRow_length]; exact hq2), stepRow_get (xs := stepRow xs q) (by rw [stepRow_length]; exact hp1) (by rw [stepRow_length]; exact hp2)]
  simp only [stepRow_get hp1 hp2, stepRow_get hq1 hq2]
  rw [if_neg (Ne.symm a4), if_neg (Ne.symm a2), if_neg (Ne.symm a3), if_neg (Ne.symm a1), if_neg a4, if_neg a3, if_neg a2, if_neg a1]
  simp only [ite_self]
  by_cases cp : xs.getD p.2 0 < xs.getD p.1 0 <;> by_cases cq : xs.getD q.2 0 < xs.getD q.1 0 <;> simp only [cp, cq, if_true, if_false] <;> by_cases j1 : j = p.1 <;> by_cases j2 : j = p.2 <;> by_cases j3 : j = q.1 <;> by_cases j4 : j = q.2 <;> simp_all <;> lia
theorem pass_apart {w : Nat} {p : Post} : ∀ (as : List Post) (xs : List Int), xs.length = w → Net w as → p.1 < w → p.2 < w → (∀ q ∈ as, Apart p q) → passAll as (stepRow xs p) = stepRow (passAll as xs) p
  | [], _, _, _, _, _, _ => rfl
  | q :: as, xs, hx, hn, h1, h2, h => by
    obtain ⟨n1, n2⟩ := hn q List.mem_cons_self
    show passAll as (stepRow (stepRow xs p) q) = stepRow (passAll as (stepRow xs q)) p
    rw [step_apart (by lia) (by lia) (by lia) (by lia) (h q List.mem_cons_self)]
    exact pass_apart as (stepRow xs q) (by rw [stepRow_length]; exact hx) (fun r hr => hn r (List.mem_cons_of_mem _ hr)) h1 h2 fun r hr => h r (List.mem_cons_of_mem _ hr)
theorem lanes_same {w : Nat} : ∀ (ps qs : List Post), Net w qs → (∀ l, ps.filter (onL l) = qs.filter (onL l)) → ps.length = qs.length ∧ ∀ xs : List Int, xs.length = w → passAll ps xs = passAll qs xs
  | [], qs, hn, h => by
    match qs, h with
    | [], _ => exact ⟨rfl, fun _ _ => rfl⟩
    | q :: qs, h =>
      have z := h q.1
      rw [List.filter_cons, if_pos (onL_iff.mpr (.inl rfl))] at z
      cases z
  | p :: ps, qs, hn, h => by
    have z := h p.1
    rw [List.filter_cons, if_pos (onL_iff.mpr (.inl rfl))] at z
    obtain ⟨as, bs, rfl, h1, h2, h3⟩ := List.filter_eq_cons_iff.mp z.symm
    have y := h p.2
    rw [List.filter_cons, if_pos (onL_iff.mpr (.inr rfl)), List.filter_append, List.filter_cons, if_pos (onL_iff.mpr (.inr rfl))] at y
    have h4 : as.filter (onL p.2) = [] := by
      cases e : as.filter (onL p.2) with
      | nil => rfl
      | cons a r =>
        rw [e] at y
        have ea : p = a := (List.cons.inj y).1
        have ma : a ∈ as.filter (onL p.2) := by rw [e]; exact List.mem_cons_self
        exact absurd (onL_iff.mpr (.inl (by rw [← ea]))) (h1 a (List.mem_filter.mp ma).1)
    rw [h4] at y
    have h5 : ps.filter (onL p.2) = bs.filter (onL p.2) := (List.cons.inj y).2
    have ap : ∀ q ∈ as, Apart p q := fun q hq l hp hql => by
      rcases onL_iff.mp hp with e | e
      · subst e
        exact h1 q hq hql
      · subst e
        exact List.filter_eq_nil_iff.mp h4 q hq hql
    have hnA : Net w as := fun q hq => hn q (List.mem_append_left _ hq)
    have hnB : Net w bs := fun q hq => hn q (List.mem_append_right _ (List.mem_cons_of_mem _ hq))
    obtain ⟨np1, np2⟩ := hn p (List.mem_append_right _ List.mem_cons_self)
    obtain ⟨i1, i2⟩ := lanes_same ps (as ++ bs) (fun q hq => (List.mem_append.mp hq).elim (hnA q) (hnB q)) fun l => by
      rw [List.filter_append]
      cases c : onL l p with
      | true =>
        have e0 : as.filter (onL l) = [] := by
          rw [List.filter_eq_nil_iff]
          intro q hq e
          exact ap q hq l c e
        rw [e0, List.nil_append]
        rcases onL_iff.mp c with e | e
        · subst e
          exact h3.symm
        · subst e
          exact h5
      | false =>
        have e := h l
        rw [List.filter_cons, if_neg (by simp [c]), List.filter_append, List.filter_cons, if_neg (by simp [c])] at e
        exact e
    refine ⟨?_, fun xs hx => ?_⟩
    · rw [List.length_append, List.length_cons, List.length_cons, i1, List.length_append]
      lia
    · rw [passAll_app]
      show passAll ps (stepRow xs p) = passAll bs (stepRow (passAll as xs) p)
      rw [i2 _ (by rw [stepRow_length]; exact hx), passAll_app, pass_apart as xs hx hnA (by lia) np2 ap]
theorem LayersOf.net {w : Nat} {ps : List Post} {Ls : List (List Post)} (h : LayersOf ps Ls) (hn : Net w ps) : Net w Ls.flatten := fun p hp => by
  obtain ⟨L, hL, hpL⟩ := List.mem_flatten.mp hp
  obtain ⟨k, hk⟩ := List.mem_iff_getElem?.mp hL
  exact hn p (h.mem hk hpL)
theorem LayersOf.pass {w : Nat} {ps : List Post} {Ls : List (List Post)} (h : LayersOf ps Ls) (hn : Net w ps) : ps.length = Ls.flatten.length ∧ ∀ xs : List Int, xs.length = w → passAll ps xs = passAll Ls.flatten xs :=
  lanes_same ps Ls.flatten (h.net hn) fun l => (h.lane l).symm
end PN

namespace PN
open PySem L2
/-! ### chains -/
noncomputable def shareB (p q : Post) : Bool := onL p.1 q || onL p.2 q
theorem deep_attained {ps : List Post} : ∀ n, 0 < n → ∃ i, i < n ∧ numAt ps i + 1 = deepTo ps n
  | 0, h => absurd h (Nat.lt_irrefl _)
  | n + 1, _ => by
    have e : deepTo ps (n + 1) = max (deepTo ps n) (numAt ps n + 1) := rfl
    by_cases c : deepTo ps n ≤ numAt ps n + 1
    · exact ⟨n, by lia, by lia⟩
    · by_cases c0 : n = 0
      · subst c0
        have : deepTo ps 0 = 0 := rfl
        lia
      · obtain ⟨i, h1, h2⟩ := deep_attained (ps := ps) n (by lia)
        exact ⟨i, by lia, by lia⟩
noncomputable def Links (ps : List Post) : List Nat → Prop
  | [] => True
  | [_] => True
  | x :: y :: r => x < y ∧ shareB (gP ps x) (gP ps y) = true ∧ Links ps (y :: r)
/-- what is known with the posts from r on seen; g: the numbers taken, the newest first -/
structure Chn (ps : List Post) (r : Nat) (g : List Nat) : Prop where
  inn : ∀ x ∈ g, r ≤ x ∧ x < ps.length
  links : Links ps g
  num : ∀ c, g.head? = some c → numAt ps c + g.length = deepTo ps ps.length
  none : g = [] → ∀ j, r ≤ j → j < ps.length → numAt ps j + 1 ≠ deepTo ps ps.length
  some_ : ∀ c, g.head? = some c → ∀ j, r ≤ j → j < c → shareB (gP ps j) (gP ps c) = true → numAt ps j + 1 ≠ numAt ps c
theorem Chn.start (ps : List Post) : Chn ps ps.length [] := ⟨fun x h => (by cases h), trivial, fun c h => (by cases h), fun _ j h1 h2 => (by lia), fun c h => (by cases h)⟩
theorem Chn.len {ps : List Post} {r : Nat} {g : List Nat} (h : Chn ps r g) : g.length ≤ deepTo ps ps.length := by
  cases g with
  | nil => exact Nat.zero_le _
  | cons c g =>
    have := h.num c rfl
    lia
theorem Chn.take {ps : List Post} {r : Nat} {g : List Nat} (h : Chn ps (r + 1) g) (hr : r < ps.length) (e : numAt ps r + 1 + g.length = deepTo ps ps.length) (hs : ∀ c, g.head? = some c → shareB (gP ps r) (gP ps c) = true) : Chn ps r (r :: g) := by
  refine ⟨fun x hx => ?_, ?_, fun c hc => ?_, fun z => (by cases z), fun c hc j h1 h2 => ?_⟩
  · rcases List.mem_cons.mp hx with z | z
    · lia
    · have := h.inn x z
      lia
  · cases g with
    | nil => exact trivial
    | cons c g =>
      have := h.inn c List.mem_cons_self
      exact ⟨by lia, hs c rfl, h.links⟩
  · cases hc
    rw [List.length_cons]
    lia
  · cases hc
    lia
theorem Chn.skip {ps : List Post} {r : Nat} {g : List Nat} (h : Chn ps (r + 1) g) (hr : r < ps.length) (hn : g = [] → numAt ps r + 1 ≠ deepTo ps ps.length) (hs : ∀ c, g.head? = some c → shareB (gP ps r) (gP ps c) = true → numAt ps r + 1 ≠ numAt ps c) : Chn ps r g := by
  refine ⟨fun x hx => ?_, h.links, h.num, fun z j h1 h2 => ?_, fun c hc j h1 h2 h3 => ?_⟩
  · have := h.inn x hx
    lia
  · by_cases c : j = r
    · rw [c]
      exact hn z
    · exact h.none z j (by lia) h2
  · by_cases e : j = r
    · subst e
      exact hs c hc h3
    · exact h.some_ c hc j (by lia) h2 h3
end PN

namespace PN
open PySem L2
/-! ### numbers in lists, lanes in posts -/
theorem inV_ints (x : Int) : ∀ ys : List Int, inV (.int x) (ys.map V.int) = decide (x ∈ ys)
  | [] => by simp [inV]
  | y :: ys => by
    have ih := inV_ints x ys
    unfold inV at ih ⊢
    rw [List.map_cons, List.any_cons, ih]
    show ((y == x) || decide (x ∈ ys)) = decide (x ∈ y :: ys)
    by_cases c : y = x
    · subst c
      simp
    · have c' : x ≠ y := fun e => c e.symm
      simp [c, c']
theorem inV_pair (l : Nat) (p : Post) : inV (.int ((l : Nat) : Int)) [.int ((p.1 : Nat) : Int), .int ((p.2 : Nat) : Int)] = onL l p := by
  have e := inV_ints ((l : Nat) : Int) [((p.1 : Nat) : Int), ((p.2 : Nat) : Int)]
  rw [show [V.int ((p.1 : Nat) : Int), V.int ((p.2 : Nat) : Int)] = [((p.1 : Nat) : Int), ((p.2 : Nat) : Int)].map V.int from rfl, e, Bool.eq_iff_iff, decide_eq_true_eq, onL_iff]
  simp only [List.mem_cons, List.not_mem_nil, or_false]
  lia
end PN

namespace L2
open PySem
/-! ### max(xs, default = d) of a list of ints -/
section
variable {pg : Program} {wo : World} {Ar : Around} {RR : Result → Shared → Prop} {It : Addr} {fo wo' : List Addr} {n : Nat} {Pv : Nat → Value → Prop} {Sv : Nat → Heap → Prop} {kw : List (Str × Value)}
theorem maxLoopK (W : Walks pg wo Ar.in1 It fo wo' n Pv Sv) (bt : Nat → Nat → Bool) (hcmp : CmpOf pg wo Ar.in1 .Gt Pv bt) (B : Addr) (hB : B ∉ fo) : ∀ (k j : Nat) (s : Shared) (vb : Value) (c : Nat), n - (j + 1) = k → j + 1 ≤ n → Sv (j + 1) s.heap → Pv (argBest bt j) vb →
      s.heap.get? B = some { cls := .type "list", dict := none, data := .seq #[vb, vb] c, slots := #[] } → (∀ v h' tk, Pv (argBest bt (n - 1)) v → (∀ b o, b ∉ wo' → b ≠ B → s.heap.get? b = some o → h'.get? b = some o) → RR (.ok (.ret v)) { s with heap := h', toks := tk }) →
      codeAny (model pg wo) Ar (.builtin "max.loop" ⟨[.ref It, .none, .ref B], kw⟩) RR s := by
  have hBw : B ∉ wo' := fun h => hB (W.sub _ h)
  have hnm : (toString "max" ++ toString ".loop" : String) = "max.loop" := by decide
  intro k
  induction k with
  | zero =>
    intro j s vb c hk hj hst hPb hS hR
    have ein : j + 1 = n := by lia
    refine codeAny_builtin F.entry_max_loop ?_
    rw [Around.under_plainId F.plain_max_loop _]
    show wpAny _ Ar.in1 (seqItems? (.ref B) >>= _) _ _ s
    refine wpAny_bind (wpAny_seqItems hS rfl ?_)
    show wpAny _ Ar.in1 (tryCatch (pyNext (.ref It)) _ >>= _) _ _ s
    refine wpAny_bind (wpAny_tryCatch (W.done s _ _ (ein ▸ hst) fun h1 tk kp => ?_))
    have hS1 := kp B _ hBw hS
    show wpAny _ Ar.in1 (updateSeq B (fun _ => #[]) >>= _) _ _ _
    refine wpAny_bind (wpAny_updateSeq hS1 rfl (wpAny_bind (wpAny_letGo (wpAny_pure ?_))))
    exact hR vb _ tk (by rw [← ein]; exact hPb) fun b o hb1 hb2 e => (Heap.get?_update_other _ _ (Ne.symm hb2)).trans (kp b o hb1 e)
  | succ k ih =>
    intro j s vb c hk hj hst hPb hS hR
    have jlt : j + 1 < n := by lia
    refine codeAny_builtin F.entry_max_loop ?_
    rw [Around.under_plainId F.plain_max_loop _]
    show wpAny _ Ar.in1 (seqItems? (.ref B) >>= _) _ _ s
    refine wpAny_bind (wpAny_seqItems hS rfl ?_)
    show wpAny _ Ar.in1 (tryCatch (pyNext (.ref It)) _ >>= _) _ _ s
    refine wpAny_bind (wpAny_tryCatch (W.item (j + 1) s _ _ jlt hst fun v h1 tk hP st1 kp => ?_))
    have hS1 := kp B _ hBw hS
    show wpAny _ Ar.in1 (tryCatch (holding [v, v] (richCompare .Gt v vb >>= _)) _ >>= _) _ _ _
    refine wpAny_bind (wpAny_tryCatch (wpAny_holding (wpAny_bind (hcmp (j + 1) (argBest bt j) v vb _ _ _ hP hPb (wpAny_bind (wpAny_holding (wpAny_truthy_bool (wpAny_bind (wpAny_letGo (wpAny_pure ?_)))))))))) 
    cases hb : bt (j + 1) (argBest bt j) with
    | true =>
      simp only [if_true]
      refine wpAny_bind (wpAny_updateSeq hS1 rfl (wpAny_bind (wpAny_letGo ?_)))
      rw [hnm]
      refine wpAny_pure ⟨plainId_quiet F.plain_max_loop _, ih (j + 1) _ v _ (by lia) jlt (W.frame _ _ _ st1 fun b hbf o e => ?_) (by simp only [argBest, hb, if_true]; exact hP) (Heap.get?_update_self _ hS1 rfl) fun v2 h2 tk2 hP2 kp2 => ?_⟩
      · exact (Heap.get?_update_other _ _ (fun h : B = b => hB (by rw [h]; exact hbf))).trans e
      · exact hR v2 h2 tk2 hP2 fun b o hb1 hb2 e => kp2 b o hb1 hb2 ((Heap.get?_update_other _ _ (Ne.symm hb2)).trans (kp b o hb1 e))
    | false =>
      simp only [Bool.false_eq_true, if_false]
      refine wpAny_bind (wpAny_letGo ?_)
      rw [hnm]
      exact wpAny_pure ⟨plainId_quiet F.plain_max_loop _, ih (j + 1) _ vb c (by lia) jlt st1 (by simp only [argBest, hb, Bool.false_eq_true, if_false]; exact hPb) hS1 fun v2 h2 tk2 hP2 kp2 => hR v2 h2 tk2 hP2 fun b o hb1 hb2 e => kp2 b o hb1 hb2 (kp b o hb1 e)⟩
theorem maxFirstK (W : Walks pg wo Ar.in1 It fo wo' n Pv Sv) (bt : Nat → Nat → Bool) (hcmp : CmpOf pg wo Ar.in1 .Gt Pv bt) (B : Addr) (hB : B ∉ fo) {s : Shared} {c : Nat} {x : Str} {d : Value} (hst : Sv 0 s.heap)
    (hS : s.heap.get? B = some { cls := .type "list", dict := none, data := .seq #[] c, slots := #[] })
    (hR : ∀ v h' tk, (n = 0 ∧ v = d) ∨ (0 < n ∧ Pv (argBest bt (n - 1)) v) → (∀ b o, b ∉ wo' → b ≠ B → s.heap.get? b = some o → h'.get? b = some o) → RR (.ok (.ret v)) { s with heap := h', toks := tk }) :
    codeAny (model pg wo) Ar (.builtin "max.loop" ⟨[.ref It, .none, .ref B], [(x, d)]⟩) RR s := by
  have hBw : B ∉ wo' := fun h => hB (W.sub _ h)
  have hnm : (toString "max" ++ toString ".loop" : String) = "max.loop" := by decide
  refine codeAny_builtin F.entry_max_loop ?_
  rw [Around.under_plainId F.plain_max_loop _]
  show wpAny _ Ar.in1 (seqItems? (.ref B) >>= _) _ _ s
  refine wpAny_bind (wpAny_seqItems hS rfl ?_)
  show wpAny _ Ar.in1 (tryCatch (pyNext (.ref It)) _ >>= _) _ _ s
  by_cases hn : 0 < n
  · refine wpAny_bind (wpAny_tryCatch (W.item 0 s _ _ hn hst fun v h1 tk hP st1 kp => ?_))
    have hS1 := kp B _ hBw hS
    show wpAny _ Ar.in1 (updateSeq B (fun _ => #[v, v]) >>= _) _ _ _
    refine wpAny_bind (wpAny_updateSeq hS1 rfl ?_)
    rw [hnm]
    refine wpAny_pure ⟨plainId_quiet F.plain_max_loop _, maxLoopK W bt hcmp B hB _ 0 _ v _ rfl hn (W.frame _ _ _ st1 fun b hbf o e => ?_) hP (Heap.get?_update_self _ hS1 rfl) fun v2 h2 tk2 hP2 kp2 => ?_⟩
    · exact (Heap.get?_update_other _ _ (fun h : B = b => hB (by rw [h]; exact hbf))).trans e
    · exact hR v2 h2 tk2 (.inr ⟨hn, hP2⟩) fun b o hb1 hb2 e => kp2 b o hb1 hb2 ((Heap.get?_update_other _ _ (Ne.symm hb2)).trans (kp b o hb1 e))
  · have e0 : n = 0 := by lia
    refine wpAny_bind (wpAny_tryCatch (W.done s _ _ (e0 ▸ hst) fun h1 tk kp => ?_))
    show wpAny _ Ar.in1 (_ >>= _) _ _ _
    refine wpAny_bind (wpAny_rule (wpAny_pure ?_))
    exact hR d h1 tk (.inl ⟨e0, rfl⟩) fun b o hb1 _ e => kp b o hb1 e
end
section
variable {pg : Program} {wo : World} {Ar : Around} {EE : Value → Shared → Prop} {s : Shared}
theorem args_maxD (a d : Value) : argsOk "max" ⟨[a], [(Str.ofString "default", d)]⟩ := by unfold argsOk; kernel_rfl
theorem best_ge {val : Nat → Int} : ∀ k j, j ≤ k → val j ≤ val (argBest (fun i j => decide (val i > val j)) k)
  | 0, j, h => by
    have e : j = 0 := by lia
    rw [e]
    exact Int.le_refl _
  | k + 1, j, h => by
    unfold argBest
    have ih := best_ge (val := val) k
    by_cases c : val (k + 1) > val (argBest (fun i j => decide (val i > val j)) k)
    · rw [if_pos (decide_eq_true c)]
      by_cases e : j = k + 1
      · rw [e]; exact Int.le_refl _
      · have := ih j (by lia)
        lia
    · rw [if_neg (by simpa using c)]
      by_cases e : j = k + 1
      · rw [e]; lia
      · exact ih j (by lia)
theorem best_le {bt : Nat → Nat → Bool} : ∀ k, argBest bt k ≤ k
  | 0 => Nat.le_refl _
  | k + 1 => by
    unfold argBest
    have := best_le (bt := bt) k
    split <;> lia
theorem call_treeK {id : String} {bi : Builtin} {as : List Value} {kw : List (Str × Value)} {Q : Value → Shared → Prop} (hk : builtinKind id = none) (hp : plainId id = true) (hb : entryFor table id = some bi) (ha : argsOk id ⟨as, kw⟩)
    (hc : wpAny (model pg wo) Ar.in1 (bi ⟨as, kw⟩) (fun fin s1 => match fin with | .done f => (match (Except.ok f : Result) with | .ok (.ret v) => Q v s1 | .ok _ => False | .error e => EE e s1) | .again c => c.quiet = true ∧ codeAny (model pg wo) Ar c (fun r s1 => match r with | .ok (.ret v) => Q v s1 | .ok _ => False | .error e => EE e s1) s1) EE s) :
    wpAny (model pg wo) Ar (call (.builtin id) as kw) Q EE s := by
  refine wpAny_call (codeAny_call_builtin hp hb ?_)
  simp only [checkBuiltinCall, hk]
  cases es : Manifest.signature? id with
  | none => exact wpAny_pure hc
  | some sg =>
    have ha1 : Bind.checkArgs id sg ⟨as, kw⟩ = pure () := by simpa only [argsOk, es] using ha
    simp only [ha1]
    exact wpAny_pure hc
theorem call_maxD {l : Addr} {vs : List Value} {val : Nat → Int} {d : Value} {Q : Value → Shared → Prop} (hh : Ar.handled = none) (hl : s.heap.IsList l vs.toArray) (hv : ∀ (i : Nat) (v : Value), vs[i]? = some v → ∃ t, v = .int (val i) t)
    (hQ : ∀ v h' tk, (vs.length = 0 ∧ v = d) ∨ (∃ i t, i < vs.length ∧ v = Value.int (val i) t ∧ ∀ j, j < vs.length → val j ≤ val i) → (∀ b o, s.heap.get? b = some o → h'.get? b = some o) → Q v { s with heap := h', toks := tk }) :
    wpAny (model pg wo) Ar (call (.builtin "max") [.ref l] [(Str.ofString "default", d)]) Q EE s := by
  have hnm : (toString "max" ++ toString ".loop" : String) = "max.loop" := by decide
  refine call_treeK F.kind_max F.plain_max F.entry_max (args_maxD _ _) ?_
  show wpAny _ Ar.in1 (Builtin.Builtins.bindParams "max" ["key", "default"] 0 ⟨[], [(Str.ofString "default", d)]⟩ >>= _) _ _ s
  refine wpAny_bind (wpAny_of_eq (show Builtin.Builtins.bindParams "max" ["key", "default"] 0 ⟨[], [(Str.ofString "default", d)]⟩ = pure [none, some d] from rfl) ?_)
  refine wpAny_bind (wpAny_pure ?_)
  obtain ⟨ol, hol, _⟩ := id hl
  have hll : l < s.heap.objs.size := Heap.lt_size hol
  refine wpAny_bind (wpAny_pyIter_list hl ?_)
  refine wpAny_bind (wpAny_newList ?_ (Nat.zero_le _))
  rw [hnm]
  have hI : l ≠ s.heap.objs.size := Nat.ne_of_lt hll
  have W := Walks.list (prog := pg) (w := wo) (A := Ar.in1) hh s.heap.objs.size l hI vs.toArray
  have hsz : (s.heap.push { cls := .type "list_iterator", data := .fields #[.ref l, .int 0 0] }).objs.size = s.heap.objs.size + 1 := Heap.size_push ..
  have up : ∀ b o, s.heap.get? b = some o → ((s.heap.push { cls := .type "list_iterator", data := .fields #[.ref l, .int 0 0] }).push { cls := .type "list", data := .seq ([] : List Value).toArray }).get? b = some o := fun b o e => Heap.get?_push_of_some _ (Heap.get?_push_of_some _ e)
  refine wpAny_pure ⟨plainId_quiet F.plain_max_loop _, maxFirstK W _ (CmpOf.ints_gt val fun i v e => hv i v (by simpa using e)) _ ?_ ⟨⟨_, Heap.get?_push_of_some _ (Heap.get?_push_size _ rfl), rfl, rfl⟩, hl.at fun o e => up l o e⟩ (Heap.get?_push_size _ rfl) fun v h1 tk hv1 kp => hQ v h1 tk ?_ fun b o e => kp b o ?_ ?_ (up b o e)⟩
  · rw [hsz]
    simp only [List.mem_cons, List.not_mem_nil, or_false, not_or]
    exact ⟨Nat.succ_ne_self _, Nat.ne_of_gt (Nat.lt_succ_of_lt hll)⟩
  · rw [List.size_toArray] at hv1
    rcases hv1 with ⟨e, rfl⟩ | ⟨hn, e⟩
    · exact .inl ⟨e, rfl⟩
    · have e1 : vs[argBest (fun i j => decide (val i > val j)) (vs.length - 1)]? = some v := by simpa using e
      obtain ⟨t, rfl⟩ := hv _ v e1
      have hb := best_le (bt := fun i j => decide (val i > val j)) (vs.length - 1)
      exact .inr ⟨_, t, by lia, rfl, fun j hj => best_ge (val := val) (vs.length - 1) j (by lia)⟩
  · simp only [List.mem_cons, List.not_mem_nil, or_false]
    exact Nat.ne_of_lt (Heap.lt_size e)
  · rw [hsz]
    exact Nat.ne_of_lt (Nat.lt_succ_of_lt (Heap.lt_size e))
end
end L2

namespace L2
open PySem
/-! ### list(reversed(xs)) -/
theorem nolen_lri : typeLookup (.type "list_reverseiterator") "__len__" = pure none := by rw [typeLookup_type, builtinLookup_eq_fast]; kernel_rfl
theorem hint_lri : typeLookup (.type "list_reverseiterator") "__length_hint__" = pure (some (.builtin "list_reverseiterator.__length_hint__")) := by rw [typeLookup_type, builtinLookup_eq_fast]; kernel_rfl
section
variable {pg : Program} {wo : World} {Ar : Around} {RR : Result → Shared → Prop} {EE : Value → Shared → Prop} {s : Shared} {l I : Addr} {items : Array Value}
theorem extend_rev (hh : Ar.handled = none) (hne : l ≠ I) (hit : s.heap.IsRevIter I l ((items.size : Int) - 1)) (hl : s.heap.IsList l items) (hz : items.size ≤ sizeLine) (S : Addr) (res : Value) (c0 : Nat) (hS : s.heap.get? S = some { cls := .type "list", data := .seq #[] c0 }) (hSf : S ∉ [I, l])
    (hR : ∀ h' tk acc c', (∀ b o, b ≠ S → b ≠ I → s.heap.get? b = some o → h'.get? b = some o) → h'.get? S = some { cls := .type "list", dict := none, data := .seq acc c', slots := #[] } → ItemsOf (fun i v => items[items.size - 1 - i]? = some v) acc items.size → RR (.ok (.ret res)) { s with heap := h', toks := tk }) :
    wpAny (model pg wo) Ar.in1 (Builtin.List.listExtendWith (.ref S) (.ref I) res) (fun fin s' => match fin with | .done f => RR (.ok f) s' | .again c' => c'.quiet = true ∧ codeAny (model pg wo) Ar c' RR s') (fun e s' => RR (.error e) s') s := by
  have W := (Walks.listRev (prog := pg) (w := wo) (A := Ar.in1) hh I l hne items).toS
  have hSI : S ≠ I := fun e => hSf (by simp [e])
  have ty : s.TypeIs (.ref I) "list_reverseiterator" := hit.typeIs
  unfold Builtin.List.listExtendWith
  refine wpAny_bind (wpAny_typeOf ty ?_)
  have h1 : Builtin.List.listSameRef (.ref S) (.ref I) = false := by simp [Builtin.List.listSameRef, hSI]
  rw [if_neg (by rw [h1]; decide)]
  have st0 : 0 ≤ items.size ∧ s.heap.IsRevIter I l ((items.size : Int) - 1 - ((0 : Nat) : Int)) ∧ s.heap.IsList l items := ⟨Nat.zero_le _, by rw [show ((0 : Nat) : Int) = 0 from rfl, Int.sub_zero]; exact hit, hl⟩
  refine wpAny_bind (W.self 0 _ _ _ st0 ?_)
  refine wpAny_bind (wpAny_holding ?_)
  unfold Builtin.List.listLengthHint
  refine wpAny_bind (wpAny_specialOf ty nolen_lri ?_)
  show wpAny _ Ar.in1 (specialOf (Value.ref I) (Str.ofString "__length_hint__") >>= _) _ _ _
  refine wpAny_bind (wpAny_specialOf ty hint_lri ?_)
  (generalize hid : ("list_reverseiterator.__length_hint__" : String) = id0; (fail_if_success (clear hid id0)); wp_delta; rw [show splitId id0 = some ("list_reverseiterator", "__length_hint__") from by subst hid; decide +kernel]; subst hid)
  refine wpAny_bind (wpAny_isInstance (b := true) ty (by rw [isSubtype_type]; kernel_rfl) ?_)
  refine wpAny_pure ?_
  rw [if_neg (by decide)]
  refine wpAny_pure ⟨plainId_quiet F.plain_extend_loop _, codeAny_extend_loopS W hz _ hSf _ items.size 0 _ _ _ rfl (Nat.zero_le _) st0 hS (ItemsOf.nil _) fun s' acc' c' hm hS' hacc => ?_⟩
  rw [Moved.eq_with hm]
  refine hR s'.heap s'.toks acc' c' (fun b o hb hbI e => hm.heap b o (fun hmem => ?_) e) hS' hacc
  simp only [List.mem_cons, List.not_mem_nil, or_false] at hmem
  rcases hmem with e' | e'
  · exact hb e'
  · exact hbI e'
theorem call_list_rev {Q : Value → Shared → Prop} (hh : Ar.handled = none) (hne : l ≠ I) (hit : s.heap.IsRevIter I l ((items.size : Int) - 1)) (hl : s.heap.IsList l items) (hz : items.size ≤ sizeLine)
    (hQ : ∀ h' tk acc c', (∀ b o, b ≠ I → s.heap.get? b = some o → h'.get? b = some o) → h'.get? s.heap.objs.size = some { cls := .type "list", dict := none, data := .seq acc c', slots := #[] } → ItemsOf (fun i v => items[items.size - 1 - i]? = some v) acc items.size → Q (.ref s.heap.objs.size) { s with heap := h', toks := tk }) :
    wpAny (model pg wo) Ar (call (.type "list") [.ref I]) Q EE s := by
  refine callType_codes (Q₁ := fun obj s1 => obj = .ref s.heap.objs.size ∧ s1 = { s with heap := s.heap.push { cls := .type "list", data := .seq #[] } }) F.called_list (F.typeCall_list_1 _) F.entry_list_init (code_list_new _ ⟨rfl, rfl⟩) fun obj s1 h1 => ?_
  obtain ⟨rfl, rfl⟩ := h1
  obtain ⟨oI, hoI, rI⟩ := id hit
  obtain ⟨ol, hol, _⟩ := id hl
  have lI := Heap.lt_size hoI
  have ll := Heap.lt_size hol
  have hS : (s.heap.push { cls := .type "list", data := .seq #[] }).get? s.heap.objs.size = some { cls := .type "list", data := .seq #[] } := Heap.get?_push_size _ rfl
  refine ⟨⟨_, hS, rfl⟩, F.args_list_init_2 _ _, ?_⟩
  show wpAny _ _ (do let old ← Builtin.List.listItems (.ref s.heap.objs.size); Builtin.List.listUpdate (.ref s.heap.objs.size) (fun _ => #[]); letGo old.toList.reverse; Builtin.List.listExtendWith (.ref s.heap.objs.size) (.ref I) .none) _ _ _
  refine wpAny_bind ?_
  unfold Builtin.List.listItems
  refine wpAny_bind (wpAny_seqItems hS rfl (wpAny_pure ?_))
  show wpAny _ _ (updateSeq s.heap.objs.size (fun _ => #[]) >>= fun _ => letGo (#[] : Array Value).toList.reverse >>= fun _ => Builtin.List.listExtendWith (.ref s.heap.objs.size) (.ref I) .none) _ _ _
  refine wpAny_bind (wpAny_updateSeq hS rfl ?_)
  have hS2 := Heap.get?_update_self (Obj.mapSeq (fun _ => (#[] : Array Value))) hS rfl
  have oth : ∀ b o, b ≠ s.heap.objs.size → (s.heap.push { cls := .type "list", data := .seq #[] }).get? b = some o → ((s.heap.push { cls := .type "list", data := .seq #[] }).update s.heap.objs.size (Obj.mapSeq (fun _ => (#[] : Array Value)))).get? b = some o := fun b o hb e => (Heap.get?_update_other _ _ (Ne.symm hb)).trans e
  have old : ∀ b o, s.heap.get? b = some o → ((s.heap.push { cls := .type "list", data := .seq #[] }).update s.heap.objs.size (Obj.mapSeq (fun _ => (#[] : Array Value)))).get? b = some o := fun b o e => oth b o (Nat.ne_of_lt (Heap.lt_size e)) (Heap.get?_push_of_some _ e)
  refine wpAny_bind (wpAny_letGo ?_)
  refine extend_rev (Ar := Ar.in1) hh hne (hit.at fun o e => old I o e) (hl.at fun o e => old l o e) hz s.heap.objs.size .none _ hS2 ?_ fun h' tk acc c' hk hS' hacc => ?_
  · simp only [List.mem_cons, List.not_mem_nil, or_false, not_or]
    exact ⟨Nat.ne_of_gt lI, Nat.ne_of_gt ll⟩
  · exact ⟨rfl, hQ h' tk acc c' (fun b o hb e => hk b o (Nat.ne_of_lt (Heap.lt_size e)) hb (old b o e)) hS' hacc⟩
end
end L2

namespace L2
open PySem PySem.Spec PyProof.Rows
section
variable {X : Cx} {e d : Expr} {te td : TE} {p p2 pos pos2 kp : Pos}
noncomputable def tMaxD (K : PySem.W.Frag) (te td : TE) : TE := fun σ H Q => te σ H fun x H1 => td σ H1 fun dv H2 => ∃ a ns, x = .ref a ∧ SqL K H2 a (ns.map V.int) ∧ ((ns = [] ∧ Q dv H2) ∨ (ns ≠ [] ∧ ∀ m, m ∈ ns → (∀ y ∈ ns, y ≤ m) → Q (.int m) H2))
theorem ints_val {ns : List Int} {us : List Value} (r : Vals (ns.map V.int) us) (i : Nat) (v : Value) (h : us[i]? = some v) : ∃ t, v = .int (ns.getD i 0) t := by
  have hl := r.length
  rw [List.length_map] at hl
  have hi : i < ns.length := by rw [hl]; exact (List.getElem?_eq_some_iff.mp h).1
  obtain ⟨u, hu, ru⟩ := r.get (i := i) (x := V.int ns[i]) (by rw [List.getElem?_map, List.getElem?_eq_getElem hi]; rfl)
  rw [h] at hu
  cases hu
  obtain ⟨t, e⟩ := ru
  exact ⟨t, by rw [e, List.getD_eq_getElem?_getD, List.getElem?_eq_getElem hi]; rfl⟩
/-- max(e, default = d) -/
theorem pe_maxD (hc : X.calm = true) (hg : Gl X "max") (hm : X.mg "max" = none) (he : PE X e te) (hd : PE X d td) (hs : starEach [e] X.env = [(false, eval e X.env)] := by rfl) : PE X (.Call (.Name "max" p) [e] [⟨some "default", d, kp⟩] pos) (tMaxD X.K te td) := by
  intro pins s σ H Q I h
  refine wpAny_Call_Name_kw (ld_blt I hg hm boot_max (callWith_kw ?_ (by rw [hs]; rfl) (by rw [hs]; rfl)))
  rw [hs]
  show wpAny _ _ (spliced ((false, eval e X.env) :: backTo pos [])) _ _ s
  refine Calls.spliced_cons (thn (he pins s σ H _ I h) fun u s1 ⟨x, H1, I1, rx, q1⟩ => Calls.spliced_nil ?_)
  have q1' : tCons td tNil σ H1 (fun zs H2 => match zs with | [dv] => (∃ a ns, x = .ref a ∧ SqL X.K H2 a (ns.map V.int) ∧ ((ns = [] ∧ Q dv H2) ∨ (ns ≠ [] ∧ ∀ m, m ∈ ns → (∀ y ∈ ns, y ≤ m) → Q (.int m) H2))) | _ => False) := q1
  refine thn (pk_cons (nm := some "default") (kpos := kp) hd pk_nil pos pins s1 σ H1 _ I1 q1') fun ws s2 ⟨zs, H2, I2, rz, q2⟩ => ?_
  match zs, ws, rz, q2 with
  | [dv], [dw], rz, ⟨a, ns, e', hq, q3⟩ =>
    subst e'
    cases rx
    obtain ⟨_, e2, rd⟩ := vals1 rz
    cases e2
    show wpAny _ _ (call (.builtin "max") [.ref a] [(Str.ofString "default", dw)]) _ _ s2
    obtain ⟨its, r, pl, hz⟩ := I2.list hq
    have hlen := r.length
    rw [List.length_map] at hlen
    refine call_maxD (val := fun i => ns.getD i 0) (I2.ok.hd hc) pl.isList (ints_val r) fun v h' tk hv kp' => ?_
    rcases hv with ⟨e0, rfl⟩ | ⟨i, t, hi, rfl, hall⟩
    · have en : ns = [] := List.length_eq_zero_iff.mp (by lia)
      rcases q3 with ⟨_, q⟩ | ⟨ne, _⟩
      · exact ⟨dv, H2, I2.kept kp', rd, q⟩
      · exact absurd en ne
    · rcases q3 with ⟨en, _⟩ | ⟨_, q⟩
      · rw [en] at hlen
        simp at hlen
        lia
      · have hin : i < ns.length := by lia
        refine ⟨.int (ns.getD i 0), H2, I2.kept kp', ⟨t, rfl⟩, q _ ?_ fun y hy => ?_⟩
        · rw [List.getD_eq_getElem?_getD, List.getElem?_eq_getElem hin]
          exact List.getElem_mem hin
        · obtain ⟨j, hj⟩ := List.mem_iff_getElem?.mp hy
          have z := hall j (by rw [← hlen]; exact (List.getElem?_eq_some_iff.mp hj).1)
          rw [List.getD_eq_getElem?_getD (i := j), hj] at z
          exact z
  | [], _, _, q2 => exact q2.elim
  | _ :: _ :: _, _, _, q2 => exact q2.elim
  | [_], [], rz, _ => cases rz
  | [_], _ :: _ :: _, rz, _ =>
    cases rz with
    | cons _ r => cases r
noncomputable def tListRev (K : PySem.W.Frag) (te : TE) : TE := fun σ H Q => te σ H fun x H1 => ∃ a xs, x = .ref a ∧ SqL K H1 a xs ∧ ∀ l, H1 l = none → Q (.ref l) (upd H1 l (.lst xs.reverse))
/-- list(reversed(e)) -/
theorem pe_listRev (hc : X.calm = true) (hg : Gl X "list") (hm : X.mg "list" = none) (hg2 : Gl X "reversed") (hm2 : X.mg "reversed" = none) (he : PE X e te)
    (hs : starEach [.Call (.Name "reversed" p2) [e] [] pos2] X.env = [(false, eval (.Call (.Name "reversed" p2) [e] [] pos2) X.env)] := by rfl) (hs2 : starEach [e] X.env = [(false, eval e X.env)] := by rfl) :
    PE X (.Call (.Name "list" p) [.Call (.Name "reversed" p2) [e] [] pos2] [] pos) (tListRev X.K te) := by
  intro pins s σ H Q I h
  refine Call_ (ld_blt I hg hm boot_list (PyProof.Rows.callWith_type1 ?_ hs rfl))
  rw [hs]
  show wpAny _ _ (spliced ((false, eval (.Call (.Name "reversed" p2) [e] [] pos2) X.env) :: backTo pos [])) _ _ s
  refine Calls.spliced_cons (Call_ (ld_blt I hg2 hm2 boot_reversed (PyProof.Rows.callWith_type1 ?_ hs2 rfl)))
  rw [hs2]
  show wpAny _ _ (spliced ((false, eval e X.env) :: backTo pos2 [])) _ _ s
  refine Calls.spliced_cons (thn (he pins s σ H _ I h) fun u s1 ⟨x, H1, I1, rx, a, xs, e1, hq, q⟩ => Calls.spliced_nil ?_)
  subst e1
  cases rx
  obtain ⟨its, r, pl, hz⟩ := I1.list hq
  have hlen := r.length
  refine call_reversed_list pl.isList (Calls.spliced_nil ?_)
  obtain ⟨o, ho, _⟩ := pl.isList
  have al : a < s1.heap.objs.size := Heap.lt_size ho
  have up : ∀ b o, s1.heap.get? b = some o → (s1.heap.push (revObj a ((its.toArray.size : Int) - 1))).get? b = some o := fun b o e => Heap.get?_push_of_some _ e
  refine call_list_rev (s := { s1 with heap := s1.heap.push (revObj a ((its.toArray.size : Int) - 1)) }) (items := its.toArray) (I1.ok.hd hc) (Nat.ne_of_lt al) ⟨_, Heap.get?_push_size _ rfl, rfl, rfl⟩ (pl.isList.at fun o e => up a o e) (by rw [List.size_toArray, ← hlen]; exact hz) fun h' tk acc c' kp hS hacc => ?_
  have hsz : (s1.heap.push (revObj a ((its.toArray.size : Int) - 1))).objs.size = s1.heap.objs.size + 1 := Heap.size_push ..
  have kp' : ∀ b o, s1.heap.get? b = some o → h'.get? b = some o := fun b o e => kp b o (Nat.ne_of_lt (Heap.lt_size e)) (up b o e)
  have le : s1.heap.objs.size ≤ s1.heap.objs.size + 1 := Nat.le_succ _
  show EP X pins σ Q (.ref (s1.heap.push (revObj a ((its.toArray.size : Int) - 1))).objs.size) _
  rw [show (Shared.heap { s1 with heap := s1.heap.push (revObj a ((its.toArray.size : Int) - 1)) }).objs.size = s1.heap.objs.size + 1 from hsz] at hS
  rw [hsz]
  have eacc : acc = its.reverse.toArray := by
    refine Array.ext (by rw [hacc.1, List.size_toArray, List.size_toArray, List.length_reverse]) fun i h1 h2 => ?_
    have z := hacc.2 i acc[i] (Array.getElem?_eq_getElem h1)
    rw [hacc.1] at h1
    rw [List.size_toArray] at z h1
    have z2 : its[its.length - 1 - i]? = some acc[i] := by simpa using z
    have z3 : its.reverse[i]? = some acc[i] := by rw [List.getElem?_reverse h1]; exact z2
    rw [List.getElem?_eq_getElem (by rw [List.length_reverse]; exact h1)] at z3
    simpa using (Option.some.inj z3).symm
  refine ⟨.ref (s1.heap.objs.size + 1), _, I1.laid (t' := tk) kp' le (show ObjOk X.prog X.w _ h' _ (.lst xs.reverse) from ⟨by rw [List.length_reverse]; exact hz, its.reverse, c', r.reverse, ?_⟩), rfl, q _ (I1.hok.fresh le)⟩
  rw [← eacc]
  exact hS
end
end L2

namespace L2
open PySem Builtin Builtin.Str
/-! ### sep.join(reversed(xs)) -/
theorem gives_join (x : Str) (ls : List (Str × Tok)) (hok : tooLong ((ls.map (·.1)).toArray.foldl (· + ·.length + x.length) 0) = false) : Gives (joinTail x (strValues ls)) (joinMade x ls) := by
  have g0 := gives_joinTail x ls hok
  cases ls with
  | nil => exact g0
  | cons p r =>
    cases r with
    | nil => exact g0
    | cons q r' => exact g0
section
variable {pg : Program} {wo : World} {Ar : Around} {EE : Value → Shared → Prop} {s : Shared} {l I : Addr} {items : Array Value}
theorem iadd_rev {RR : Result → Shared → Prop} (hh : Ar.handled = none) (hne : l ≠ I) (hit : s.heap.IsRevIter I l ((items.size : Int) - 1)) (hl : s.heap.IsList l items) (hz : items.size ≤ sizeLine) (S : Addr) (c0 : Nat) (hS : s.heap.get? S = some { cls := .type "list", data := .seq #[] c0 }) (hSf : S ∉ [I, l])
    (hR : ∀ h' tk acc c', (∀ b o, b ≠ S → b ≠ I → s.heap.get? b = some o → h'.get? b = some o) → h'.get? S = some { cls := .type "list", dict := none, data := .seq acc c', slots := #[] } → ItemsOf (fun i v => items[items.size - 1 - i]? = some v) acc items.size → RR (.ok (.ret (.ref S))) { s with heap := h', toks := tk }) :
    codeAny (model pg wo) Ar (.builtin "list.__iadd__" ⟨[.ref S, .ref I], []⟩) RR s := by
  refine codeAny_builtin F.entry_list_iadd ?_
  rw [Around.under_plainId F.plain_list_iadd _]
  show wpAny _ Ar.in1 (Builtin.List.listExtendWith (.ref S) (.ref I) (.ref S)) _ _ _
  exact extend_rev (Ar := Ar) hh hne hit hl hz S (.ref S) _ hS hSf hR
theorem collect_rev {Q : List Value → Shared → Prop} (hh : Ar.handled = none) (hne : l ≠ I) (hit : s.heap.IsRevIter I l ((items.size : Int) - 1)) (hl : s.heap.IsList l items) (hz : items.size ≤ sizeLine)
    (hQ : ∀ h' tk acc, (∀ b o, b ≠ I → s.heap.get? b = some o → h'.get? b = some o) → ItemsOf (fun i v => items[items.size - 1 - i]? = some v) acc items.size → Q acc.toList { s with heap := h', toks := tk }) :
    wpAny (model pg wo) Ar (collect (.ref I)) Q EE s := by
  obtain ⟨oI, hoI, rI⟩ := id hit
  obtain ⟨ol, hol, _⟩ := id hl
  have lI := Heap.lt_size hoI
  have ll := Heap.lt_size hol
  unfold collect
  refine wpAny_bind (wpAny_runValue (codeAny_builtin F.entry_proto_collect ?_))
  rw [Around.under_plainId F.plain_proto_collect _]
  show wpAny _ Ar.in1 (newList [] >>= fun l => again (.builtin "list.__iadd__" ⟨[l, .ref I], []⟩)) _ _ s
  refine wpAny_bind (wpAny_newObj_type ?_)
  have old : ∀ b o, s.heap.get? b = some o → (s.heap.push { cls := .type "list", data := .seq ([] : List Value).toArray }).get? b = some o := fun b o e => Heap.get?_push_of_some _ e
  have hS1 : (s.heap.push { cls := .type "list", data := .seq ([] : List Value).toArray }).get? s.heap.objs.size = some { cls := .type "list", data := .seq ([] : List Value).toArray } := Heap.get?_push_size _ rfl
  refine wpAny_pure ⟨plainId_quiet F.plain_list_iadd _, iadd_rev (s := { s with heap := s.heap.push { cls := .type "list", data := .seq ([] : List Value).toArray } }) hh hne (hit.at fun o e => old I o e) (hl.at fun o e => old l o e) hz s.heap.objs.size _ hS1 ?_ fun h' tk acc c' hk hS' hacc => ?_⟩
  · simp only [List.mem_cons, List.not_mem_nil, or_false, not_or]
    exact ⟨Nat.ne_of_gt lI, Nat.ne_of_gt ll⟩
  · show wpAny _ Ar (load s.heap.objs.size >>= _) _ _ _
    refine wpAny_bind (wpAny_load (s := { s with heap := h', toks := tk }) hS' ?_)
    exact wpAny_pure (hQ h' tk acc (fun b o hb e => hk b o (Nat.ne_of_lt (Heap.lt_size e)) hb (old b o e)) hacc)
theorem call_join_rev {Q : Value → Shared → Prop} {x : Str} {t : Tok} {ls : List (Str × Tok)} (hh : Ar.handled = none) (hne : l ≠ I) (hit : s.heap.IsRevIter I l (((strValues ls).toArray.size : Int) - 1)) (hl : s.heap.IsList l (strValues ls).toArray) (hz : (strValues ls).toArray.size ≤ sizeLine)
    (hok : JoinOk x (ls.map (·.1)).reverse = true) (hq : ∀ t' h' k, (∀ b o, b ≠ I → s.heap.get? b = some o → h'.get? b = some o) → Q (.str (Txt.join x (ls.map (·.1)).reverse) t') { s with heap := h', toks := k }) :
    wpAny (model pg wo) Ar (call (.builtin "str.join") [.str x t, .ref I]) Q EE s := by
  refine wpAny_call (codeAny_call_builtin F.slot_str_join.plain F.entry_str_join (F.slot_str_join.check _ _ _ _ _ _ _ _ (typeIs_str _ _ _) (F.args_str_join_2 _ _) ?_))
  rw [join_tree_other]
  refine wpAny_bind (wpAny_typeOf hit.typeIs ?_)
  show wpAny _ Ar.in1 ((pyIter (.ref I)).tryCatch _ >>= fun it => collect it >>= fun items => joinTail x items) _ _ s
  refine wpAny_bind (wpAny_tryCatch (wpAny_pyIter_revIter hit ?_))
  refine wpAny_bind (collect_rev (Ar := Ar.in1) hh hne hit hl hz fun h' tk acc kp hacc => ?_)
  have eacc : acc.toList = strValues ls.reverse := by
    have e1 : acc = (strValues ls).reverse.toArray := by
      refine Array.ext (by rw [hacc.1, List.size_toArray, List.size_toArray, List.length_reverse]) fun i h1 h2 => ?_
      have z := hacc.2 i acc[i] (Array.getElem?_eq_getElem h1)
      rw [hacc.1] at h1
      rw [List.size_toArray] at z h1
      have z2 : (strValues ls)[(strValues ls).length - 1 - i]? = some acc[i] := by simpa using z
      have z3 : (strValues ls).reverse[i]? = some acc[i] := by rw [List.getElem?_reverse h1]; exact z2
      rw [List.getElem?_eq_getElem (by rw [List.length_reverse]; exact h1)] at z3
      simpa using (Option.some.inj z3).symm
    rw [e1, List.toList_toArray]
    unfold strValues
    rw [List.map_reverse]
  rw [eacc]
  have hrev : (ls.reverse).map (·.1) = (ls.map (·.1)).reverse := by rw [List.map_reverse]
  rw [← hrev] at hok hq
  unfold JoinOk at hok
  rw [Bool.not_eq_true'] at hok
  have g := gives_join x ls.reverse hok
  exact g pg wo Ar (wants Q EE) { s with heap := h', toks := tk } (post_join ls.reverse ⟨joinFit_length hok, fun t' k => hq t' h' k kp⟩)
end
end L2

namespace L2
open PySem PySem.Spec PyProof.Rows
theorem strs_of : ∀ {xs : List Str} {us : List Value}, Vals (xs.map V.str) us → ∃ l : List (Str × Tok), us = strValues l ∧ l.map (·.1) = xs
  | [], us, r => by
    have e : us = [] := r.zero
    exact ⟨[], e, rfl⟩
  | x :: xs, us, r => by
    cases r with
    | cons r1 r2 =>
      obtain ⟨t, rfl⟩ := r1
      obtain ⟨l, e, h⟩ := strs_of r2
      refine ⟨(x, t) :: l, ?_, by rw [List.map_cons, h]⟩
      rw [e]
      rfl
section
variable {X : Cx} {e o : Expr} {te to : TE} {p p2 pos pos2 apos cpos : Pos}
noncomputable def rJoin (K : PySem.W.Frag) : V → List V → Hp → VK → Prop := fun x vs H Q => ∃ (sep : Str) (a : Addr) (texts : List Str), x = .str sep ∧ vs = [.ref a] ∧ SqL K H a (texts.map V.str) ∧ JoinOk sep texts = true ∧ Q (.str (Txt.join sep texts)) H
/-- sep.join(xs) -/
theorem mt_join : MtR X "str.join" (rJoin X.K) := by
  intro pins s σ H x xs v us Q I rx rs h
  obtain ⟨sep, a, texts, rfl, rfl, hq, hok, q⟩ := h
  obtain ⟨t, rfl⟩ := rx
  obtain ⟨u, rfl, ru⟩ := vals1 rs
  cases ru
  obtain ⟨its, r, pl, hz⟩ := I.list hq
  obtain ⟨l, rfl, hl⟩ := strs_of r
  exact SC.join pl.isList hl hok fun t' k => ⟨.str (Txt.join sep texts), H, I.tok k, ⟨t', rfl⟩, q⟩
end
section
open Builtin Builtin.Str
variable {pg : Program} {wo : World} {Ar : Around} {EE : Value → Shared → Prop} {s : Shared} {a y : Str} {t u : Tok} {Q : Value → Shared → Prop}
end
section
variable {X : Cx} {e o : Expr} {te to : TE} {p p2 pos pos2 apos cpos : Pos}
noncomputable def tJoinRev (K : PySem.W.Frag) (to te : TE) : TE := fun σ H Q => to σ H fun x H0 => ∃ sep, x = .str sep ∧ te σ H0 fun y H1 => ∃ (a : Addr) (texts : List Str), y = .ref a ∧ SqL K H1 a (texts.map V.str) ∧ JoinOk sep texts.reverse = true ∧ Q (.str (Txt.join sep texts.reverse)) H1
/-- sep.join(reversed(e)) -/
theorem pe_joinRev (hc : X.calm = true) (hg2 : Gl X "reversed") (hm2 : X.mg "reversed" = none) (ho : PE X o to) (he : PE X e te)
    (hbase : attributeBase o "join" X.env (eval o X.env) = eval o X.env := by rfl)
    (hfew : ((backTo cpos (starEach [.Call (.Name "reversed" p2) [e] [] pos2] X.env)).all (fun x => !x.1) && (backToKw cpos (keywordEach [] X.env)).all (fun x => x.1.isSome)
      && decide (([.Call (.Name "reversed" p2) [e] [] pos2] : List Expr).length + ([] : List Keyword).length + (if ([] : List Keyword).isEmpty then 0 else 1) < 30)) = true := by rfl)
    (hline : (apos.endLine == cpos.line) = true := by rfl)
    (hs : starEach [.Call (.Name "reversed" p2) [e] [] pos2] X.env = [(false, eval (.Call (.Name "reversed" p2) [e] [] pos2) X.env)] := by rfl) (hs2 : starEach [e] X.env = [(false, eval e X.env)] := by rfl) :
    PE X (.Call (.Attribute o "join" apos) [.Call (.Name "reversed" p2) [e] [] pos2] [] cpos) (tJoinRev X.K to te) := by
  intro pins s σ H Q I h
  refine wpAny_Call_method_late hbase hfew hline rfl (thn (ho pins s σ H _ I h) fun v s1 ⟨x, H0, I0, r0, sep, ex, q0⟩ => ?_)
  subst ex
  obtain ⟨t, rfl⟩ := r0
  refine ⟨"str", "str.join", PySem.F.plainAttrs_str, PySem.F.slot_str_join, PySem.F.type_str_join, typeIs_str _ _ _, (fun a z => by cases z), ?_⟩
  rw [hs]
  refine Calls.callWith_builtin rfl (Calls.evalArgs_plain ?_)
  show wpAny _ _ (spliced ((false, eval (.Call (.Name "reversed" p2) [e] [] pos2) X.env) :: backTo cpos [])) _ _ s1
  refine Calls.spliced_cons (Call_ (ld_blt I0 hg2 hm2 boot_reversed (PyProof.Rows.callWith_type1 ?_ hs2 rfl)))
  rw [hs2]
  show wpAny _ _ (spliced ((false, eval e X.env) :: backTo pos2 [])) _ _ s1
  refine Calls.spliced_cons (thn (he pins s1 σ H0 _ I0 q0) fun u s2 ⟨y, H1, I1, ry, a, texts, e1, hq, hok, q⟩ => Calls.spliced_nil ?_)
  subst e1
  cases ry
  obtain ⟨its, r, pl, hz⟩ := I1.list hq
  obtain ⟨l, rfl, hl⟩ := strs_of r
  have hlen := r.length
  refine call_reversed_list pl.isList (Calls.spliced_nil ?_)
  obtain ⟨ob, hob, _⟩ := pl.isList
  have al : a < s2.heap.objs.size := Heap.lt_size hob
  have up : ∀ b o, s2.heap.get? b = some o → (s2.heap.push (revObj a (((strValues l).toArray.size : Int) - 1))).get? b = some o := fun b o e => Heap.get?_push_of_some _ e
  subst hl
  refine call_join_rev (s := { s2 with heap := s2.heap.push (revObj a (((strValues l).toArray.size : Int) - 1)) }) (I1.ok.hd hc) (Nat.ne_of_lt al) ⟨_, Heap.get?_push_size _ rfl, rfl, rfl⟩ (pl.isList.at fun o e => up a o e) (by rw [List.size_toArray, ← hlen]; exact hz) hok fun t' h' k kp => ?_
  exact ⟨.str _, H1, I1.kept (t' := k) fun b o e => kp b o (Nat.ne_of_lt (Heap.lt_size e)) (up b o e), ⟨t', rfl⟩, q⟩
end
/-! ### the signs of a text, in a for -/
section
variable {X : Cx} {e : Expr} {te : TE} {tg : Expr}
end
section
variable {X : Cx}
end
theorem figure_at {d : Nat} (h : d < 10) : atI ("0123456789" : Str).cps.toList ((d : Nat) : Int) = some (48 + d) := by
  have z : ∀ d ∈ List.range 10, atI ("0123456789" : Str).cps.toList ((d : Nat) : Int) = some (48 + d) := by decide +kernel
  exact z d (List.mem_range.mpr h)
end L2

namespace PN
open PySem L2
/-! ### numbers by their figures -/
noncomputable def decL (m : Nat) : List Nat := (Nat.toDigits 10 m).map Char.toNat
noncomputable def figS (m : Nat) : Str := ⟨(decL m).toArray⟩
theorem str_ext {a b : Str} (h : a.cps.toList = b.cps.toList) : a = b := by
  cases a
  cases b
  congr 1
  exact Array.toList_inj.mp h
theorem dig_code {d : Nat} (h : d < 10) : (Nat.digitChar d).toNat = 48 + d := by
  have z : ∀ d ∈ List.range 10, (Nat.digitChar d).toNat = 48 + d := by decide
  exact z d (List.mem_range.mpr h)
theorem decL_small {m : Nat} (h : m < 10) : decL m = [48 + m] := by
  unfold decL
  rw [Nat.toDigits_of_lt_base h, List.map_cons, dig_code h]
  rfl
theorem decL_big {m : Nat} (h : 10 ≤ m) : decL m = decL (m / 10) ++ [48 + m % 10] := by
  have hm : m % 10 < 10 := Nat.mod_lt m (by decide)
  have t : Nat.toDigits 10 (m / 10) ++ Nat.toDigits 10 (m % 10) = Nat.toDigits 10 (10 * (m / 10) + m % 10) := Nat.toDigits_append_toDigits (by decide) (by lia) hm
  rw [Nat.div_add_mod] at t
  unfold decL
  rw [← t, List.map_append, Nat.toDigits_of_lt_base hm, List.map_cons, dig_code hm]
  rfl
theorem decL_length (m : Nat) : 1 ≤ (decL m).length ∧ (decL m).length ≤ m + 1 := by
  induction m using Nat.strongRecOn with
  | _ m ih =>
    by_cases h : m < 10
    · rw [decL_small h]
      exact ⟨Nat.le_refl _, by show 1 ≤ m + 1; lia⟩
    · rw [decL_big (by lia), List.length_append]
      have z := ih (m / 10) (by lia)
      show 1 ≤ _ + 1 ∧ _ + 1 ≤ m + 1
      lia
theorem figS_length (m : Nat) : (figS m).length = (decL m).length := by
  show (decL m).toArray.size = _
  rw [List.size_toArray]
/-! ### joined and split at a sign -/
end PN
namespace PN
open PySem L2
theorem join_none : ∀ cs : List Nat, Txt.join "" (cs.map fun c => (⟨#[c]⟩ : Str)) = ⟨cs.toArray⟩ := by
  have key : ∀ cs : List Nat, (Str.join ("" : Str) (cs.map fun c => (⟨#[c]⟩ : Str))).cps.toList = cs := by
    intro cs
    induction cs with
    | nil => rfl
    | cons c cs ih =>
      cases cs with
      | nil => rfl
      | cons d r =>
        show (((⟨#[c]⟩ : Str) ++ ("" : Str) ++ Str.join ("" : Str) ((d :: r).map fun c => (⟨#[c]⟩ : Str))).cps).toList = c :: d :: r
        rw [Str.cps_append, Str.cps_append, Array.toList_append, Array.toList_append, ih]
        rfl
  intro cs
  have e : Txt.join "" (cs.map fun c => (⟨#[c]⟩ : Str)) = Str.join "" (cs.map fun c => (⟨#[c]⟩ : Str)) := StrLaws.glued_eq_join _ _
  rw [e]
  refine str_ext ?_
  rw [key]
theorem join_ok {sep : Str} {ts : List Str} {B : Nat} (hB : ∀ y ∈ ts, y.length ≤ B) (h : ts.length * B + ts.length * sep.length ≤ 16777216) : JoinOk sep ts = true := by
  unfold JoinOk
  rw [StrLaws.joinFits hB h]
  rfl
noncomputable def postS (p : Post) : Str := figS p.1 ++ (":" : Str) ++ figS p.2
noncomputable def lineS (L : List Post) : Str := Txt.join " " (L.map postS)
theorem postS_length (p : Post) : (postS p).length ≤ p.1 + p.2 + 3 := by
  unfold postS
  rw [Str.length_append, Str.length_append, figS_length, figS_length]
  have h1 := (decL_length p.1).2
  have h2 := (decL_length p.2).2
  have h3 : (":" : Str).length = 1 := by decide +kernel
  lia
end PN

namespace L2
open PySem PySem.Spec PyProof.Rows
/-! ### an exception that leaves a def -/
/-- the exception at ea, of the class cls, is under way behind a call made at h0: what was there stays, what is tracked is as H' says; B holds all but the frames and what is new and untracked -/
structure Fly (P : Program) (w : World) (l : List Env) (H : Hp) (h0 : Heap) (ea : Addr) (cls : Value) (H' : Hp) (h : Heap) : Prop where
  un : Un (frs l) [] H H' h0 h
  hok : HOk P w H' h
  new : h0.get? ea = none
  free : H' ea = none
  fly : ∃ (B : Heap) (t : Addr), Heap.FlyingW B l ea cls (.ref t) h ∧ ∀ b o, h.get? b = some o → b ∉ frs l → B.get? b = some o ∨ (h0.get? b = none ∧ H' b = none)
/-- what is wanted of an exception: its class, its address, the heap -/
noncomputable def CXw (P : Program) (w : World) : CXT := fun l H s E e s' => ∃ ea cls H', e = .ref ea ∧ s'.os = s.os ∧ AllBare s'.gens ∧ Fly P w l H s.heap ea cls H' s'.heap ∧ E cls (some ea) H'
section
variable {P : Program} {w : World}
/-- the facts of a step in which only what B doesn't hold changes -/
theorem Fly.step {l l0 : List Env} {H0 H H' : Hp} {h0 h h1 h' : Heap} (u0 : Un (frs l0) [] H0 H h0 h) (u1 : Un (frs l) [] H H' h h1) (hok : HOk P w H' h1) (frf : ∀ b ∈ frs l, H b = none) (frt : ∀ b ∈ frs l, ∃ o, h.get? b = some o)
    (sub : ∀ b o, h0.get? b = some o → b ∈ frs l → b ∈ frs l0) (sub' : ∀ b ∈ frs l0, b ∈ frs l)
    {B : Heap} (nf : ∀ b ∈ frs l, ∃ o, h1.get? b = some o ∧ ∀ vs, o.data ≠ .fields vs) (held : ∀ b o, h1.get? b = some o → b ∉ frs l → B.get? b = some o ∨ (h.get? b = none ∧ H' b = none))
    (st : B.StaysIn h') (sm : h1.UpToSlots h') : Un (frs l0) [] H0 H' h0 h' ∧ HOk P w H' h' ∧ ∀ b o, h'.get? b = some o → b ∉ frs l0 → B.get? b = some o ∨ (h0.get? b = none ∧ H' b = none) := by
  have n0 : ∀ b : Addr, b ∉ ([] : List Addr) := fun b z => by cases z
  have tnf : ∀ b u, H' b = some u → b ∉ frs l := fun b u e m => by
    obtain ⟨o, ho⟩ := frt b m
    rw [u1.free b o ho (frf b m) (n0 b)] at e
    cases e
  have inB : ∀ b o, h1.get? b = some o → b ∉ frs l → (∃ o', h.get? b = some o') ∨ H' b ≠ none → B.get? b = some o := fun b o e nb q => by
    rcases held b o e nb with z | ⟨z1, z2⟩
    · exact z
    · rcases q with ⟨o', q⟩ | q
      · rw [z1] at q
        cases q
      · exact absurd z2 q
  have key : ∀ b o, h0.get? b = some o → H0 b = none → b ∉ frs l0 → h'.get? b = some o := fun b o e n nb => by
    have e1 := u0.keep b o e n nb (n0 b)
    have nb' : b ∉ frs l := fun m => nb (sub b o e m)
    have e2 := u1.keep b o e1 (u0.free b o e n (n0 b)) nb' (n0 b)
    exact st b o (inB b o e2 nb' (.inl ⟨o, e1⟩))
  refine ⟨⟨fun b o e n nb _ => key b o e n nb, fun b o e n m _ => ?_, fun b o e n _ => ?_, fun b o e _ => ?_, fun b xs q => u1.tups b xs (u0.tups b xs q), fun b ob u q => u1.frzs b ob u (u0.frzs b ob u q), fun b ps q => ?_⟩, fun b u q => ?_, fun b o e nb => ?_⟩
  · obtain ⟨sl, e1⟩ := u0.slot b o e n m (n0 b)
    obtain ⟨sl2, e2⟩ := u1.slot b _ e1 (u0.free b o e n (n0 b)) (sub' b m) (n0 b)
    obtain ⟨o2, e3, nd⟩ := nf b (sub' b m)
    rw [e2] at e3
    cases e3
    obtain ⟨sl3, e4⟩ := sm b _ e2 nd
    exact ⟨sl3, e4⟩
  · obtain ⟨o1, e1⟩ := u0.there b o e (n0 b)
    exact u1.free b o1 e1 (u0.free b o e n (n0 b)) (n0 b)
  · obtain ⟨o1, e1⟩ := u0.there b o e (n0 b)
    obtain ⟨o2, e2⟩ := u1.there b o1 e1 (n0 b)
    by_cases m : b ∈ frs l
    · obtain ⟨o3, e3, nd⟩ := nf b m
      rw [e2] at e3
      cases e3
      obtain ⟨sl, e4⟩ := sm b _ e2 nd
      exact ⟨_, e4⟩
    · exact ⟨o2, st b o2 (inB b o2 e2 m (.inl ⟨o1, e1⟩))⟩
  · obtain ⟨m1, q1⟩ := u0.tbls b ps q
    obtain ⟨m2, q2⟩ := u1.tbls b _ q1
    exact ⟨m1 ++ m2, by rw [q2, Array.append_assoc]⟩
  · refine (hok b u q).stay (fun c v hc e => ?_) (fun _ z => z) fun _ _ z => z
    have hc' : ∃ z, H' c = some z := by
      rcases hc with rfl | hc
      · exact ⟨_, q⟩
      · exact ⟨_, hc⟩
    obtain ⟨z, hz⟩ := hc'
    exact st c v (inB c v e (tnf c z hz) (.inr (by rw [hz]; intro y; cases y)))
  · cases hb : B.get? b with
    | some o2 =>
      have := st b o2 hb
      rw [e] at this
      exact .inl this.symm
    | none =>
      refine .inr ⟨?_, ?_⟩
      · cases q : h0.get? b with
        | none => rfl
        | some o0 =>
          obtain ⟨o1, e1⟩ := u0.there b o0 q (n0 b)
          obtain ⟨o2, e2⟩ := u1.there b o1 e1 (n0 b)
          rw [inB b o2 e2 (fun m => nb (sub b o0 q m)) (.inl ⟨o1, e1⟩)] at hb
          cases hb
      · cases q : H' b with
        | none => rfl
        | some u =>
          obtain ⟨o2, e2⟩ := (hok b u q).there
          rw [inB b o2 e2 (tnf b u q) (.inr (by rw [q]; intro y; cases y))] at hb
          cases hb
/-- out of one more frame -/
theorem passW {K : PySem.W.Frag} {mg : Str → Option Value} {base : Heap} {N : List Str} {qual : Str} {scope : Scope} {f : Addr} {cd : Value} {A : Around} {outer : List Env} {s0 : Shared} {H0 : Hp} {E : XK} :
    Passes (CXw P w) (cxOf (CXw P w) P w K mg base N qual scope f cd A outer s0 H0 E) E := by
  intro pins σ H s e s' I hc
  obtain ⟨ea, cls, H', rfl, os, bare, F, q⟩ := hc
  obtain ⟨B, t, hfl, held⟩ := F.fly
  have frt := fun b (m : b ∈ frs (envOfC qual scope s0.heap.objs.size f cd :: outer)) => (I.stack.mem m).2
  refine wpAny_leaves_onW I.ok.frames (show (envOfC qual scope s0.heap.objs.size f cd).frame = some s0.heap.objs.size from rfl) hfl fun h' hfl' sm => ?_
  have efr : frs (cxOf (CXw P w) P w K mg base N qual scope f cd A outer s0 H0 E).stack = s0.heap.objs.size :: frs outer := rfl
  have R := Fly.step (l0 := outer) I.base F.un F.hok I.stkFree (fun b m => let ⟨o, e, _⟩ := frt b m; ⟨o, e⟩) (fun b o e m => by
      rw [efr] at m
      rcases List.mem_cons.mp m with z | z
      · subst z
        exact absurd (Heap.lt_size e) (Nat.lt_irrefl _)
      · exact z) (fun b m => by rw [efr]; exact List.mem_cons_of_mem _ m) (fun b m => (hfl.2.2.1.mem m).2) held hfl'.1 sm
  refine ⟨ea, cls, H', rfl, os.trans I.os, bare, ⟨R.1, R.2.1, ?_, F.free, B, t, hfl', R.2.2⟩, q⟩
  cases q : s0.heap.get? ea with
  | none => rfl
  | some o =>
    obtain ⟨o1, e1⟩ := I.base.there ea o q (fun z => by cases z)
    have := F.new
    rw [e1] at this
    cases this
end
end L2

namespace L2
open PySem PySem.Spec PyProof.Rows
/-! ### calls that may raise -/
/-- an exception of a callee reaches what this body wants of exceptions; the wish may speak of the names -/
noncomputable def PassesS (CX : CXT) (X : Cx) (EE : St → XK) : Prop := ∀ (pins : List (Addr × Obj)) (σ : St) (H : Hp) (s : Shared) (e : Value) (s' : Shared), Inv X pins σ H s → CX X.stack H s (EE σ) e s' → X.xe e s'
/-- f(..) whose wish of an exception may speak of the names -/
noncomputable def tCallS (sp : Sp) (EE : St → XK) (t : TA) : TE := fun σ H Q => t σ H fun vs H1 => sp vs H1 Q (EE σ)
section
variable {X : Cx} {CX : CXT} {k : Nat} {f : Addr} {fd : FuncData} {ps : List Str} {sp : Sp} {EE : St → XK} {x : Str} {p pos : Pos} {e : Expr} {es : List Expr} {t : TA}
theorem pe_callS (F : FnOk X.prog X.w X.K X.mg X.base CX k f fd ps sp) (hr : Room k X.A) (hg : Gl X x) (hm : X.mg x = some (.ref f)) (hk : PySem.W.keepIn X.K (.ref f) = true) (hb : Binds X.K fd ps []) (hx : PassesS CX X EE)
    (ha : PA X (e :: es) t) (hdb : (x == ("__debug__" : Str)) = false := by decide) (he : starEach (e :: es) X.env = (false, eval e X.env) :: starEach es X.env := by rfl) (hpl : (backTo pos (starEach es X.env)).any (·.1) = false := by rfl) :
    PE X (.Call (.Name x p) (e :: es) [] pos) (tCallS sp EE t) := by
  intro pins s σ H Q I h
  refine wpAny_Call_Name_kw (ld_glob I hg hm ?_ hdb)
  refine PySem.W.callWith_K (h₀ := X.base) I.ok.mod.kin hk (thn (ha pos pins s σ H _ I h) fun us s1 ⟨vs, H1, I1, r, q⟩ => ⟨I1.kIn, ?_⟩) he hpl
  have hl : (us ++ []).length = ps.length := by
    rw [List.append_nil, ← r.length]
    exact F.len _ _ _ _ q
  have hbd := hb s1 us I1.kIn hl
  rw [List.append_nil] at hbd
  refine wpAny_call (codeAny_mono (F.run X.A X.stack s1 H1 ⟨us, []⟩ us vs Q (EE σ) hr I1.env0 hbd r q) fun res s' hq => ?_)
  match res, hq with
  | .error y, hq => exact hx pins σ H1 s1 y s' I1 hq
  | .ok (.ret u), hq => exact I1.after hq
  | .ok .next, hq => exact hq.elim
  | .ok .brk, hq => exact hq.elim
  | .ok .cont, hq => exact hq.elim
end
/-- a promise without exceptions holds in any setting -/
theorem FnOk.lift {P : Program} {w : World} {K : PySem.W.Frag} {mg : Str → Option Value} {base : Heap} {CX : CXT} {k : Nat} {f : Addr} {fd : FuncData} {ps : List Str} {sp : Sp} (F : FnOk P w K mg base CX0 k f fd ps sp) : FnOk P w K mg base CX k f fd ps sp :=
  ⟨F.len, fun A outer s H args us vs Q E hr e0 hb hv hs => codeAny_mono (F.run A outer s H args us vs Q E hr e0 hb hv hs) fun res s' hq => by
    match res, hq with
    | .error y, hq => exact False.elim hq
    | .ok (.ret u), hq => exact hq
    | .ok .next, hq => exact hq
    | .ok .brk, hq => exact hq
    | .ok .cont, hq => exact hq⟩
/-- two promises at once -/
theorem FnOk.or {P : Program} {w : World} {K : PySem.W.Frag} {mg : Str → Option Value} {base : Heap} {CX : CXT} {k : Nat} {f : Addr} {fd : FuncData} {ps : List Str} {sp sp' : Sp} (F : FnOk P w K mg base CX k f fd ps sp) (F' : FnOk P w K mg base CX k f fd ps sp') :
    FnOk P w K mg base CX k f fd ps (fun vs H Q E => sp vs H Q E ∨ sp' vs H Q E) :=
  ⟨fun vs H Q E h => h.elim (F.len vs H Q E) (F'.len vs H Q E), fun A outer s H args us vs Q E hr e0 hb hv hs => hs.elim (F.run A outer s H args us vs Q E hr e0 hb hv) (F'.run A outer s H args us vs Q E hr e0 hb hv)⟩
section
variable {P : Program} {w : World} {K : PySem.W.Frag} {mg : Str → Option Value} {base : Heap}
/-- a def that may raise: its body as a term of rules, and the reading of that term -/
theorem Fun.okW {x qual : Str} {st : Stmt} {f : Addr} {fd : FuncData} {N ps : List Str} {k : Nat} {sp : Sp} (F : Fun K x qual st f fd) (S : FnScope N ps (defScope st)) (len : ∀ vs H Q E, sp vs H Q E → vs.length = ps.length)
    (hbody : ∀ (cdv : Value) (A : Around) (outer : List Env) (s : Shared) (H : Hp) (vs : List V) (Q : VK) (E : XK), Room k (A.deeper (envOfC qual (defScope st) s.heap.objs.size f cdv)) → sp vs H Q E →
      ∃ t, PSs (cxOf (CXw P w) P w K mg base N qual (defScope st) f cdv A outer s H E) (defBody st) t ∧ t { nx := fun _ H' => Q .non H', rt := Q } (start N vs) H) : FnOk P w K mg base (CXw P w) (k + 1) f fd ps sp := by
  obtain ⟨oc, od, kV, doc, pm, an, cdv, ct, osl, rfl, lk, hcd⟩ := F.ex
  exact fn_of lk hcd S len fun A outer s H vs Q E hr hsp => hbody cdv A outer s H vs Q E hr hsp
theorem passS {N : List Str} {qual : Str} {scope : Scope} {f : Addr} {cd : Value} {A : Around} {outer : List Env} {s0 : Shared} {H0 : Hp} {E : XK} :
    PassesS (CXw P w) (cxOf (CXw P w) P w K mg base N qual scope f cd A outer s0 H0 E) (fun _ => E) := fun pins σ H s e s' I h => passW pins σ H s e s' I h
theorem pownW {N : List Str} {qual : Str} {scope : Scope} {f : Addr} {cd : Value} {A : Around} {outer : List Env} {s0 : Shared} {H0 : Hp} {E : XK} {CX : CXT} :
    PassesOwn (model P w) (cxOf CX P w K mg base N qual scope f cd A outer s0 H0 E).A (cxOf CX P w K mg base N qual scope f cd A outer s0 H0 E).env (cxOf CX P w K mg base N qual scope f cd A outer s0 H0 E).xe :=
  PassesOwn.leaving (Q₁ := fun e s'' => CX outer H0 s0 E e s'')
end
/-! ### classes of exceptions -/
/-- the classes behind an own one that comes from ValueError -/
abbrev bmV : List Value := [.type "ValueError", .type "Exception", .type "BaseException", .type "object"]
noncomputable abbrev ExcV (K : PySem.W.Frag) (C : Addr) : Prop := PySem.W.excIn K C bmV "ValueError.__new__" = true
theorem ExcV.obj {K : PySem.W.Frag} {h : Heap} {C : Addr} (q : ExcV K C) (X : K.In h) : ∃ (nm qn : Str) (N : Addr) (bs bm : List Value) (hd : Bool) (sn : List Str) (sub : List Value) (ab : Bool) (col : Option Bool) (dd : Option Addr) (k0 k1 k2 k3 k5 : Option Value) (mN : Str → Option Value),
    h.get? C = some (excClassObj nm qn C N bs bm hd sn sub ab col dd k0 k1 k2 k3 k5 "ValueError.__new__") ∧ h.Ns N mN ∧ mN "__init__" = none ∧ OwnTail h bmV bm ∧ ∀ v b, PySem.W.mroIn K C v = some b → (Value.ref C :: bm).contains v = b := by
  unfold ExcV PySem.W.excIn at q
  split at q
  · rename_i d1 c1 s1 lk
    split at q
    · rename_i C2 bm z0 z1 z2 z3 id z5 em es
      simp only [Bool.and_eq_true, beq_iff_eq, Bool.not_eq_true'] at q
      obtain ⟨⟨⟨⟨⟨e1, e2⟩, nd⟩, tl⟩, ok⟩, ni⟩ := q
      subst e1 e2
      have esl : s1 = #[z0, z1, z2, z3, some (.builtin "ValueError.__new__"), z5] := by
        cases s1 with
        | mk l => exact congrArg Array.mk es
      subst esl
      cases c1 with
      | mk nm bs mro ns qn hd sn sub ab col del =>
        simp only at em nd ok ni
        subst em nd
        refine ⟨nm, qn, ns, bs, bm, hd, sn, sub, ab, col, d1, z0, z1, z2, z3, z5, _, X _ _ lk, .of_isNs (PySem.W.isNs_of_in X ok), PySem.W.nsMap_none_of_in X ok ni, PySem.W.tail_of_in X tl, fun v b e => ?_⟩
        unfold PySem.W.mroIn PySem.W.clsIn at e
        rw [lk] at e
        simp only [Option.bind_some, List.isEmpty_cons, Bool.false_eq_true, if_false, Option.some.injEq] at e
        exact e
    · cases q
  · cases q
/-! ### raise -/
/-- an exception made here reaches what is wanted -/
noncomputable def MakesS (X : Cx) (EE : St → XK) : Prop := ∀ (pins : List (Addr × Obj)) (σ : St) (H : Hp) (s : Shared) (h' : Heap) (ea : Addr) (cls : Value) (args : List Value), Inv X pins σ H s → Heap.MadeExcOf s.heap h' ea cls args → EE σ cls (some ea) H → X.xe (.ref ea) { s with heap := h' }
/-- raise C(e) -/
noncomputable def tRaise (C : Addr) (EE : St → XK) (te : TE) : TS := fun _ σ H => te σ H fun _ H1 => ∀ ea, H1 ea = none → EE σ (.ref C) (some ea) H1
theorem hnone {P : Program} {w : World} {H : Hp} {h : Heap} {a : Addr} (ok : HOk P w H h) (e : h.get? a = none) : H a = none := by
  cases q : H a with
  | none => rfl
  | some u =>
    obtain ⟨o, z⟩ := (ok a u q).there
    rw [e] at z
    cases z
section
variable {X : Cx} {x : Str} {C : Addr} {np cpos pos : Pos} {e : Expr} {te : TE} {EE : St → XK}
theorem ps_raise (hc : X.calm = true) (hg : Gl X x) (hm : X.mg x = some (.ref C)) (hx : ExcV X.K C) (hr : MakesS X EE) (ha : PE X e te) (hdb : (x == ("__debug__" : Str)) = false := by decide) (he : starEach [e] X.env = (false, eval e X.env) :: starEach [] X.env := by rfl) :
    PS X (.Raise (some (.Call (.Name x np) [e] [] cpos)) none pos) (tRaise C EE te) := by
  intro pins s σ H D I h
  obtain ⟨nm, qn, N, bs, bm, hd, sn, sub, ab, col, dd, k0, k1, k2, k3, k5, mN, a1, a2, hni, tl0, -⟩ := hx.obj I.ok.mod.kin
  refine wpAny_Raise_call_subT (C := C) (nm := nm) (q := qn) (N := N) (bs := bs) (bm := bm) (hdct := hd) (sn := sn) (sub := sub) (ab := ab) (col := col) (dd := dd) (k0 := k0) (k1 := k1) (k2 := k2) (k3 := k3) (k5 := k5) (mN := mN) F.excBase_ValueError
    (tl0.hasType (by decide)) (I.ok.hd hc) (by rw [he]; rfl) hni (ld_glob I hg hm ⟨rfl, ?_⟩ hdb)
  rw [he]
  refine PySem.Calls.evalArgs_plain (Calls.spliced_cons (thn (ha pins s σ H _ I h) fun u s1 ⟨v, H1, I1, r, q⟩ => Calls.spliced_nil ?_))
  exact ⟨rfl, (by show 1 ≤ sizeLine; decide), I1.bk _ _ a1, a2.keeps I1.bk, tl0.keeps I1.bk, fun h' ea hx' => hr pins σ H1 s1 h' ea _ _ I1 hx' (q ea (hnone I1.hok hx'.new))⟩
end
section
variable {P : Program} {w : World}
theorem madeW {K : PySem.W.Frag} {mg : Str → Option Value} {base : Heap} {N : List Str} {qual : Str} {scope : Scope} {f : Addr} {cd : Value} {A : Around} {outer : List Env} {s0 : Shared} {H0 : Hp} {E : XK} :
    MakesS (cxOf (CXw P w) P w K mg base N qual scope f cd A outer s0 H0 E) (fun _ => E) := by
  intro pins σ H s h' ea cls args I hm q
  have efr : frs (cxOf (CXw P w) P w K mg base N qual scope f cd A outer s0 H0 E).stack = s0.heap.objs.size :: frs outer := rfl
  refine wpAny_leaves_madeW (base := PySem.W.hideAll s.heap (frs (cxOf (CXw P w) P w K mg base N qual scope f cd A outer s0 H0 E).stack)) (h := s.heap) I.ok.frames (show (envOfC qual scope s0.heap.objs.size f cd).frame = some s0.heap.objs.size from rfl) (fun b o e => PySem.W.of_hideAll _ e)
    (PySem.W.funFrames_hide I.stack fun env he a ha => List.mem_filterMap.mpr ⟨env, he, ha⟩) hm fun h2 t hfl _ _ sm => ?_
  have nf : ∀ b ∈ frs (cxOf (CXw P w) P w K mg base N qual scope f cd A outer s0 H0 E).stack, ∃ o, h'.get? b = some o ∧ ∀ vs, o.data ≠ .fields vs := fun b m => by
    obtain ⟨_, o, e, nd⟩ := I.stack.mem m
    exact ⟨o, hm.keeps b o e, nd⟩
  have R := Fly.step (P := P) (w := w) (l := (cxOf (CXw P w) P w K mg base N qual scope f cd A outer s0 H0 E).stack) (l0 := outer) (h1 := h') I.base (Un.kept hm.keeps) (I.hok.kept hm.keeps) I.stkFree (fun b m => by
      obtain ⟨_, o, e, _⟩ := I.stack.mem m
      exact ⟨o, e⟩) (fun b o e m => by
      rw [efr] at m
      rcases List.mem_cons.mp m with z | z
      · subst z
        exact absurd (Heap.lt_size e) (Nat.lt_irrefl _)
      · exact z) (fun b m => by rw [efr]; exact List.mem_cons_of_mem _ m) nf (fun b o e nb => by
        cases qb : s.heap.get? b with
        | some o2 =>
          have := hm.keeps b o2 qb
          rw [e] at this
          cases this
          exact .inl (PySem.W.hideAll_get _ qb nb)
        | none => exact .inr ⟨rfl, hnone I.hok qb⟩) hfl.1 sm
  have eN : ∀ o, s0.heap.get? ea = some o → False := fun o z => by
    obtain ⟨o1, e1⟩ := I.base.there ea o z (fun y => by cases y)
    rw [hm.new] at e1
    cases e1
  refine ⟨ea, cls, H, rfl, I.os, I.bare, ⟨R.1, R.2.1, ?_, hnone I.hok hm.new, _, t, hfl, R.2.2⟩, q⟩
  cases z : s0.heap.get? ea with
  | none => rfl
  | some o => exact (eN o z).elim
end
end L2

namespace L2
open PySem PySem.Spec PyProof.Rows
/-! ### try with handlers -/
section
variable {X : Cx} {pins pins' : List (Addr × Obj)} {σ : St} {H H' : Hp} {s s3 : Shared}
/-- the exception is caught in this frame -/
noncomputable def Caught (X : Cx) (pins : List (Addr × Obj)) (EE : St → XK) (e : Value) (s3 : Shared) : Prop :=
  ∃ (σ : St) (s0 : Shared) (H H' : Hp) (ea : Addr) (cls : Value), e = .ref ea ∧ Inv X pins σ H s0 ∧ s3.os = s0.os ∧ AllBare s3.gens ∧ Fly X.prog X.w X.stack H s0.heap ea cls H' s3.heap ∧ EE σ cls (some ea) H'
/-- a try's body: what it raises is looked at, and taken up by K -/
noncomputable abbrev xTry (X : Cx) (pins : List (Addr × Obj)) (K : Value → Shared → Prop) : Cx :=
  { X with pn := X.pn ++ pins, xe := fun e s₁ => wpAny (model X.prog X.w) X.A (noteFrame e X.env) (fun _ s₂ => wpAny (model X.prog X.w) X.A (setFlight e none) (fun _ s₃ => K e s₃) X.xe s₂) X.xe s₁ }
theorem Inv.xtry (I : Inv X pins σ H s) (K : Value → Shared → Prop) : Inv (xTry X pins K) [] σ H s :=
  ⟨⟨I.ok.mod, I.ok.kind, I.ok.glob, I.ok.blt, I.ok.above, I.ok.inj, I.ok.has, I.ok.cab, I.ok.hd, I.ok.frames, I.ok.stk, I.ok.exf, I.ok.bs, I.ok.bsz, I.ok.noex, I.ok.exfs, I.ok.funs, I.ok.frf⟩,
    I.os, I.bare, I.base, I.loc, I.cell, I.free, I.freeC, fun p hp => I.pin p (by simpa using hp), I.hok, I.len⟩
theorem Inv.ofTry {K : Value → Shared → Prop} (I : Inv (xTry X pins K) pins' σ H s) : Inv X pins σ H s :=
  ⟨⟨I.ok.mod, I.ok.kind, I.ok.glob, I.ok.blt, I.ok.above, I.ok.inj, I.ok.has, I.ok.cab, I.ok.hd, I.ok.frames, I.ok.stk, I.ok.exf, I.ok.bs, I.ok.bsz, I.ok.noex, I.ok.exfs, I.ok.funs, I.ok.frf⟩,
    I.os, I.bare, I.base, I.loc, I.cell, I.free, I.freeC, fun p hp => I.pin p (List.mem_append_left _ hp), I.hok, I.len⟩
theorem SP.ofTry {K : Value → Shared → Prop} {D : Ends} {f : Flow} (h : SP (xTry X pins K) pins' D f s) : SP X pins D f s := by
  cases f with
  | next => obtain ⟨σ', H', I, q⟩ := h; exact ⟨σ', H', I.ofTry, q⟩
  | brk => obtain ⟨σ', H', I, q⟩ := h; exact ⟨σ', H', I.ofTry, q⟩
  | cont => obtain ⟨σ', H', I, q⟩ := h; exact ⟨σ', H', I.ofTry, q⟩
  | ret u => obtain ⟨v, σ', H', I, r, q⟩ := h; exact ⟨v, σ', H', I.ofTry, r, q⟩
/-- in one frame: the heap turns, what B holds stays -/
theorem Fly.turn {h1 h' : Heap} {ea : Addr} {cls : Value} (I : Inv X pins σ H s) (F : Fly X.prog X.w X.stack H s.heap ea cls H' h1) {B : Heap} {t : Addr} (hfl : Heap.FlyingW B X.stack ea cls (.ref t) h1)
    (held : ∀ b o, h1.get? b = some o → b ∉ frs X.stack → B.get? b = some o ∨ (s.heap.get? b = none ∧ H' b = none)) (hfl' : Heap.FlyingW B X.stack ea cls (.ref t) h') (sm : h1.UpToSlots h') : Fly X.prog X.w X.stack H s.heap ea cls H' h' := by
  have R := Fly.step (P := X.prog) (w := X.w) (l := X.stack) (l0 := X.stack) (H0 := H) (h0 := s.heap) Un.refl F.un F.hok I.stkFree (fun b m => let ⟨_, o, e, _⟩ := I.stack.mem m; ⟨o, e⟩) (fun _ _ _ m => m) (fun _ m => m) (fun b m => (hfl.2.2.1.mem m).2) held hfl'.1 sm
  exact ⟨R.1, R.2.1, F.new, F.free, B, t, hfl', R.2.2⟩
/-- this body's own frame lies on the stack -/
noncomputable def Own (X : Cx) : Prop := X.stack = X.env :: X.outer ∧ X.env.frame = some X.env.locals
theorem passT {EE : St → XK} (ho : Own X) : PassesS (CXw X.prog X.w) (xTry X pins (Caught X pins EE)) EE := by
  intro pins' σ H s e s' I hc
  obtain ⟨ea, cls, H', rfl, os, bare, F, q⟩ := hc
  obtain ⟨B, t, hfl, held⟩ := F.fly
  have J := I.ofTry
  have hfl0 := hfl
  rw [show (xTry X pins (Caught X pins EE)).stack = X.env :: X.outer from ho.1] at hfl0
  refine wpAny_looks_onW (J.ok.frames.trans (congrArg some ho.1)) ho.2 hfl0 fun h4 held4 sm4 => wpAny_landsW held4 fun h5 hfl5 sm5 => ?_
  rw [← ho.1] at hfl5
  exact ⟨σ, s, H, H', ea, cls, rfl, J, os, bare, Fly.turn J F hfl held hfl5 (sm4.trans sm5), q⟩
/-- what the handlers do with the exception of class cls at ea -/
noncomputable abbrev TH := Value → Addr → TS
noncomputable def PH (X : Cx) (hs : List ExceptHandler) (th : TH) : Prop := ∀ (pins : List (Addr × Obj)) (σ : St) (s0 : Shared) (H H' : Hp) (ea : Addr) (cls : Value) (s3 : Shared) (D : Ends), Inv X pins σ H s0 → s3.os = s0.os → AllBare s3.gens →
  Fly X.prog X.w X.stack H s0.heap ea cls H' s3.heap → th cls ea D σ H' → wpAny (model X.prog X.w) X.A (handleBy (.ref ea) X.env hs) (SP X pins D) X.xe s3
noncomputable def tTry (tb : (St → XK) → TS) (th : TH) : TS := fun D σ H => tb (fun σ' cls a H' => ∃ ea, a = some ea ∧ th cls ea D σ' H') D σ H
theorem ps_try {body : List Stmt} {h0 : ExceptHandler} {hs : List ExceptHandler} {pos : Pos} {tb : (St → XK) → TS} {th : TH} (hb : ∀ pins EE, PSs (xTry X pins (Caught X pins EE)) body (tb EE)) (hh : PH X (h0 :: hs) th) :
    PS X (.Try body (h0 :: hs) [] [] pos) (tTry tb th) := by
  intro pins s σ H D I h
  refine wpAny_Try_except (wpAny_mono (hb pins _ [] s σ H D (I.xtry _) h) (fun f s1 q => ?_) fun e s1 q => wpAny_mono q (fun _ s2 q2 => wpAny_mono q2 (fun _ s3 q3 => ?_) fun _ _ y => y) fun _ _ y => y)
  · cases f with
    | next => exact wpAny_execs_nil q.ofTry
    | brk => exact q.ofTry
    | cont => exact q.ofTry
    | ret u => exact q.ofTry
  · obtain ⟨σ1, s0, H0, H1, ea, cls, rfl, I0, os, bare, F, ea', z, q⟩ := q3
    cases z
    exact hh pins σ1 s0 H0 H1 ea cls s3 D I0 os bare F q
/-- does an exception of class C match the class at D -/
theorem matches_own {M : Model} {A : Around} {E : Value → Shared → Prop} {K : PySem.W.Frag} {C D ea : Addr} {oe : Obj} {b : Bool} {Q : Bool → Shared → Prop} (KX : K.In s.heap) (hC : ExcV K C) (hD : ExcV K D) (he : s.heap.get? ea = some oe) (hc : oe.cls = .ref C)
    (hm : PySem.W.mroIn K C (.ref D) = some b) (hq : Q b s) : wpAny M A (excMatches (.ref ea) (.ref D)) Q E s := by
  obtain ⟨nm, qn, N, bs, bm, hd, sn, sub, ab, col, dd, k0, k1, k2, k3, k5, mN, a1, -, -, -, con⟩ := hC.obj KX
  obtain ⟨nm', qn', N', bs', bm', hd', sn', sub', ab', col', dd', k0', k1', k2', k3', k5', mN', b1, -, -, tl, -⟩ := hD.obj KX
  have c1 := con _ _ hm
  have c2 : (Value.ref D :: bm').contains (.type "BaseException") = true := by
    rw [List.contains_cons, tl.hasType (show bmV.contains (.type "BaseException") = true by decide), Bool.or_true]
  obtain ⟨h, g, d, tk, os⟩ := s
  have f := tc_notTuple
  unfold excMatches
  repeat (first | (with_reducible refine wpAny_loadPart_at he ?_; rw [hc]) | with_reducible refine wpAny_loadPart_at b1 ?_ | (with_reducible refine wpAny_isSubtype_exc b1 ?_; rw [c2]) | (with_reducible refine wpAny_isSubtype_exc a1 ?_; rw [c1]) | wp_step)
  cases b <;> (wp_walk; exact hq)
/-- a handler's suite: the exception at ea is handled -/
noncomputable abbrev xSuite (X : Cx) (ea : Addr) : Cx :=
  { X with A := X.A.mark (some (.ref ea)), calm := false, xe := notedBy (model X.prog X.w) (X.A.mark (some (.ref ea))) X.env (cameBackBy (model X.prog X.w) X.A X.env X.xe) }
theorem Inv.suite {ea : Addr} (I : Inv X pins σ H s) : Inv (xSuite X ea) pins σ H s :=
  ⟨⟨I.ok.mod, I.ok.kind, I.ok.glob, I.ok.blt, I.ok.above, I.ok.inj, I.ok.has, I.ok.cab, (fun z => by cases z), I.ok.frames, I.ok.stk, I.ok.exf, I.ok.bs, I.ok.bsz, I.ok.noex, I.ok.exfs, I.ok.funs, I.ok.frf⟩,
    I.os, I.bare, I.base, I.loc, I.cell, I.free, I.freeC, I.pin, I.hok, I.len⟩
theorem Inv.ofSuite {ea : Addr} (ok : X.Ok) (I : Inv (xSuite X ea) pins σ H s) : Inv X pins σ H s := ⟨ok, I.os, I.bare, I.base, I.loc, I.cell, I.free, I.freeC, I.pin, I.hok, I.len⟩
theorem SP.ofSuite {ea : Addr} {D : Ends} {f : Flow} (ok : X.Ok) (h : SP (xSuite X ea) pins D f s) : SP X pins D f s := by
  cases f with
  | next => obtain ⟨σ', H', I, q⟩ := h; exact ⟨σ', H', I.ofSuite ok, q⟩
  | brk => obtain ⟨σ', H', I, q⟩ := h; exact ⟨σ', H', I.ofSuite ok, q⟩
  | cont => obtain ⟨σ', H', I, q⟩ := h; exact ⟨σ', H', I.ofSuite ok, q⟩
  | ret u => obtain ⟨v, σ', H', I, r, q⟩ := h; exact ⟨v, σ', H', I.ofSuite ok, r, q⟩
theorem Fly.inv {ea : Addr} {cls : Value} (I : Inv X pins σ H s) (os : s3.os = s.os) (bare : AllBare s3.gens) (F : Fly X.prog X.w X.stack H s.heap ea cls H' s3.heap) : Inv X pins σ H' s3 :=
  I.call' os F.un F.hok bare fun b z => by cases z
/-- except D: .. -/
noncomputable def hOwn (K : PySem.W.Frag) (D : Addr) (ts : Addr → TS) (tr : TH) : TH := fun cls ea Dd σ H => ∃ C b, cls = .ref C ∧ ExcV K C ∧ PySem.W.mroIn K C (.ref D) = some b ∧ if b = true then ts ea Dd σ H else tr cls ea Dd σ H
noncomputable def hNone : TH := fun _ _ _ _ _ => False
theorem ph_none : PH X [] hNone := fun _ _ _ _ _ _ _ _ _ _ _ _ _ h => h.elim
theorem ph_own {x : Str} {np pos : Pos} {b0 : Stmt} {suite : List Stmt} {rest : List ExceptHandler} {D : Addr} {ts : Addr → TS} {tr : TH} (hg : Gl X x) (hm : X.mg x = some (.ref D)) (hD : ExcV X.K D) (hs : ∀ ea, PSs (xSuite X ea) (b0 :: suite) (ts ea)) (hr : PH X rest tr)
    (hd : (x == ("__debug__" : Str)) = false := by decide) : PH X (.ExceptHandler (some (.Name x np)) none (b0 :: suite) pos :: rest) (hOwn X.K D ts tr) := by
  intro pins σ s0 H H' ea cls s3 Dd I0 os bare F h
  obtain ⟨C, b, rfl, hC, hmr, h⟩ := h
  have I3 := Fly.inv I0 os bare F
  obtain ⟨B, t, hfl, held⟩ := F.fly
  obtain ⟨oe, hoe, hoc⟩ := hfl.there
  refine wpAny_handleBy_cons (codeAny_handlers_test (ld_glob (X := xSuite X ea) I3.suite hg hm (matches_own I3.kIn hC hD hoe hoc hmr ?_) hd)) (by intro q; cases q)
  cases b with
  | false =>
    rw [if_neg (by decide)] at h
    exact hr pins σ s0 H H' ea _ s3 Dd I0 os bare F h
  | true =>
    rw [if_pos rfl] at h
    refine codeAny_handlers_suite (lands_againW hfl fun h6 hfl6 sm6 => ?_)
    have F6 := Fly.turn I0 F hfl held hfl6 sm6
    have I6 := Fly.inv (s3 := { s3 with heap := h6 }) I0 os bare F6
    exact wpAny_mono (hs ea pins _ σ H' Dd I6.suite h) (fun f s4 q => q.ofSuite I6.ok) fun _ _ y => y
/-- the object at a is an exception of the class at C -/
noncomputable def ExO (a C : Addr) : HO := .ext fun h => ∃ o vs, h.get? a = some o ∧ o.cls = .ref C ∧ o.data = .fields vs
theorem Inv.track {ea C : Addr} (I0 : Inv X pins σ H s) (I3 : Inv X pins σ H' s3) (new : s.heap.get? ea = none) (hn : H' ea = none) (hx : ∃ o vs, s3.heap.get? ea = some o ∧ o.cls = .ref C ∧ o.data = .fields vs) :
    Inv X pins σ (upd H' ea (ExO ea C)) s3 := by
  have ne : ∀ b o, s.heap.get? b = some o → b ≠ ea := fun b o e z => by
    rw [z, new] at e
    cases e
  have ne0 : ∀ b o, X.s₀.heap.get? b = some o → b ∉ X.ex → b ≠ ea := fun b o e hx => by
    obtain ⟨o', e'⟩ := I0.base.there b o e hx
    exact ne b o' e'
  refine ⟨I3.ok, I3.os, I3.bare, ⟨I3.base.keep, I3.base.slot, fun b o e n hx => by rw [upd_ne (ne0 b o e hx)]; exact I3.base.free b o e n hx, I3.base.there, fun b xs q => ?_, fun b o u q => ?_, fun b ps q => ?_⟩, I3.loc, I3.cell, ?_, fun x c e => ?_, fun p hp => ?_, fun b u q => ?_, I3.len⟩
  · have z := I3.base.tups b xs q
    rw [upd_ne (ne_of_none z hn)]
    exact z
  · have z := I3.base.frzs b o u q
    rw [upd_ne (ne_of_none z hn)]
    exact z
  · obtain ⟨m, z⟩ := I3.base.tbls b ps q
    exact ⟨m, by rw [upd_ne (ne_of_none z hn)]; exact z⟩
  · obtain ⟨m, ⟨o, _, _, ho, _⟩, _⟩ := I0.loc
    rw [upd_ne (ne _ o ho)]
    exact I3.free
  · obtain ⟨v, o, ho, _⟩ := I0.cell x c e
    rw [upd_ne (ne _ o ho)]
    exact I3.freeC x c e
  · obtain ⟨e, n, r⟩ := I3.pin p hp
    rw [upd_ne (ne _ _ (I0.pin p hp).1)]
    exact ⟨e, n, r⟩
  · by_cases hb : b = ea
    · subst hb
      rw [upd_same] at q
      cases q
      obtain ⟨o, vs, e1, e2, e3⟩ := hx
      exact ⟨⟨o, vs, e1, e2, e3⟩, ⟨o, e1⟩, fun h1 h2 ⟨o, vs, a1, a2, a3⟩ k => ⟨o, vs, k o a1, a2, a3⟩⟩
    · rw [upd_ne hb] at q
      exact (I3.hok b u q).stay (fun _ _ _ e => e) (fun c z => by rw [upd_ne (ne_of_none z hn)]; exact z) fun c xs z => by rw [upd_ne (ne_of_none z hn)]; exact z
end
end L2

namespace L2
open PySem PySem.Spec PyProof.Rows
section
variable {X : Cx} {pins : List (Addr × Obj)} {σ : St} {H H' : Hp} {s s3 : Shared}
/-- a name goes -/
theorem Inv.gone {i : Nat} {x : Str} {v : Option Value} {m : Str → Option Value} {h' : Heap} {tk : Nat} (I : Inv X pins σ H s) (hN : X.N.Nodup) (hi : X.N[i]? = some x) (hn : s.heap.Ns X.env.locals m)
    (hn' : h'.Ns X.env.locals (fun y => if y = x then v else m y)) (hs : Heap.SameBut X.env.locals s.heap h') : Inv X pins (σ.set i none) H { s with heap := h', toks := tk } := by
  have ne : ∀ b u, H b = some u → b ≠ X.env.locals := fun b u e z => by
    rw [z, I.free] at e
    cases e
  have neL : ∀ b o, X.s₀.heap.get? b = some o → b ≠ X.env.locals := fun b o e => Nat.ne_of_lt (Nat.lt_of_lt_of_le (Heap.lt_size e) I.ok.above)
  have cellK : ∀ y c, X.env.cells.lookup y = some c → ∀ z, s.heap.IsCell c z → h'.IsCell c z := fun y c e z ⟨o, ho, hd⟩ => ⟨o, (hs.2 c (I.cne y c e)).trans ho, hd⟩
  refine ⟨I.ok, I.os, I.bare, ⟨fun b o e n hb hx => (hs.2 b (neL b o e)).trans (I.base.keep b o e n hb hx), fun b o e n hb hx => ?_, I.base.free, fun b o e hx => ?_, I.base.tups, I.base.frzs, I.base.tbls⟩, ⟨_, hn', fun j y w e1 e2 e3 => ?_⟩, fun y c e => ?_, I.free, I.freeC,
    fun p hp => ?_, fun b u q => ?_, by rw [List.length_set]; exact I.len⟩
  · obtain ⟨sl, z⟩ := I.base.slot b o e n hb hx
    exact ⟨sl, (hs.2 b (neL b o e)).trans z⟩
  · obtain ⟨o', z⟩ := I.base.there b o e hx
    exact ⟨o', (hs.2 b (neL b o e)).trans z⟩
  · have hij : i ≠ j := fun z => by
      subst z
      rw [List.getElem?_set_self'] at e2
      cases q : σ[i]? with
      | none => rw [q] at e2; cases e2
      | some a => rw [q] at e2; cases e2
    rw [List.getElem?_set_ne hij] at e2
    obtain ⟨m2, hm2, hl⟩ := I.loc
    obtain ⟨u, r, l⟩ := hl j y w e1 e2 e3
    refine ⟨u, r, ?_⟩
    have em : m2 = m := by
      obtain ⟨o1, es1, ep1, g1, d1, _, f1⟩ := hm2
      obtain ⟨o2, es2, ep2, g2, d2, _, f2⟩ := hn
      rw [g1] at g2
      cases g2
      rw [d1] at d2
      cases d2
      funext z
      rw [← f1 z, ← f2 z]
    subst em
    have yx : y ≠ x := fun z => hij (nodup_ix hN hi (z ▸ e1))
    rcases l with ⟨k, l⟩ | ⟨k, c, e, z⟩
    · exact .inl ⟨k, (if_neg yx).trans l⟩
    · exact .inr ⟨k, c, e, cellK y c e _ z⟩
  · obtain ⟨w, z⟩ := I.cell y c e
    exact ⟨w, cellK y c e w z⟩
  · obtain ⟨e, n, r1, r2⟩ := I.pin p hp
    exact ⟨(hs.2 p.1 r1).trans e, n, r1, r2⟩
  · refine (I.hok b u q).stay (fun c w hc e => ?_) (fun _ z => z) fun _ _ z => z
    have hc' : c ≠ X.env.locals := by
      rcases hc with rfl | hc
      · exact ne _ _ q
      · exact ne _ _ hc
    exact (hs.2 c hc').trans e
/-- except D as n: .. in which nothing is raised -/
noncomputable def hAs (K : PySem.W.Frag) (D : Addr) (i : Nat) (ts : Addr → TS) (tr : TH) : TH := fun cls ea Dd σ H => ∃ C b, cls = .ref C ∧ ExcV K C ∧ PySem.W.mroIn K C (.ref D) = some b ∧
  if b = true then H ea = none → ts ea { nx := fun σ' => Dd.nx (σ'.set i none), bk := fun σ' => Dd.bk (σ'.set i none), ct := fun σ' => Dd.ct (σ'.set i none), rt := Dd.rt } (σ.set i (some (.ref ea))) (upd H ea (ExO ea C)) else tr cls ea Dd σ H
theorem ph_as {x n : Str} {i : Nat} {np pos : Pos} {b0 : Stmt} {suite : List Stmt} {rest : List ExceptHandler} {D : Addr} {ts : Addr → TS} {tr : TH} (hg : Gl X x) (hm : X.mg x = some (.ref D)) (hD : ExcV X.K D) (hN : X.N.Nodup) (hi : X.N[i]? = some n) (hl : X.env.kindOf n = some .local)
    (hs : ∀ ea, PSs (xSuite X ea).nox (b0 :: suite) (ts ea)) (hr : PH X rest tr) (hd : (x == ("__debug__" : Str)) = false := by decide) : PH X (.ExceptHandler (some (.Name x np)) (some n) (b0 :: suite) pos :: rest) (hAs X.K D i ts tr) := by
  intro pins σ s0 H H' ea cls s3 Dd I0 os bare F h
  obtain ⟨C, b, rfl, hC, hmr, h⟩ := h
  have I3 := Fly.inv I0 os bare F
  obtain ⟨B, t, hfl, held⟩ := F.fly
  obtain ⟨oe, hoe, hoc⟩ := hfl.there
  refine wpAny_handleBy_cons (codeAny_handlers_test (ld_glob (X := xSuite X ea) I3.suite hg hm (matches_own I3.kIn hC hD hoe hoc hmr ?_) hd)) (by intro q; cases q)
  cases b with
  | false =>
    rw [if_neg (by decide)] at h
    exact hr pins σ s0 H H' ea _ s3 Dd I0 os bare F h
  | true =>
    rw [if_pos rfl] at h
    refine codeAny_handlers_suite_as (lands_againW hfl fun h6 hfl6 sm6 => ?_)
    have F6 := Fly.turn I0 F hfl held hfl6 sm6
    have I6 := Fly.inv (s3 := { s3 with heap := h6 }) I0 os bare F6
    have T6 := Inv.track I0 I6 F6.new F6.free (by
      obtain ⟨_, _, _, o6, v6, _, _, _, z1, z2, z3, _⟩ := hfl6
      exact ⟨o6, v6, z1, z2.1, z3⟩)
    refine store_ok (X := xSuite X ea) T6.suite hN hi (.inl hl) (show RelV (.ref ea) (.ref ea) from rfl) (fun s7 I7 => ?_) (.inr hl)
    refine wpAny_mono (hs ea pins s7 _ _ _ (I7.wish _) (h F.free)) (fun f s8 q => ?_) fun _ _ y => y.elim
    have key : ∀ {σ8 : St} {H8 : Hp}, Inv (xSuite X ea).nox pins σ8 H8 s8 → ∀ (R : Shared → Prop), (∀ s9, Inv X pins (σ8.set i none) H8 s9 → R s9) → wpAny (model X.prog X.w) X.A (do bindName X.env n .none; unbindBehindTheSuite X.env n pos) (fun _ s9 => R s9) X.xe s8 := fun I8 R hR => by
      have J8 : Inv X pins _ _ s8 := Inv.ofSuite I6.ok I8.unwish
      obtain ⟨m, hn, _⟩ := id J8.loc
      exact wpAny_nameGoes_keeps hl hn (by rw [J8.ok.kind]; rfl) fun h' v hn' hsb => hR _ (J8.gone hN hi hn hn' hsb)
    cases f with
    | next => obtain ⟨σ8, H8, I8, q⟩ := q; exact key I8 _ fun s9 I9 => ⟨_, H8, I9, q⟩
    | brk => obtain ⟨σ8, H8, I8, q⟩ := q; exact key I8 _ fun s9 I9 => ⟨_, H8, I9, q⟩
    | cont => obtain ⟨σ8, H8, I8, q⟩ := q; exact key I8 _ fun s9 I9 => ⟨_, H8, I9, q⟩
    | ret u => obtain ⟨w, σ8, H8, I8, r, q⟩ := q; exact key I8 _ fun s9 I9 => ⟨w, _, H8, I9, r, q⟩
end
end L2

namespace L2
open PySem PySem.Spec PyProof.Rows PySem.W Builtin Builtin.ObjectAttr Builtin.Getset_descriptor
/-! ### isinstance of a caught exception -/
/-- what the text says of a class of exceptions -/
structure ExcA (K : PySem.W.Frag) (C : Addr) : Prop where
  ga : PySem.W.findIn K (.ref C) "__getattribute__" = some (some (.builtin "BaseException.__getattribute__"))
  hook : PySem.W.findIn K (.ref C) "__getattr__" = some none
  cl : PySem.W.findIn K (.ref C) "__class__" = some (some (.builtin "object.__class__"))
  ob : PySem.W.mroIn K C (.type "object") = some true
  be : PySem.W.mroIn K C (.type "BaseException") = some true
  gt : PySem.W.specialIn K (.builtin "object.__class__") "__get__" = some (some (.builtin "getset_descriptor.__get__"))
  tk : PySem.W.takesIn K (.builtin "object.__class__") = some true
noncomputable def IsExc (a C : Addr) (h : Heap) : Prop := ∃ o vs, h.get? a = some o ∧ o.cls = .ref C ∧ o.data = .fields vs
section
variable {K : PySem.W.Frag} {M : Model} {h : Heap} {a C : Addr}
theorem exc_type (x : IsExc a C h) : Looks M h (typeOf (.ref a)) (.ref C) := by
  obtain ⟨o, _, e, c, _⟩ := x
  exact c ▸ (Looks.ld e).andThen .now
theorem exc_find (KX : K.In h) (A : ExcA K C) : Looks M h (Builtin.ObjectAttr.find (.ref a) (.ref C) "__class__") (.bind (.builtin "getset_descriptor.__get__") (.builtin "object.__class__")) := by
  have l1 := PySem.W.looks_findIn (M := M) KX A.cl
  have l2 : Looks M h (Builtin.ObjectAttr.getOf (some (.builtin "object.__class__"))) (some (.builtin "getset_descriptor.__get__")) := PySem.W.looks_specialIn KX A.gt
  have l3 : Looks M h (Builtin.ObjectAttr.dataDescriptor? (some (.builtin "object.__class__")) (some (.builtin "getset_descriptor.__get__"))) (some (.builtin "getset_descriptor.__get__", .builtin "object.__class__")) := (PySem.W.looks_takesIn KX A.tk).andThen .now
  exact l1.andThen (l2.andThen (l3.andThen (Looks.tag .now)))
end
section
variable {prog : Program} {w : World} {A : Around} {E : Value → Shared → Prop} {K : PySem.W.Frag} {a C : Addr}
theorem exc_class {Q : Option Value → Shared → Prop} {s : Shared} (KX : K.In s.heap) (Z : ExcA K C) (x : IsExc a C s.heap) (h : Q (some (.ref C)) { s with toks := s.toks + 1 }) : wpAny (model prog w) A (getAttr? (.ref a) "__class__") Q E s := by
  obtain ⟨hh, g, d, t, os⟩ := s
  have l0 := exc_type (M := model prog w) x
  have l1 := PySem.W.looks_findIn (M := model prog w) KX Z.ga
  have l2 := PySem.W.looks_findIn (M := model prog w) KX Z.hook
  have l3 := PySem.W.looks_mroIn (M := model prog w) KX Z.be
  have l4 := PySem.W.looks_mroIn (M := model prog w) KX Z.ob
  have l5 := exc_find (M := model prog w) (a := a) KX Z
  unfold getAttr? getAttrBy? getAttrBy
  refine wpAny_bind (wpAny_mkText (wpAny_bind (wpAny_attempt (wpAny_holding (wpAny_bind (l0.at (wpAny_bind (l1.at ?_))))))))
  show wpAny _ _ (getAttrByItsOwn _ _ _ _ _ _) _ _ _
  have ex : (onTheHeap (Value.ref C)) = true := rfl
  unfold getAttrByItsOwn hookBefore
  rw [if_pos ex]
  refine wpAny_bind (l2.at (wpAny_bind (wpAny_attempt (wpAny_holding ?_))))
  show wpAny _ _ (boundAndCalled _ _ _) _ _ _
  unfold boundAndCalled
  refine wpAny_bind (wpAny_of_eq (PySem.F.attr_ValueError.ga.bind _) ?_)
  refine wpAny_call (codeAny_call_builtin PySem.F.attr_ValueError.ga.plain F.entry_bexc_ga ?_)
  have kd : builtinKind "BaseException.__getattribute__" = some .slot := by decide +kernel
  have sp : splitId "BaseException.__getattribute__" = some ("BaseException", "__getattribute__") := by decide +kernel
  have ag := F.args_bexc_ga (.ref a) (.str "__class__" t)
  simp only [checkBuiltinCall, kd, sp]
  refine wpAny_bind ?_
  unfold isInstance
  repeat (first | with_reducible refine wpAny_call ?_ | lk | wp_step)
  refine codeAny_call_builtin KF.slot_gs.plain KF.entry_gs
    (KF.slot_gs.check _ _ _ _ _ _ _ _ KF.type_class (KF.args_gs _ _ _) ?_)
  unfold Builtin.«getset_descriptor.__get__» descrGet
  rw [dga_obj]
  refine wpAny_bind (wpAny_pure (show wpAny _ _ _ _ _ _ from ?_))
  unfold descrGetter descrCheckInstance descrNameAndClass isInstance
  simp only [KF.owner_class]
  repeat lk
  refine ⟨Code.quiet_builtin _ (by decide +kernel), codeAny_builtin KF.entry_class ?_⟩
  unfold Builtin.«object.__class__» shownTypeOf
  repeat lk
  exact h
theorem exc_kit (Z : ExcA K C) (hC : ExcV K C) : PySem.W.KitX K (.ref a) (.ref C) (IsExc a C) where
  ty := fun _ _ _ x => exc_type x
  it := fun _ _ KX _ => by
    obtain ⟨_, _, _, _, _, _, _, _, _, _, _, _, _, _, _, _, _, e, _⟩ := hC.obj KX
    intro A Q E s k q
    unfold isType loadHead
    exact wpAny_bind (wpAny_loadPart (k _ _ e) (wpAny_pure q))
  ne := fun h tp dd its n sl KX e => by
    obtain ⟨_, _, _, _, _, _, _, _, _, _, _, _, _, _, _, _, _, e2, _⟩ := hC.obj KX
    refine Bool.eq_false_iff.mpr fun q => ?_
    have z : C = tp := Value.ref.inj (beq_iff_eq.mp q)
    subst z
    exact Bool.noConfusion (congrArg (fun o : Option Obj => match o with | some ⟨_, _, .cls _, _⟩ => true | _ => false) (e2.symm.trans e))
  ca := fun KX x k => exc_class KX Z x k
end
section
variable {X : Cx}
/-- isinstance(e, D), e a caught exception -/
noncomputable def rIsiX (K : PySem.W.Frag) : List V → Hp → VK → Prop := fun xs H Q => ∃ a D C b, xs = [.ref a, .ref D] ∧ H a = some (ExO a C) ∧ ExcA K C ∧ ExcV K C ∧ PySem.W.kitOne K (.ref C) (.ref D) = some b ∧ Q (.bl b) H
theorem call_isiX : CallR X (.builtin "isinstance") (rIsiX X.K) := by
  intro pins s σ H xs us Q I r h
  obtain ⟨a, D, C, b, rfl, ea, Z, hC, e, q⟩ := h
  obtain ⟨ex, -, -⟩ := (show ObjOk X.prog X.w H s.heap a (ExO a C) from I.hok a _ ea)
  obtain ⟨u, w', rfl, rx, rn⟩ := vals2 r
  cases rx
  cases rn
  exact PySem.W.kia_one (exc_kit Z hC) I.kIn ex e (fun z => nomatch z) fun tk => ⟨.bl b, H, I.tok tk, rfl, q⟩
noncomputable def rIsiXT (K : PySem.W.Frag) : List V → Hp → VK → Prop := fun xs H Q => ∃ a n C b, xs = [.ref a, .ty n] ∧ H a = some (ExO a C) ∧ ExcA K C ∧ ExcV K C ∧ PySem.W.kitOne K (.ref C) (.type n) = some b ∧ Q (.bl b) H
theorem call_isiXT : CallR X (.builtin "isinstance") (rIsiXT X.K) := by
  intro pins s σ H xs us Q I r h
  obtain ⟨a, n, C, b, rfl, ea, Z, hC, e, q⟩ := h
  obtain ⟨ex, -, -⟩ := (show ObjOk X.prog X.w H s.heap a (ExO a C) from I.hok a _ ea)
  obtain ⟨u, w', rfl, rx, rn⟩ := vals2 r
  cases rx
  cases rn
  exact PySem.W.kia_one (exc_kit Z hC) I.kIn ex e (fun z => nomatch z) fun tk => ⟨.bl b, H, I.tok tk, rfl, q⟩
end
end L2

namespace L2
open PySem PySem.Spec PyProof.Rows
theorem empty_len (a : Str) : (Str.empty ++ a).length = a.length := by
  rw [strLen_append]
  show 0 + a.length = a.length
  lia
section
variable {X : Cx} {e o : Expr} {te to : TE} {p p2 p3 pos : Pos}
/-- f'a{i}b': some text -/
noncomputable def tFmt (te : TE) : TE := fun σ H Q => te σ H fun v H1 => ∃ i : Int, v = .int i ∧ i.natAbs < 10 ^ 9 ∧ ∀ z, Q (.str z) H1
theorem pe_fmt {a b : Str} {j1 j2 : Nat} (he : PE X e te) (ha : a.length ≤ 1000 := by decide +kernel) (hb : b.length ≤ 1000 := by decide +kernel) :
    PE X (.JoinedStr [.Constant (.str a) j1 p, .FormattedValue e (-1) none p2, .Constant (.str b) j2 p3] pos) (tFmt te) := by
  intro pins s σ H Q I h
  have l1 : (Str.empty ++ a).length ≤ 1000 := by
    rw [empty_len]
    exact ha
  refine JoinedStr_many (joinParts_cons (Calls.Constant_str ⟨Nat.le_trans l1 (by decide), ?_⟩))
  refine joinParts_cons (FormattedValue_plain (thn (he pins _ σ H _ (I.tok _) h) fun u s1 ⟨v, H1, I1, r, q⟩ => ?_))
  obtain ⟨i, rfl, hi, q⟩ := q
  obtain ⟨t, rfl⟩ := r
  have l2 : (Str.ofString (toString i)).length ≤ 10 := by
    rw [PySem.ofString_length]
    exact int_text_length_le10 (k := 9) (by decide) hi
  have l3 : (Str.empty ++ a ++ Str.ofString (toString i)).length ≤ 1010 := by
    rw [strLen_append]
    lia
  have l4 : (Str.empty ++ a ++ Str.ofString (toString i) ++ b).length ≤ 2010 := by
    rw [strLen_append]
    lia
  refine formatField_int_small ?_ ⟨Nat.le_trans l3 (by decide), ?_⟩
  · by_cases h0 : i.natAbs = 0
    · rw [h0]
      decide
    · exact Nat.lt_trans ((Nat.log2_lt h0).mpr (Nat.lt_of_lt_of_le hi (by decide : 10 ^ 9 ≤ 2 ^ 30))) (by decide)
  exact joinParts_cons (Calls.Constant_str ⟨Nat.le_trans l4 (by decide), joinParts_nil ⟨.str _, H1, I1.tok _, ⟨_, rfl⟩, q _⟩ (Nat.le_trans l4 (by decide))⟩)
/-- bs.count(True) -/
noncomputable def rCount (K : PySem.W.Frag) : V → List V → Hp → VK → Prop := fun x vs H Q => ∃ (l : Addr) (bs : List Bool), x = .ref l ∧ vs = [.bl true] ∧ H l = some (.lst (bs.map V.bl)) ∧ Q (.int ((bs.count true : Nat) : Int)) H
theorem bools_read {h : Heap} : ∀ {bs : List Bool} {us : List Value}, Vals (bs.map V.bl) us → us = bs.map Value.bool
  | [], us, r => by
    cases r
    rfl
  | b :: bs, us, r => by
    cases r with
    | cons r1 r2 =>
      cases r1
      rw [bools_read (h := h) r2]
      rfl
theorem bools_all {h : Heap} : ∀ (bs : List Bool), ReadsAll h (bs.map Value.bool) (bs.map PyData.bool) []
  | [] => .nil
  | b :: bs => .cons (as := []) (.bool b) (bools_all bs)
theorem bools_count : ∀ (bs : List Bool), countIn (.bool true) (bs.map PyData.bool) = ((bs.count true : Nat) : Int)
  | [] => rfl
  | b :: bs => by
    have ih := bools_count bs
    rw [List.map_cons, countIn, ih]
    cases b with
    | false => rw [List.count_cons_of_ne (by decide)]; show (if (false == true) = true then (1 : Int) else 0) + _ = _; rw [if_neg (by decide)]; lia
    | true => rw [List.count_cons_self]; show (if (true == true) = true then (1 : Int) else 0) + _ = _; rw [if_pos (by decide)]; lia
theorem mt_count : MtR X "list.count" (rCount X.K) := by
  intro pins s σ H x vs v us Q I rx rv h
  obtain ⟨l, bs, rfl, rfl, hH, q⟩ := h
  cases rx
  obtain ⟨u, rfl, ru⟩ := rv.one
  cases ru
  obtain ⟨z, its, n, r, hl, e⟩ := I.lstM hH
  have ei := bools_read (h := s.heap) r
  subst ei
  refine count_list_bools (hp := s.heap) (xs := bs.map PyData.bool) (as := []) ⟨_, e, rfl, n, rfl⟩ (bools_all bs) ?_ ?_
  · rw [List.all_map]
    exact List.all_eq_true.mpr fun b _ => rfl
  · rw [bools_count]
    exact ⟨.int _, H, I.tok _, ⟨_, rfl⟩, q⟩
/-- a comprehension whose first iterable raises -/
noncomputable def tStop (te : TE) : TE := fun σ H _ => te σ H fun _ _ => False
theorem pe_lcStop {elt tg iter : Expr} {ifs : List Expr} {scope : Scope} {cl : List (Str × Addr)} (hi : PE X iter te) (hclos : closureFor scope X.env = pure cl) (hk : scope.kind = .function) (hnm : ∀ y ∈ scope.names, y.2 = .local → scope.names.lookup y.1 = some .local)
    (hs : ∀ x, foldedSetIterable iter X.env x = pure x := by intro _; rfl) : PE X (.ListComp elt [⟨tg, iter, ifs, 0⟩] scope pos) (tStop te) := by
  intro pins s σ H Q I h
  rw [eval_ListComp]
  exact wpAny_comprehension_free (use := none) rfl hs hclos hk hnm (thn (hi pins s σ H _ I h) fun v s1 ⟨_, _, _, _, q⟩ => q.elim)
theorem op_stop {op : CmpOp} : OpR X (compareOp op) (fun _ _ _ _ => False) := fun _ _ _ _ _ _ _ _ _ _ _ _ h => h.elim
theorem call_stop {f : Value} : CallR X f (fun _ _ _ => False) := fun _ _ _ _ _ _ _ _ _ h => h.elim
/-- a written constant among the arguments -/
theorem star_const {c : Const} {k : Nat} {p : Pos} {es : List Expr} {env : Env} : starEach (.Constant c k p :: es) env = (false, eval (.Constant c k p) env) :: starEach es env := rfl
theorem pa_const {c : Const} {k : Nat} {p : Pos} {es : List Expr} {te : TE} {t : TA} (ha : PE X (.Constant c k p) te) (hr : PA X es t) : PA X (.Constant c k p :: es) (tCons te t) := pa_cons ha hr star_const
end
end L2
namespace PN
open PySem L2
noncomputable def top (i : Nat) : Stmt := PySem.Challenge.pw_postnet_k02_refused.main.body.getD i (.Pass ⟨0, 0, 0, 0⟩)
noncomputable abbrev s_check_net : Stmt := top 7
noncomputable abbrev s_check_row : Stmt := top 8
noncomputable abbrev s_pass_post : Stmt := top 9
noncomputable abbrev s_passed : Stmt := top 10
noncomputable abbrev s_run : Stmt := top 11
noncomputable abbrev s_walked : Stmt := top 12
noncomputable abbrev s_mirrored : Stmt := top 13
noncomputable abbrev s_is_rising : Stmt := top 16
noncomputable abbrev s_check_trial : Stmt := top 17
noncomputable abbrev s_bit_rows : Stmt := top 18
noncomputable abbrev s_first_unsorted : Stmt := top 19
noncomputable abbrev s_sorts : Stmt := top 20
noncomputable abbrev s_merging : Stmt := top 22
noncomputable abbrev s_by_halves : Stmt := top 23
noncomputable abbrev s_built : Stmt := top 24
noncomputable abbrev s_plain : Stmt := top 25
noncomputable abbrev s_rows_acting : Stmt := top 27
noncomputable abbrev s_thinned : Stmt := top 28
noncomputable abbrev s_is_lean : Stmt := top 29
noncomputable abbrev s_layer_numbers : Stmt := top 31
noncomputable abbrev s_layers : Stmt := top 32
noncomputable abbrev s_share_lane : Stmt := top 33
noncomputable abbrev s_chain : Stmt := top 34
noncomputable abbrev s_figures_of : Stmt := top 37
noncomputable abbrev s_line_of : Stmt := top 38
noncomputable abbrev s_shown : Stmt := top 39
noncomputable abbrev s__law_at : Stmt := top 41
noncomputable abbrev s__law_posts_by : Stmt := top 42
noncomputable abbrev s__law_wide_way : Stmt := top 43
noncomputable abbrev s__law_other_way : Stmt := top 44
noncomputable abbrev s__law_said : Stmt := top 45
noncomputable abbrev s__law_mixed : Stmt := top 46
noncomputable abbrev s__law_refuses : Stmt := top 47
noncomputable abbrev s_law : Stmt := top 48
theorem sc_check_net : FnScope ["width", "posts", "number", "post"] ["width", "posts"] (defScope s_check_net) := ⟨rfl, rfl, rfl, by decide +kernel, rfl, by decide +kernel, by decide +kernel⟩
theorem sc_check_row : FnScope ["width", "posts", "row"] ["width", "posts", "row"] (defScope s_check_row) := ⟨rfl, rfl, rfl, by decide +kernel, rfl, by decide +kernel, by decide +kernel⟩
theorem sc_pass_post : FnScope ["low", "high", "lanes", "greater"] ["low", "high", "lanes"] (defScope s_pass_post) := ⟨rfl, rfl, rfl, by decide +kernel, rfl, by decide +kernel, by decide +kernel⟩
theorem sc_passed : FnScope ["posts", "row", "lanes", "low", "high"] ["posts", "row"] (defScope s_passed) := ⟨rfl, rfl, rfl, by decide +kernel, rfl, by decide +kernel, by decide +kernel⟩
theorem sc_run : FnScope ["width", "posts", "row"] ["width", "posts", "row"] (defScope s_run) := ⟨rfl, rfl, rfl, by decide +kernel, rfl, by decide +kernel, by decide +kernel⟩
theorem sc_walked : FnScope ["width", "posts", "row", "lanes", "rows", "acting", "number", "post"] ["width", "posts", "row"] (defScope s_walked) := ⟨rfl, rfl, rfl, by decide +kernel, rfl, by decide +kernel, by decide +kernel⟩
theorem sc_mirrored : FnScope ["width", "posts"] ["width", "posts"] (defScope s_mirrored) := ⟨rfl, rfl, rfl, by decide +kernel, rfl, by decide +kernel, by decide +kernel⟩
theorem sc_is_rising : FnScope ["row", "lane"] ["row"] (defScope s_is_rising) := ⟨rfl, rfl, rfl, by decide +kernel, rfl, by decide +kernel, by decide +kernel⟩
theorem sc_check_trial : FnScope ["width", "posts"] ["width", "posts"] (defScope s_check_trial) := ⟨rfl, rfl, rfl, by decide +kernel, rfl, by decide +kernel, by decide +kernel⟩
theorem sc_bit_rows : FnScope ["width", "rows", "lane"] ["width"] (defScope s_bit_rows) := ⟨rfl, rfl, rfl, by decide +kernel, rfl, by decide +kernel, by decide +kernel⟩
theorem sc_first_unsorted : FnScope ["width", "posts", "row"] ["width", "posts"] (defScope s_first_unsorted) := ⟨rfl, rfl, rfl, by decide +kernel, rfl, by decide +kernel, by decide +kernel⟩
theorem sc_sorts : FnScope ["width", "posts"] ["width", "posts"] (defScope s_sorts) := ⟨rfl, rfl, rfl, by decide +kernel, rfl, by decide +kernel, by decide +kernel⟩
theorem sc_merging : FnScope ["first", "count", "step", "even", "odd", "between"] ["first", "count", "step"] (defScope s_merging) := ⟨rfl, rfl, rfl, by decide +kernel, rfl, by decide +kernel, by decide +kernel⟩
theorem sc_by_halves : FnScope ["first", "count", "half"] ["first", "count"] (defScope s_by_halves) := ⟨rfl, rfl, rfl, by decide +kernel, rfl, by decide +kernel, by decide +kernel⟩
theorem sc_built : FnScope ["width", "count"] ["width"] (defScope s_built) := ⟨rfl, rfl, rfl, by decide +kernel, rfl, by decide +kernel, by decide +kernel⟩
theorem sc_plain : FnScope ["width", "posts", "last"] ["width"] (defScope s_plain) := ⟨rfl, rfl, rfl, by decide +kernel, rfl, by decide +kernel, by decide +kernel⟩
theorem sc_rows_acting : FnScope ["width", "posts", "first_rows", "row", "lanes", "number", "post"] ["width", "posts"] (defScope s_rows_acting) := ⟨rfl, rfl, rfl, by decide +kernel, rfl, by decide +kernel, by decide +kernel⟩
theorem sc_thinned : FnScope ["width", "posts"] ["width", "posts"] (defScope s_thinned) := ⟨rfl, rfl, rfl, by decide +kernel, rfl, by decide +kernel, by decide +kernel⟩
theorem sc_is_lean : FnScope ["width", "posts"] ["width", "posts"] (defScope s_is_lean) := ⟨rfl, rfl, rfl, by decide +kernel, rfl, by decide +kernel, by decide +kernel⟩
theorem sc_layer_numbers : FnScope ["posts", "layer_behind", "numbers", "low", "high", "number"] ["posts"] (defScope s_layer_numbers) := ⟨rfl, rfl, rfl, by decide +kernel, rfl, by decide +kernel, by decide +kernel⟩
theorem sc_layers : FnScope ["width", "posts", "found", "post", "number"] ["width", "posts"] (defScope s_layers) := ⟨rfl, rfl, rfl, by decide +kernel, rfl, by decide +kernel, by decide +kernel⟩
theorem sc_share_lane : FnScope ["post", "other"] ["post", "other"] (defScope s_share_lane) := ⟨rfl, rfl, rfl, by decide +kernel, rfl, by decide +kernel, by decide +kernel⟩
theorem sc_chain : FnScope ["width", "posts", "numbers", "wanted", "falling", "number"] ["width", "posts"] (defScope s_chain) := ⟨rfl, rfl, rfl, by decide +kernel, rfl, by decide +kernel, by decide +kernel⟩
theorem sc_figures_of : FnScope ["number", "figures"] ["number"] (defScope s_figures_of) := ⟨rfl, rfl, rfl, by decide +kernel, rfl, by decide +kernel, by decide +kernel⟩
theorem sc_line_of : FnScope ["layer"] ["layer"] (defScope s_line_of) := ⟨rfl, rfl, rfl, by decide +kernel, rfl, by decide +kernel, by decide +kernel⟩
theorem sc_shown : FnScope ["width", "posts", "found"] ["width", "posts"] (defScope s_shown) := ⟨rfl, rfl, rfl, by decide +kernel, rfl, by decide +kernel, by decide +kernel⟩
theorem sc__law_at : FnScope ["_law_script", "_law_k"] ["_law_script", "_law_k"] (defScope s__law_at) := ⟨rfl, rfl, rfl, by decide +kernel, rfl, by decide +kernel, by decide +kernel⟩
theorem sc__law_posts_by : FnScope ["_law_width", "_law_cells", "_law_posts", "_law_cell", "_law_low", "_law_high"] ["_law_width", "_law_cells"] (defScope s__law_posts_by) := ⟨rfl, rfl, rfl, by decide +kernel, rfl, by decide +kernel, by decide +kernel⟩
theorem sc__law_wide_way : FnScope ["_law_which", "_law_width", "_law_posts"] ["_law_which", "_law_width", "_law_posts"] (defScope s__law_wide_way) := ⟨rfl, rfl, rfl, by decide +kernel, rfl, by decide +kernel, by decide +kernel⟩
theorem sc__law_other_way : FnScope ["_law_which", "_law_width", "_law_posts", "_law_row"] ["_law_which", "_law_width", "_law_posts", "_law_row"] (defScope s__law_other_way) := ⟨rfl, rfl, rfl, by decide +kernel, rfl, by decide +kernel, by decide +kernel⟩
theorem sc__law_said : FnScope ["_law_which", "_law_width", "_law_posts", "_law_row", "_law_word"] ["_law_which", "_law_width", "_law_posts", "_law_row"] (defScope s__law_said) := ⟨rfl, rfl, rfl, by decide +kernel, rfl, by decide +kernel, by decide +kernel⟩
theorem sc__law_mixed : FnScope ["_law_script"] ["_law_script"] (defScope s__law_mixed) := ⟨rfl, rfl, rfl, by decide +kernel, rfl, by decide +kernel, by decide +kernel⟩
theorem sc__law_refuses : FnScope ["_law_which", "_law_width", "_law_posts", "_law_row", "e", "_law_under"] ["_law_which", "_law_width", "_law_posts", "_law_row"] (defScope s__law_refuses) := ⟨rfl, rfl, rfl, by decide +kernel, rfl, by decide +kernel, by decide +kernel⟩
theorem sc_law : FnScope ["_law_script", "_law_width", "_law_posts", "_law_row", "_law_way", "_law_lane", "_law_menu", "_law_odd", "_law_bad", "_law_low", "_law_high", "_law_which", "_law_due"] ["_law_script"] (defScope s_law) := ⟨rfl, rfl, rfl, by decide +kernel, rfl, by decide +kernel, by decide +kernel⟩
set_option genInjectivity false in
structure Adr where
  a_check_net : Addr
  fd_check_net : FuncData
  a_check_row : Addr
  fd_check_row : FuncData
  a_pass_post : Addr
  fd_pass_post : FuncData
  a_passed : Addr
  fd_passed : FuncData
  a_run : Addr
  fd_run : FuncData
  a_walked : Addr
  fd_walked : FuncData
  a_mirrored : Addr
  fd_mirrored : FuncData
  a_is_rising : Addr
  fd_is_rising : FuncData
  a_check_trial : Addr
  fd_check_trial : FuncData
  a_bit_rows : Addr
  fd_bit_rows : FuncData
  a_first_unsorted : Addr
  fd_first_unsorted : FuncData
  a_sorts : Addr
  fd_sorts : FuncData
  a_merging : Addr
  fd_merging : FuncData
  a_by_halves : Addr
  fd_by_halves : FuncData
  a_built : Addr
  fd_built : FuncData
  a_plain : Addr
  fd_plain : FuncData
  a_rows_acting : Addr
  fd_rows_acting : FuncData
  a_thinned : Addr
  fd_thinned : FuncData
  a_is_lean : Addr
  fd_is_lean : FuncData
  a_layer_numbers : Addr
  fd_layer_numbers : FuncData
  a_layers : Addr
  fd_layers : FuncData
  a_share_lane : Addr
  fd_share_lane : FuncData
  a_chain : Addr
  fd_chain : FuncData
  a_figures_of : Addr
  fd_figures_of : FuncData
  a_line_of : Addr
  fd_line_of : FuncData
  a_shown : Addr
  fd_shown : FuncData
  a__law_at : Addr
  fd__law_at : FuncData
  a__law_posts_by : Addr
  fd__law_posts_by : FuncData
  a__law_wide_way : Addr
  fd__law_wide_way : FuncData
  a__law_other_way : Addr
  fd__law_other_way : FuncData
  a__law_said : Addr
  fd__law_said : FuncData
  a__law_mixed : Addr
  fd__law_mixed : FuncData
  a__law_refuses : Addr
  fd__law_refuses : FuncData
  a_law : Addr
  fd_law : FuncData
  c_NetError : Addr
  c_BadPost : Addr
  c_BadRow : Addr
  c_TooWide : Addr
  c_NoNet : Addr
  t_MOST_LANES_TRIED : Tok
  t_FIGURES : Tok
structure Txt (K : PySem.W.Frag) (mg : Str → Option Value) (t : Adr) : Prop where
  F_check_net : Fun K "check_net" "check_net" s_check_net t.a_check_net t.fd_check_net
  b_check_net : Binds K t.fd_check_net ["width", "posts"] []
  m_check_net : mg "check_net" = some (.ref t.a_check_net)
  F_check_row : Fun K "check_row" "check_row" s_check_row t.a_check_row t.fd_check_row
  b_check_row : Binds K t.fd_check_row ["width", "posts", "row"] []
  m_check_row : mg "check_row" = some (.ref t.a_check_row)
  F_pass_post : Fun K "pass_post" "pass_post" s_pass_post t.a_pass_post t.fd_pass_post
  b_pass_post : Binds K t.fd_pass_post ["low", "high", "lanes"] []
  m_pass_post : mg "pass_post" = some (.ref t.a_pass_post)
  F_passed : Fun K "passed" "passed" s_passed t.a_passed t.fd_passed
  b_passed : Binds K t.fd_passed ["posts", "row"] []
  m_passed : mg "passed" = some (.ref t.a_passed)
  F_run : Fun K "run" "run" s_run t.a_run t.fd_run
  b_run : Binds K t.fd_run ["width", "posts", "row"] []
  m_run : mg "run" = some (.ref t.a_run)
  F_walked : Fun K "walked" "walked" s_walked t.a_walked t.fd_walked
  b_walked : Binds K t.fd_walked ["width", "posts", "row"] []
  m_walked : mg "walked" = some (.ref t.a_walked)
  F_mirrored : Fun K "mirrored" "mirrored" s_mirrored t.a_mirrored t.fd_mirrored
  b_mirrored : Binds K t.fd_mirrored ["width", "posts"] []
  m_mirrored : mg "mirrored" = some (.ref t.a_mirrored)
  F_is_rising : Fun K "is_rising" "is_rising" s_is_rising t.a_is_rising t.fd_is_rising
  b_is_rising : Binds K t.fd_is_rising ["row"] []
  m_is_rising : mg "is_rising" = some (.ref t.a_is_rising)
  F_check_trial : Fun K "check_trial" "check_trial" s_check_trial t.a_check_trial t.fd_check_trial
  b_check_trial : Binds K t.fd_check_trial ["width", "posts"] []
  m_check_trial : mg "check_trial" = some (.ref t.a_check_trial)
  F_bit_rows : Fun K "bit_rows" "bit_rows" s_bit_rows t.a_bit_rows t.fd_bit_rows
  b_bit_rows : Binds K t.fd_bit_rows ["width"] []
  m_bit_rows : mg "bit_rows" = some (.ref t.a_bit_rows)
  F_first_unsorted : Fun K "first_unsorted" "first_unsorted" s_first_unsorted t.a_first_unsorted t.fd_first_unsorted
  b_first_unsorted : Binds K t.fd_first_unsorted ["width", "posts"] []
  m_first_unsorted : mg "first_unsorted" = some (.ref t.a_first_unsorted)
  F_sorts : Fun K "sorts" "sorts" s_sorts t.a_sorts t.fd_sorts
  b_sorts : Binds K t.fd_sorts ["width", "posts"] []
  m_sorts : mg "sorts" = some (.ref t.a_sorts)
  F_merging : Fun K "merging" "merging" s_merging t.a_merging t.fd_merging
  b_merging : Binds K t.fd_merging ["first", "count", "step"] []
  m_merging : mg "merging" = some (.ref t.a_merging)
  F_by_halves : Fun K "by_halves" "by_halves" s_by_halves t.a_by_halves t.fd_by_halves
  b_by_halves : Binds K t.fd_by_halves ["first", "count"] []
  m_by_halves : mg "by_halves" = some (.ref t.a_by_halves)
  F_built : Fun K "built" "built" s_built t.a_built t.fd_built
  b_built : Binds K t.fd_built ["width"] []
  m_built : mg "built" = some (.ref t.a_built)
  F_plain : Fun K "plain" "plain" s_plain t.a_plain t.fd_plain
  b_plain : Binds K t.fd_plain ["width"] []
  m_plain : mg "plain" = some (.ref t.a_plain)
  F_rows_acting : Fun K "rows_acting" "rows_acting" s_rows_acting t.a_rows_acting t.fd_rows_acting
  b_rows_acting : Binds K t.fd_rows_acting ["width", "posts"] []
  m_rows_acting : mg "rows_acting" = some (.ref t.a_rows_acting)
  F_thinned : Fun K "thinned" "thinned" s_thinned t.a_thinned t.fd_thinned
  b_thinned : Binds K t.fd_thinned ["width", "posts"] []
  m_thinned : mg "thinned" = some (.ref t.a_thinned)
  F_is_lean : Fun K "is_lean" "is_lean" s_is_lean t.a_is_lean t.fd_is_lean
  b_is_lean : Binds K t.fd_is_lean ["width", "posts"] []
  m_is_lean : mg "is_lean" = some (.ref t.a_is_lean)
  F_layer_numbers : Fun K "layer_numbers" "layer_numbers" s_layer_numbers t.a_layer_numbers t.fd_layer_numbers
  b_layer_numbers : Binds K t.fd_layer_numbers ["posts"] []
  m_layer_numbers : mg "layer_numbers" = some (.ref t.a_layer_numbers)
  F_layers : Fun K "layers" "layers" s_layers t.a_layers t.fd_layers
  b_layers : Binds K t.fd_layers ["width", "posts"] []
  m_layers : mg "layers" = some (.ref t.a_layers)
  F_share_lane : Fun K "share_lane" "share_lane" s_share_lane t.a_share_lane t.fd_share_lane
  b_share_lane : Binds K t.fd_share_lane ["post", "other"] []
  m_share_lane : mg "share_lane" = some (.ref t.a_share_lane)
  F_chain : Fun K "chain" "chain" s_chain t.a_chain t.fd_chain
  b_chain : Binds K t.fd_chain ["width", "posts"] []
  m_chain : mg "chain" = some (.ref t.a_chain)
  F_figures_of : Fun K "figures_of" "figures_of" s_figures_of t.a_figures_of t.fd_figures_of
  b_figures_of : Binds K t.fd_figures_of ["number"] []
  m_figures_of : mg "figures_of" = some (.ref t.a_figures_of)
  F_line_of : Fun K "line_of" "line_of" s_line_of t.a_line_of t.fd_line_of
  b_line_of : Binds K t.fd_line_of ["layer"] []
  m_line_of : mg "line_of" = some (.ref t.a_line_of)
  F_shown : Fun K "shown" "shown" s_shown t.a_shown t.fd_shown
  b_shown : Binds K t.fd_shown ["width", "posts"] []
  m_shown : mg "shown" = some (.ref t.a_shown)
  F__law_at : Fun K "_law_at" "_law_at" s__law_at t.a__law_at t.fd__law_at
  b__law_at : Binds K t.fd__law_at ["_law_script", "_law_k"] []
  m__law_at : mg "_law_at" = some (.ref t.a__law_at)
  F__law_posts_by : Fun K "_law_posts_by" "_law_posts_by" s__law_posts_by t.a__law_posts_by t.fd__law_posts_by
  b__law_posts_by : Binds K t.fd__law_posts_by ["_law_width", "_law_cells"] []
  m__law_posts_by : mg "_law_posts_by" = some (.ref t.a__law_posts_by)
  F__law_wide_way : Fun K "_law_wide_way" "_law_wide_way" s__law_wide_way t.a__law_wide_way t.fd__law_wide_way
  b__law_wide_way : Binds K t.fd__law_wide_way ["_law_which", "_law_width", "_law_posts"] []
  m__law_wide_way : mg "_law_wide_way" = some (.ref t.a__law_wide_way)
  F__law_other_way : Fun K "_law_other_way" "_law_other_way" s__law_other_way t.a__law_other_way t.fd__law_other_way
  b__law_other_way : Binds K t.fd__law_other_way ["_law_which", "_law_width", "_law_posts", "_law_row"] []
  m__law_other_way : mg "_law_other_way" = some (.ref t.a__law_other_way)
  F__law_said : Fun K "_law_said" "_law_said" s__law_said t.a__law_said t.fd__law_said
  b__law_said : Binds K t.fd__law_said ["_law_which", "_law_width", "_law_posts", "_law_row"] []
  m__law_said : mg "_law_said" = some (.ref t.a__law_said)
  F__law_mixed : Fun K "_law_mixed" "_law_mixed" s__law_mixed t.a__law_mixed t.fd__law_mixed
  b__law_mixed : Binds K t.fd__law_mixed ["_law_script"] []
  m__law_mixed : mg "_law_mixed" = some (.ref t.a__law_mixed)
  F__law_refuses : Fun K "_law_refuses" "_law_refuses" s__law_refuses t.a__law_refuses t.fd__law_refuses
  b__law_refuses : Binds K t.fd__law_refuses ["_law_which", "_law_width", "_law_posts", "_law_row"] []
  m__law_refuses : mg "_law_refuses" = some (.ref t.a__law_refuses)
  F_law : Fun K "law" "law" s_law t.a_law t.fd_law
  b_law : Binds K t.fd_law ["_law_script"] []
  m_law : mg "law" = some (.ref t.a_law)
  z_ValueError : mg "ValueError" = none
  z_enumerate : mg "enumerate" = none
  z_isinstance : mg "isinstance" = none
  z_len : mg "len" = none
  z_list : mg "list" = none
  z_max : mg "max" = none
  z_min : mg "min" = none
  z_range : mg "range" = none
  z_reversed : mg "reversed" = none
  z_sorted : mg "sorted" = none
  z_zip : mg "zip" = none
  k_NetError : mg "NetError" = some (.ref t.c_NetError)
  x_NetError : ExcV K t.c_NetError
  e_NetError : ExcA K t.c_NetError
  m_NetError_NetError : PySem.W.mroIn K t.c_NetError (.ref t.c_NetError) = some true
  i_NetError_NetError : PySem.W.kitOne K (.ref t.c_NetError) (.ref t.c_NetError) = some true
  m_NetError_BadPost : PySem.W.mroIn K t.c_NetError (.ref t.c_BadPost) = some false
  i_NetError_BadPost : PySem.W.kitOne K (.ref t.c_NetError) (.ref t.c_BadPost) = some false
  m_NetError_BadRow : PySem.W.mroIn K t.c_NetError (.ref t.c_BadRow) = some false
  i_NetError_BadRow : PySem.W.kitOne K (.ref t.c_NetError) (.ref t.c_BadRow) = some false
  m_NetError_TooWide : PySem.W.mroIn K t.c_NetError (.ref t.c_TooWide) = some false
  i_NetError_TooWide : PySem.W.kitOne K (.ref t.c_NetError) (.ref t.c_TooWide) = some false
  m_NetError_NoNet : PySem.W.mroIn K t.c_NetError (.ref t.c_NoNet) = some false
  i_NetError_NoNet : PySem.W.kitOne K (.ref t.c_NetError) (.ref t.c_NoNet) = some false
  v_NetError : PySem.W.kitOne K (.ref t.c_NetError) (.type "ValueError") = some true
  k_BadPost : mg "BadPost" = some (.ref t.c_BadPost)
  x_BadPost : ExcV K t.c_BadPost
  e_BadPost : ExcA K t.c_BadPost
  m_BadPost_NetError : PySem.W.mroIn K t.c_BadPost (.ref t.c_NetError) = some true
  i_BadPost_NetError : PySem.W.kitOne K (.ref t.c_BadPost) (.ref t.c_NetError) = some true
  m_BadPost_BadPost : PySem.W.mroIn K t.c_BadPost (.ref t.c_BadPost) = some true
  i_BadPost_BadPost : PySem.W.kitOne K (.ref t.c_BadPost) (.ref t.c_BadPost) = some true
  m_BadPost_BadRow : PySem.W.mroIn K t.c_BadPost (.ref t.c_BadRow) = some false
  i_BadPost_BadRow : PySem.W.kitOne K (.ref t.c_BadPost) (.ref t.c_BadRow) = some false
  m_BadPost_TooWide : PySem.W.mroIn K t.c_BadPost (.ref t.c_TooWide) = some false
  i_BadPost_TooWide : PySem.W.kitOne K (.ref t.c_BadPost) (.ref t.c_TooWide) = some false
  m_BadPost_NoNet : PySem.W.mroIn K t.c_BadPost (.ref t.c_NoNet) = some false
  i_BadPost_NoNet : PySem.W.kitOne K (.ref t.c_BadPost) (.ref t.c_NoNet) = some false
  v_BadPost : PySem.W.kitOne K (.ref t.c_BadPost) (.type "ValueError") = some true
  k_BadRow : mg "BadRow" = some (.ref t.c_BadRow)
  x_BadRow : ExcV K t.c_BadRow
  e_BadRow : ExcA K t.c_BadRow
  m_BadRow_NetError : PySem.W.mroIn K t.c_BadRow (.ref t.c_NetError) = some true
  i_BadRow_NetError : PySem.W.kitOne K (.ref t.c_BadRow) (.ref t.c_NetError) = some true
  m_BadRow_BadPost : PySem.W.mroIn K t.c_BadRow (.ref t.c_BadPost) = some false
  i_BadRow_BadPost : PySem.W.kitOne K (.ref t.c_BadRow) (.ref t.c_BadPost) = some false
  m_BadRow_BadRow : PySem.W.mroIn K t.c_BadRow (.ref t.c_BadRow) = some true
  i_BadRow_BadRow : PySem.W.kitOne K (.ref t.c_BadRow) (.ref t.c_BadRow) = some true
  m_BadRow_TooWide : PySem.W.mroIn K t.c_BadRow (.ref t.c_TooWide) = some false
  i_BadRow_TooWide : PySem.W.kitOne K (.ref t.c_BadRow) (.ref t.c_TooWide) = some false
  m_BadRow_NoNet : PySem.W.mroIn K t.c_BadRow (.ref t.c_NoNet) = some false
  i_BadRow_NoNet : PySem.W.kitOne K (.ref t.c_BadRow) (.ref t.c_NoNet) = some false
  v_BadRow : PySem.W.kitOne K (.ref t.c_BadRow) (.type "ValueError") = some true
  k_TooWide : mg "TooWide" = some (.ref t.c_TooWide)
  x_TooWide : ExcV K t.c_TooWide
  e_TooWide : ExcA K t.c_TooWide
  m_TooWide_NetError : PySem.W.mroIn K t.c_TooWide (.ref t.c_NetError) = some true
  i_TooWide_NetError : PySem.W.kitOne K (.ref t.c_TooWide) (.ref t.c_NetError) = some true
  m_TooWide_BadPost : PySem.W.mroIn K t.c_TooWide (.ref t.c_BadPost) = some false
  i_TooWide_BadPost : PySem.W.kitOne K (.ref t.c_TooWide) (.ref t.c_BadPost) = some false
  m_TooWide_BadRow : PySem.W.mroIn K t.c_TooWide (.ref t.c_BadRow) = some false
  i_TooWide_BadRow : PySem.W.kitOne K (.ref t.c_TooWide) (.ref t.c_BadRow) = some false
  m_TooWide_TooWide : PySem.W.mroIn K t.c_TooWide (.ref t.c_TooWide) = some true
  i_TooWide_TooWide : PySem.W.kitOne K (.ref t.c_TooWide) (.ref t.c_TooWide) = some true
  m_TooWide_NoNet : PySem.W.mroIn K t.c_TooWide (.ref t.c_NoNet) = some false
  i_TooWide_NoNet : PySem.W.kitOne K (.ref t.c_TooWide) (.ref t.c_NoNet) = some false
  v_TooWide : PySem.W.kitOne K (.ref t.c_TooWide) (.type "ValueError") = some true
  k_NoNet : mg "NoNet" = some (.ref t.c_NoNet)
  x_NoNet : ExcV K t.c_NoNet
  e_NoNet : ExcA K t.c_NoNet
  m_NoNet_NetError : PySem.W.mroIn K t.c_NoNet (.ref t.c_NetError) = some true
  i_NoNet_NetError : PySem.W.kitOne K (.ref t.c_NoNet) (.ref t.c_NetError) = some true
  m_NoNet_BadPost : PySem.W.mroIn K t.c_NoNet (.ref t.c_BadPost) = some false
  i_NoNet_BadPost : PySem.W.kitOne K (.ref t.c_NoNet) (.ref t.c_BadPost) = some false
  m_NoNet_BadRow : PySem.W.mroIn K t.c_NoNet (.ref t.c_BadRow) = some false
  i_NoNet_BadRow : PySem.W.kitOne K (.ref t.c_NoNet) (.ref t.c_BadRow) = some false
  m_NoNet_TooWide : PySem.W.mroIn K t.c_NoNet (.ref t.c_TooWide) = some false
  i_NoNet_TooWide : PySem.W.kitOne K (.ref t.c_NoNet) (.ref t.c_TooWide) = some false
  m_NoNet_NoNet : PySem.W.mroIn K t.c_NoNet (.ref t.c_NoNet) = some true
  i_NoNet_NoNet : PySem.W.kitOne K (.ref t.c_NoNet) (.ref t.c_NoNet) = some true
  v_NoNet : PySem.W.kitOne K (.ref t.c_NoNet) (.type "ValueError") = some true
  c_MOST_LANES_TRIED : mg "MOST_LANES_TRIED" = some (.int 12 t.t_MOST_LANES_TRIED)
  c_FIGURES : mg "FIGURES" = some (.str "0123456789" t.t_FIGURES)
  bl : ∀ (s : Shared) (v : Value), BindsTo s t.fd_law ⟨[v], []⟩ [("_law_script", v)]
end PN
namespace PN
open PySem L2
/-! ### the promises -/
noncomputable def sp_check_net : Sp := fun vs H Q _ => ∃ (w : Int) (a : Addr) (ps : List Post), vs = [.int w, .ref a] ∧ Posts H a ps ∧ 1 ≤ w ∧ Net w.toNat ps ∧ ∀ H', Same H H' → Q .non H'
noncomputable def sp_check_row : Sp := fun vs H Q _ => ∃ (w : Int) (a b : Addr) (ps : List Post) (ys : List V), vs = [.int w, .ref a, .ref b] ∧ Posts H a ps ∧ 1 ≤ w ∧ Net w.toNat ps ∧ H b = some (.lst ys) ∧ (ys.length : Int) = w ∧ ∀ H', Same H H' → Q .non H'
noncomputable def sp_pass_post : Sp := fun vs H Q _ => ∃ (lo hi : Nat) (l : Addr) (xs : List Int), vs = [.int (lo : Nat), .int (hi : Nat), .ref l] ∧ Ints H l xs ∧ lo < xs.length ∧ hi < xs.length ∧
  ∀ H', Ints H' l (stepRow xs (lo, hi)) → (∀ b, b ≠ l → H' b = H b) → Q (.bl (acts xs (lo, hi))) H'
noncomputable def sp_passed : Sp := fun vs H Q _ => ∃ (a b : Addr) (ps : List Post) (xs : List Int), vs = [.ref a, .ref b] ∧ Posts H a ps ∧ Ints H b xs ∧ Net xs.length ps ∧
  ∀ l H', Same H H' → H l = none → Ints H' l (passAll ps xs) → Q (.ref l) H'
noncomputable def sp_run : Sp := fun vs H Q _ => ∃ (w : Int) (a b : Addr) (ps : List Post) (xs : List Int), vs = [.int w, .ref a, .ref b] ∧ Posts H a ps ∧ 1 ≤ w ∧ Net w.toNat ps ∧ Ints H b xs ∧ (xs.length : Int) = w ∧
  ∀ l H', Same H H' → H l = none → Ints H' l (passAll ps xs) → Q (.ref l) H'
section
variable {P : Program} {w : World} {K : PySem.W.Frag} {mg : Str → Option Value} {base : Heap} {t : Adr}
theorem ok_check_net (T : Txt K mg t) : FnOk P w K mg base CX0 1 t.a_check_net t.fd_check_net ["width", "posts"] sp_check_net := by
  refine T.F_check_net.ok sc_check_net (fun vs H Q E h => ?_) (fun cdv A outer s H vs Q E hr h => ?_)
  · obtain ⟨w, a, ps, rfl, _⟩ := h
    rfl
  · obtain ⟨w, a, ps, rfl, ⟨rs, hl, ht⟩, h1, hn, k⟩ := h
    refine ⟨_, (pss_cons (ps_if (pt_cmpR op_lt (pv 0) pe_int (nomark _)) (pss_one ps_never)
        pss_nil)
      (pss_one (ps_for PassesOwn.never rfl (pi_enum rfl T.z_enumerate (pa_cons (pv 1) pa_nil)) (pg_tup rfl (pgs_cons (pg_name (i := 2) sc_check_net.nd rfl (Or.inl rfl)) (pgs_cons (pg_name (i := 3) sc_check_net.nd rfl (Or.inl rfl)) pgs_nil)))
        (pss_one (ps_if (pt_not (pt_chain3 op_le op_lt op_lt pe_int (pe_ix ix_tup (pv 3) pe_int (fun _ _ => rfl)) (pe_ix ix_tup (pv 3) pe_int (fun _ _ => rfl)) (pv 0))) (pss_one ps_never)
          pss_nil))))), ?_⟩
    refine ⟨_, rfl, _, _, rfl, rfl, _, rfl, ?_⟩
    refine iteDn (by lia) ?_
    refine ⟨_, rfl, a, rfl, ⟨_, SqL.of hl⟩, for_enum (K := K) (a := a) (xs := rs.map V.ref) (fun i σ H2 => ∃ u v : Option V, σ = [some (.int w), some (.ref a), u, v] ∧ Same H H2)
      ⟨none, none, rfl, Same.refl H⟩ (fun i σ H2 _ ⟨_, _, _, s2⟩ => SqL.of (s2 _ _ hl)) ?_ ?_⟩
    · rintro i x q σ H2 hi ⟨u, v, rfl, s2⟩ hq
      obtain ⟨r, hr', rfl⟩ := map_get hi
      obtain ⟨p, hp, er⟩ := ht.get hr'
      obtain ⟨n1, n2⟩ := hn.at hp
      have er2 : (upd H2 q (.tup [.int (i : Nat), .ref r])) r = some (.tup [.int (p.1 : Nat), .int (p.2 : Nat)]) := by
        rw [upd_ne (ne_of_none (s2 _ _ er) hq)]
        exact s2 _ _ er
      refine ⟨q, _, rfl, SqT.of upd_same, rfl, _, _, rfl, _, _, rfl, rfl, ?_⟩
      refine ⟨_, rfl, r, _, _, _, rfl, rfl, SqT.of er2, rfl, _, _, rfl, rfl, _, rfl, ?_⟩
      refine iteD (by lia) ?_
      refine ⟨_, rfl, r, _, _, _, rfl, rfl, SqT.of er2, rfl, _, _, rfl, rfl, _, rfl, ?_⟩
      refine iteD (by lia) ?_
      refine ⟨_, rfl, _, _, rfl, rfl, _, rfl, ?_⟩
      refine iteNS (by lia) ?_
      exact ⟨_, _, rfl, s2.upd (s2.free hq)⟩
    · rintro σ H2 ⟨u, v, rfl, s2⟩
      exact k H2 s2
theorem ok_check_row (T : Txt K mg t) : FnOk P w K mg base CX0 2 t.a_check_row t.fd_check_row ["width", "posts", "row"] sp_check_row := by
  have G_check_net : FnOk P w K mg base CX0 1 t.a_check_net t.fd_check_net ["width", "posts"] sp_check_net := ok_check_net T
  refine T.F_check_row.ok sc_check_row (fun vs H Q E h => ?_) (fun cdv A outer s H vs Q E hr h => ?_)
  · obtain ⟨w, a, b, ps, ys, rfl, _⟩ := h
    rfl
  · obtain ⟨w, a, b, ps, ys, rfl, hP, h1, hn, hb, hl, k⟩ := h
    have hr_check_net := hr
    refine ⟨_, (pss_cons (ps_expr (pe_call G_check_net hr_check_net rfl T.m_check_net T.F_check_net.kp T.b_check_net .nil pass0 (pa_cons (pv 0) (pa_cons (pv 1) pa_nil))))
      (pss_one (ps_if (pt_cmpR op_ne (pe_callB call_len_seq (by rfl) T.z_len PySem.boot_len (pa_cons (pv 2) pa_nil)) (pv 0) (nomark _)) (pss_one ps_never)
        pss_nil))), ?_⟩
    refine ⟨_, rfl, _, rfl, w, a, ps, rfl, hP, h1, hn, fun H1 s1 => ?_⟩
    refine ⟨_, rfl, b, ys, rfl, .inl (SqL.of (s1 _ _ hb)), _, rfl, rfl, _, rfl, ?_⟩
    refine iteNS (by rw [hl]) ?_
    exact k H1 s1
theorem ok_pass_post (T : Txt K mg t) : FnOk P w K mg base CX0 1 t.a_pass_post t.fd_pass_post ["low", "high", "lanes"] sp_pass_post := by
  refine T.F_pass_post.ok sc_pass_post (fun vs H Q E h => ?_) (fun cdv A outer s H vs Q E hr h => ?_)
  · obtain ⟨lo, hi, l, xs, rfl, _⟩ := h
    rfl
  · obtain ⟨lo, hi, l, xs, rfl, hl, h1, h2, k⟩ := h
    refine ⟨_, (pss_cons (ps_if (pt_cmpR op_le (pe_ix ix_list (pv 2) (pv 0) (fun _ _ => rfl)) (pe_ix ix_list (pv 2) (pv 1) (fun _ _ => rfl)) (nomark _)) (pss_one (ps_ret pe_bl))
        pss_nil)
      (pss_cons (ps_set (i := 3) sc_pass_post.nd rfl (Or.inl rfl) (pe_ix ix_list (pv 2) (pv 0) (fun _ _ => rfl)))
      (pss_cons (ps_asg (pe_ix ix_list (pv 2) (pv 1) (fun _ _ => rfl)) (pg_sub (pv 2) (pv 0) set_list))
      (pss_cons (ps_asg (pv 3) (pg_sub (pv 2) (pv 1) set_list))
      (pss_one (ps_ret pe_bl)))))), ?_⟩
    refine ⟨_, rfl, _, rfl, l, _, _, _, rfl, rfl, SqL.of hl, at_ints h1, _, rfl, _, rfl, l, _, _, _, rfl, rfl, SqL.of hl, at_ints h2, _, _, rfl, rfl, _, rfl, ?_⟩
    by_cases c : xs.getD hi 0 < xs.getD lo 0
    · refine iteDn (by lia) ?_
      refine ⟨_, rfl, _, rfl, l, _, _, _, rfl, rfl, SqL.of hl, at_ints h1, ?_⟩
      refine ⟨_, rfl, _, rfl, l, _, _, _, rfl, rfl, SqL.of hl, at_ints h2, _, rfl, _, rfl, l, _, _, lo, rfl, rfl, hl, ixN_ints h1, ?_⟩
      refine ⟨_, rfl, _, rfl, _, rfl, l, _, _, hi, rfl, rfl, upd_same, ?_, ?_⟩
      · rw [List.length_set]
        exact ixN_ints h2
      · have e : acts xs (lo, hi) = true := decide_eq_true c
        have z := k (upd (upd H l (.lst ((xs.map V.int).set lo (.int (xs.getD hi 0))))) l (.lst (((xs.map V.int).set lo (.int (xs.getD hi 0))).set hi (.int (xs.getD lo 0))))) (by
          show _ = _
          rw [upd_same, set_ints, set_ints]
          unfold stepRow
          rw [if_pos c]) (fun b hb => by rw [upd_ne hb, upd_ne hb])
        rw [e] at z
        exact z
    · refine iteD (by lia) ?_
      have e : acts xs (lo, hi) = false := decide_eq_false c
      have z := k H (by
        show _ = _
        unfold stepRow
        rw [if_neg c]
        exact hl) (fun b hb => rfl)
      rw [e] at z
      exact z
theorem ok_passed (T : Txt K mg t) : FnOk P w K mg base CX0 2 t.a_passed t.fd_passed ["posts", "row"] sp_passed := by
  have G_pass_post : FnOk P w K mg base CX0 1 t.a_pass_post t.fd_pass_post ["low", "high", "lanes"] sp_pass_post := ok_pass_post T
  refine T.F_passed.ok sc_passed (fun vs H Q E h => ?_) (fun cdv A outer s H vs Q E hr h => ?_)
  · obtain ⟨a, b, ps, xs, rfl, _⟩ := h
    rfl
  · obtain ⟨a, b, ps, xs, rfl, ⟨rs, ha, ht⟩, hb, hn, k⟩ := h
    have hr_pass_post := hr
    refine ⟨_, (pss_cons (ps_set (i := 2) sc_passed.nd rfl (Or.inl rfl) (pe_callTy call_list_of (by rfl) T.z_list PyProof.Rows.boot_list (pa_cons (pv 1) pa_nil)))
      (pss_cons (ps_for PassesOwn.never rfl (pi_list (pv 0)) (pg_tup rfl (pgs_cons (pg_name (i := 3) sc_passed.nd rfl (Or.inl rfl)) (pgs_cons (pg_name (i := 4) sc_passed.nd rfl (Or.inl rfl)) pgs_nil)))
        (pss_one (ps_expr (pe_call G_pass_post hr_pass_post rfl T.m_pass_post T.F_pass_post.kp T.b_pass_post .nil pass0 (pa_cons (pv 3) (pa_cons (pv 4) (pa_cons (pv 2) pa_nil)))))))
      (pss_one (ps_ret (pv 2))))), ?_⟩
    refine ⟨_, rfl, b, _, rfl, .inl (SqL.of hb), fun l hnl => ?_⟩
    have s0 : Same H (upd H l (.lst (xs.map V.int))) := Same.new hnl
    refine ⟨_, rfl, a, rfl, ⟨_, SqL.of (s0 _ _ ha)⟩, for_list (K := K) (a := a) (xs := rs.map V.ref) (fun i σ H2 => ∃ u v : Option V, σ = [some (.ref a), some (.ref b), some (.ref l), u, v] ∧ Same H H2 ∧ Ints H2 l (passAll (ps.take i) xs))
      ⟨none, none, rfl, s0, upd_same⟩ (fun i σ H2 _ ⟨_, _, _, s2, _⟩ => SqL.of (s2 _ _ ha)) ?_ ?_⟩
    · rintro i x σ H2 hi ⟨u, v, rfl, s2, e2⟩
      obtain ⟨r, hr', rfl⟩ := map_get hi
      obtain ⟨p, hp, er⟩ := ht.get hr'
      obtain ⟨n1, n2⟩ := hn.at hp
      refine ⟨r, _, rfl, SqT.of (s2 _ _ er), rfl, _, _, rfl, _, _, rfl, rfl, ?_⟩
      refine ⟨_, rfl, _, rfl, _, rfl, p.1, p.2, l, _, rfl, e2, by rw [passAll_length]; lia, by rw [passAll_length]; lia, fun H3 e3 k3 => ?_⟩
      refine ⟨_, _, rfl, fun c o z => ?_, ?_⟩
      · rw [k3 c (ne_of_none z hnl)]
        exact s2 c o z
      · rw [passAll_take hp]
        exact e3
    · rintro σ H2 ⟨u, v, rfl, s2, e2⟩
      refine ⟨_, rfl, k l H2 s2 hnl ?_⟩
      rw [List.length_map, ht.1, List.take_length] at e2
      exact e2
theorem ok_run (T : Txt K mg t) : FnOk P w K mg base CX0 3 t.a_run t.fd_run ["width", "posts", "row"] sp_run := by
  have G_check_row : FnOk P w K mg base CX0 2 t.a_check_row t.fd_check_row ["width", "posts", "row"] sp_check_row := ok_check_row T
  have G_passed : FnOk P w K mg base CX0 2 t.a_passed t.fd_passed ["posts", "row"] sp_passed := ok_passed T
  refine T.F_run.ok sc_run (fun vs H Q E h => ?_) (fun cdv A outer s H vs Q E hr h => ?_)
  · obtain ⟨w, a, b, ps, xs, rfl, _⟩ := h
    rfl
  · obtain ⟨w, a, b, ps, xs, rfl, hP, h1, hn, hb, hl, k⟩ := h
    have hr_check_row := hr
    have hr_passed := hr
    refine ⟨_, (pss_cons (ps_expr (pe_call G_check_row hr_check_row rfl T.m_check_row T.F_check_row.kp T.b_check_row .nil pass0 (pa_cons (pv 0) (pa_cons (pv 1) (pa_cons (pv 2) pa_nil)))))
      (pss_one (ps_ret (pe_call G_passed hr_passed rfl T.m_passed T.F_passed.kp T.b_passed .nil pass0 (pa_cons (pv 1) (pa_cons (pv 2) pa_nil)))))), ?_⟩
    refine ⟨_, rfl, _, rfl, _, rfl, w, a, b, ps, _, rfl, hP, h1, hn, hb, by rw [List.length_map]; exact hl, fun H1 s1 => ?_⟩
    refine ⟨_, rfl, _, rfl, a, b, ps, xs, rfl, hP.mono s1, s1 _ _ hb, by rw [← hl] at hn; simpa using hn, fun l H2 s2 n2 e2 => ?_⟩
    exact k l H2 (s1.trans s2) (s1.free n2) e2
end
end PN
namespace PN
open PySem L2
noncomputable def sp_walked : Sp := fun vs H Q _ => ∃ (w : Int) (a b : Addr) (ps : List Post) (xs : List Int), vs = [.int w, .ref a, .ref b] ∧ Posts H a ps ∧ 1 ≤ w ∧ Net w.toNat ps ∧ ps.length ≤ 1000 ∧ Ints H b xs ∧ (xs.length : Int) = w ∧
  ∀ tp r c rs H', Same H H' → H tp = none → H' tp = some (.tup [.ref r, .ref c]) → H' r = some (.lst (rs.map V.ref)) → Lists H' rs (rowsAt ps xs ps.length) → Ints H' c (actsAt ps xs ps.length) → Q (.ref tp) H'
section
variable {P : Program} {w : World} {K : PySem.W.Frag} {mg : Str → Option Value} {base : Heap} {t : Adr}
theorem ok_walked (T : Txt K mg t) : FnOk P w K mg base CX0 3 t.a_walked t.fd_walked ["width", "posts", "row"] sp_walked := by
  have G_check_row : FnOk P w K mg base CX0 2 t.a_check_row t.fd_check_row ["width", "posts", "row"] sp_check_row := ok_check_row T
  have G_pass_post : FnOk P w K mg base CX0 1 t.a_pass_post t.fd_pass_post ["low", "high", "lanes"] sp_pass_post := ok_pass_post T
  refine T.F_walked.ok sc_walked (fun vs H Q E h => ?_) (fun cdv A outer s H vs Q E hr h => ?_)
  · obtain ⟨w, a, b, ps, xs, rfl, _⟩ := h
    rfl
  · obtain ⟨w, a, b, ps, xs, rfl, hP, h1, hn, hpl, hb, hl, k⟩ := h
    have hr_check_row := hr
    have hr_pass_post := hr.mono (j := 1) (by decide)
    refine ⟨_, (pss_cons (ps_expr (pe_call G_check_row hr_check_row rfl T.m_check_row T.F_check_row.kp T.b_check_row .nil pass0 (pa_cons (pv 0) (pa_cons (pv 1) (pa_cons (pv 2) pa_nil)))))
      (pss_cons (ps_set (i := 3) sc_walked.nd rfl (Or.inl rfl) (pe_callTy call_list_of (by rfl) T.z_list PyProof.Rows.boot_list (pa_cons (pv 2) pa_nil)))
      (pss_cons (ps_set (i := 4) sc_walked.nd rfl (Or.inl rfl) (pe_lst pa_nil))
      (pss_cons (ps_set (i := 5) sc_walked.nd rfl (Or.inl rfl) (pe_lst pa_nil))
      (pss_cons (ps_for PassesOwn.never rfl (pi_enum rfl T.z_enumerate (pa_cons (pv 1) pa_nil)) (pg_tup rfl (pgs_cons (pg_name (i := 6) sc_walked.nd rfl (Or.inl rfl)) (pgs_cons (pg_name (i := 7) sc_walked.nd rfl (Or.inl rfl)) pgs_nil)))
        (pss_cons (ps_if (pt_val (pe_call G_pass_post hr_pass_post rfl T.m_pass_post T.F_pass_post.kp T.b_pass_post .nil pass0 (pa_cons (pe_ix ix_tup (pv 7) pe_int (fun _ _ => rfl)) (pa_cons (pe_ix ix_tup (pv 7) pe_int (fun _ _ => rfl)) (pa_cons (pv 3) pa_nil))))) (pss_one (ps_expr (pe_bm PySem.F.plainAttrs_list PySem.F.slot_list_append PySem.F.type_list_append mt_append (pv 5) (pa_cons (pv 6) pa_nil))))
          pss_nil)
        (pss_one (ps_expr (pe_bm PySem.F.plainAttrs_list PySem.F.slot_list_append PySem.F.type_list_append mt_append (pv 4) (pa_cons (pe_callTy call_list_of (by rfl) T.z_list PyProof.Rows.boot_list (pa_cons (pv 3) pa_nil)) pa_nil))))))
      (pss_one (ps_ret (pe_tup (pa_cons (pv 4) (pa_cons (pv 5) pa_nil)))))))))), ?_⟩
    refine ⟨_, rfl, _, rfl, _, rfl, w, a, b, ps, _, rfl, hP, h1, hn, hb, by rw [List.length_map]; exact hl, fun H1 s1 => ?_⟩
    obtain ⟨rs0, ha, ht⟩ := hP.mono s1
    refine ⟨_, rfl, b, _, rfl, .inl (SqL.of (s1 _ _ hb)), fun l hnl => ?_⟩
    refine ⟨Nat.zero_le _, fun r hnr => ?_⟩
    refine ⟨Nat.zero_le _, fun c hnc => ?_⟩
    have W0 := WInv.start (xs := xs) hnl rfl hnr hnc
    refine ⟨_, rfl, a, rfl, ⟨_, SqL.of (W0.same _ _ ha)⟩, for_enum (K := K) (a := a) (xs := rs0.map V.ref) (fun i σ H2 => ∃ (u v : Option V) (rs : List Addr), σ = [some (.int w), some (.ref a), some (.ref b), some (.ref l), some (.ref r), some (.ref c), u, v] ∧
        WInv H1 H2 l r c (passAll (ps.take i) xs) rs (rowsAt ps xs i) (actsAt ps xs i))
      ⟨none, none, [], rfl, W0⟩ (fun i σ H2 _ ⟨_, _, _, _, W⟩ => SqL.of (W.same _ _ ha)) ?_ ?_⟩
    · rintro i x q σ H2 hi ⟨u, v, rs, rfl, W⟩ hq
      have hil : i < ps.length := by
        have z := (List.getElem?_eq_some_iff.mp hi).1
        rw [List.length_map, ht.1] at z
        exact z
      obtain ⟨r', hr', rfl⟩ := map_get hi
      obtain ⟨p, hp, er⟩ := ht.get hr'
      obtain ⟨n1, n2⟩ := hn.at hp
      have W2 := W.new (o := .tup [.int (i : Nat), .ref r']) hq
      have er2 := W2.same _ _ er
      have hlen : (passAll (ps.take i) xs).length = w.toNat := by rw [passAll_length]; lia
      refine ⟨q, _, rfl, SqT.of upd_same, rfl, _, _, rfl, _, _, rfl, rfl, ?_⟩
      refine ⟨_, rfl, r', _, _, _, rfl, rfl, SqT.of er2, rfl, _, rfl, r', _, _, _, rfl, rfl, SqT.of er2, rfl, _, rfl, p.1, p.2, l, _, rfl, W2.el, by lia, by lia, fun H3 e3 k3 => ⟨_, rfl, ?_⟩⟩
      have W3 := W2.lane e3 k3
      have hacl := actsAt_length ps xs i
      have hrl : rs.length = i := by rw [W3.ls.1, rowsAt_length]
      rw [← passAll_take hp] at W3
      refine ite2 (fun ea => ?_) (fun ea => ?_)
      · have W4 := W3.act (i : Int)
        refine ⟨_, rfl, .inl ⟨rfl, _, SqL.of W3.ec⟩, _, rfl, c, _, _, rfl, rfl, W3.ec, big' (by rw [List.length_map]; lia), ?_⟩
        refine ⟨_, rfl, .inl ⟨rfl, _, SqL.of W4.er⟩, _, rfl, l, _, rfl, .inl (SqL.of W4.el), fun q2 n2 => ⟨r, _, _, rfl, rfl, (by rw [upd_ne (ne_of_none W4.er n2)]; exact W4.er), big' (by rw [List.length_map]; lia), ?_⟩⟩
        refine ⟨_, _, rs ++ [q2], rfl, ?_⟩
        rw [rowsAt_succ, actsAt_yes hp ea]
        exact W4.row n2
      · refine ⟨_, rfl, .inl ⟨rfl, _, SqL.of W3.er⟩, _, rfl, l, _, rfl, .inl (SqL.of W3.el), fun q2 n2 => ⟨r, _, _, rfl, rfl, (by rw [upd_ne (ne_of_none W3.er n2)]; exact W3.er), big' (by rw [List.length_map]; lia), ?_⟩⟩
        refine ⟨_, _, rs ++ [q2], rfl, ?_⟩
        rw [rowsAt_succ, actsAt_no hp (by simpa using ea)]
        exact W3.row n2
    · rintro σ H2 ⟨u, v, rs, rfl, W⟩
      rw [List.length_map, ht.1] at W
      refine ⟨_, rfl, _, rfl, (by show 2 ≤ sizeLine; decide), fun tp htp => ?_⟩
      have W2 := W.new (o := .tup [.ref r, .ref c]) htp
      exact k tp r c rs _ (s1.trans W2.same) (s1.free (W.same.free htp)) upd_same W2.er W2.ls W2.ec
end
end PN
namespace PN
open PySem L2
noncomputable def sp_mirrored : Sp := fun vs H Q _ => ∃ (w : Int) (a : Addr) (ps : List Post), vs = [.int w, .ref a] ∧ Posts H a ps ∧ 1 ≤ w ∧ Net w.toNat ps ∧ ps.length ≤ 1000 ∧
  ∀ l H', Same H H' → H l = none → Posts H' l (mirrorAll w.toNat ps) → Q (.ref l) H'
section
variable {P : Program} {w : World} {K : PySem.W.Frag} {mg : Str → Option Value} {base : Heap} {t : Adr}
theorem ok_mirrored (T : Txt K mg t) : FnOk P w K mg base CX0 2 t.a_mirrored t.fd_mirrored ["width", "posts"] sp_mirrored := by
  have G_check_net : FnOk P w K mg base CX0 1 t.a_check_net t.fd_check_net ["width", "posts"] sp_check_net := ok_check_net T
  refine T.F_mirrored.ok sc_mirrored (fun vs H Q E h => ?_) (fun cdv A outer s H vs Q E hr h => ?_)
  · obtain ⟨w, a, ps, rfl, _⟩ := h
    rfl
  · obtain ⟨w, a, ps, rfl, hP, h1, hn, hpl, k⟩ := h
    have hr_check_net := hr
    refine ⟨_, (pss_cons (ps_expr (pe_call G_check_net hr_check_net rfl T.m_check_net T.F_check_net.kp T.b_check_net .nil pass0 (pa_cons (pv 0) (pa_cons (pv 1) pa_nil))))
      (pss_one (ps_ret (pe_lc rfl rfl (pi_list (pv 1)) (by rfl) (LcFree.one (N := ["low", "high", "width"]) (k := 0) [(".0", .local), ("low", .local), ("high", .local), ("width", .cell)] rfl rfl rfl rfl rfl (by rfl) (by decide +kernel) (by decide +kernel)) rfl (by decide +kernel) (by decide +kernel) (fun _ _ _ _ => (pg_tupK (K := K) rfl rfl (n := 2) (pgs_cons (pg_name (i := 0) (show (["low", "high", "width"] : List Str).Nodup by decide +kernel) rfl (Or.inl rfl)) (pgs_cons (pg_name (i := 1) (show (["low", "high", "width"] : List Str).Nodup by decide +kernel) rfl (Or.inl rfl)) pgs_nil)))) (fun _ _ _ _ => (pe_tup (pa_cons (pe_op op_sub (pe_op op_sub (pv 2) pe_int) (pv 1)) (pa_cons (pe_op op_sub (pe_op op_sub (pv 2) pe_int) (pv 0)) pa_nil)))))))), ?_⟩
    refine ⟨_, rfl, _, rfl, w, a, ps, rfl, hP, h1, hn, fun H1 s1 => ?_⟩
    obtain ⟨rs, ha, ht⟩ := hP.mono s1
    refine ⟨_, rfl, a, rfl, ⟨_, SqL.of ha⟩, fun D hD => lc_list (K := K) (a := a) (xs := rs.map V.ref) (fun i σ H2 => ∃ (u v : Option V) (qs : List Addr), σ = [u, v, some (.int w)] ∧ Same H1 H2 ∧ H2 D = some (.lst (qs.map V.ref)) ∧ Tups H2 qs (mirrorAll w.toNat (ps.take i)))
      ⟨none, none, [], rfl, Same.new hD, upd_same, ⟨rfl, fun i r p z _ => by simp at z⟩⟩ (fun i σ H2 _ ⟨_, _, _, _, s2, _⟩ => SqL.of (s2 _ _ ha)) ?_ ?_⟩
    · rintro i x σ H2 hi ⟨u, v, qs, rfl, s2, e2, t2⟩
      have hil := (List.getElem?_eq_some_iff.mp hi).1
      obtain ⟨r, hr', rfl⟩ := map_get hi
      obtain ⟨p, hp, er⟩ := ht.get hr'
      obtain ⟨n1, n2⟩ := hn.at hp
      have hil' := (List.getElem?_eq_some_iff.mp hp).1
      refine ⟨r, _, rfl, SqT.of (s2 _ _ er), rfl, _, _, rfl, _, _, rfl, rfl, ?_⟩
      refine ⟨_, rfl, _, _, rfl, rfl, _, rfl, _, _, rfl, rfl, _, rfl, _, _, rfl, rfl, _, rfl, _, _, rfl, rfl, (by show 2 ≤ sizeLine; decide), fun q hq => ?_⟩
      have nqD : q ≠ D := (ne_of_none e2 hq).symm
      have e3 := Same.new (o := .tup [.int (w - 1 - (p.2 : Nat)), .int (w - 1 - (p.1 : Nat))]) hq _ _ e2
      have hql : qs.length = i := by
        rw [t2.1]
        unfold mirrorAll
        rw [List.length_map, List.length_take]
        lia
      refine LcEnd.mk e3 (big' (by rw [List.length_map]; lia)) hil ?_
      refine ⟨_, _, qs ++ [q], rfl, (s2.trans (Same.new hq)).upd hD, ?_, ?_⟩
      · rw [upd_same, List.map_append]
        rfl
      · rw [mirror_take hp]
        refine Tups.snoc ?_ ?_
        · exact (t2.mono (Same.new hq)).keep (tup_keep e3)
        · rw [upd_ne nqD, upd_same]
          have f1 : ((w.toNat - 1 - p.2 : Nat) : Int) = w - 1 - (p.2 : Nat) := by lia
          have f2 : ((w.toNat - 1 - p.1 : Nat) : Int) = w - 1 - (p.1 : Nat) := by lia
          show some (HO.tup [.int _, .int _]) = some (HO.tup [.int ((w.toNat - 1 - p.2 : Nat) : Int), .int ((w.toNat - 1 - p.1 : Nat) : Int)])
          rw [f1, f2]
    · rintro σ H2 ⟨u, v, qs, rfl, s2, e2, t2⟩
      rw [List.length_map, ht.1, List.take_length] at t2
      exact k D H2 (s1.trans s2) (s1.free hD) ⟨qs, e2, t2⟩
end
end PN
namespace PN
open PySem L2
noncomputable def sp_is_rising : Sp := fun vs H Q _ => ∃ (a : Addr) (xs : List Int), vs = [.ref a] ∧ Ints H a xs ∧ xs.length ≤ 1000 ∧ ∀ b : Bool, (b = true ↔ Rising xs) → Q (.bl b) H
section
variable {P : Program} {w : World} {K : PySem.W.Frag} {mg : Str → Option Value} {base : Heap} {t : Adr}
theorem ok_is_rising (T : Txt K mg t) : FnOk P w K mg base CX0 1 t.a_is_rising t.fd_is_rising ["row"] sp_is_rising := by
  refine T.F_is_rising.ok sc_is_rising (fun vs H Q E h => ?_) (fun cdv A outer s H vs Q E hr h => ?_)
  · obtain ⟨a, xs, rfl, _⟩ := h
    rfl
  · obtain ⟨a, xs, rfl, ha, hl, k⟩ := h
    refine ⟨_, (pss_cons (ps_for PassesOwn.never rfl (pi_range1 rfl T.z_range (pa_cons (pe_op op_sub (pe_callB call_len_seq (by rfl) T.z_len PySem.boot_len (pa_cons (pv 0) pa_nil)) pe_int) pa_nil)) (pg_name (i := 1) sc_is_rising.nd rfl (Or.inl rfl))
        (pss_one (ps_if (pt_cmpR op_gt (pe_ix ix_list (pv 0) (pv 1) (fun _ _ => rfl)) (pe_ix ix_list (pv 0) (pe_op op_add (pv 1) pe_int) (fun _ _ => rfl)) (nomark _)) (pss_one (ps_ret pe_bl))
          pss_nil)))
      (pss_one (ps_ret pe_bl))), ?_⟩
    refine ⟨_, rfl, a, _, rfl, .inl (SqL.of ha), _, _, rfl, rfl, _, rfl, by lia, by rw [List.length_map]; lia, for_range (lo := 0) (n := ((((xs.map V.int).length : Nat) : Int) - 1).toNat) (fun i σ H2 => ∃ u : Option V, σ = [some (.ref a), u] ∧ H2 = H ∧ ∀ j, j < i → xs.getD j 0 ≤ xs.getD (j + 1) 0)
      ⟨none, rfl, rfl, fun j hj => by lia⟩ ?_ ?_⟩
    · rintro i σ H2 hi ⟨u, rfl, rfl, hall⟩
      rw [List.length_map] at hi
      have b1 : atI (xs.map V.int) (0 + (i : Int)) = some (.int (xs.getD i 0)) := by rw [Int.zero_add]; exact at_ints (by lia)
      have b2 : atI (xs.map V.int) (0 + (i : Int) + 1) = some (.int (xs.getD (i + 1) 0)) := by rw [Int.zero_add]; exact at_ints (i := i + 1) (by lia)
      refine ⟨_, rfl, _, rfl, a, _, _, _, rfl, rfl, SqL.of ha, b1, _, rfl, _, rfl, _, _, rfl, rfl, a, _, _, _, rfl, rfl, SqL.of ha, b2, _, _, rfl, rfl, _, rfl, ?_⟩
      by_cases c : xs.getD (i + 1) 0 < xs.getD i 0
      · refine iteD c ?_
        refine k false ⟨fun z => (by cases z), fun z => ?_⟩
        have z2 := steps_of_rising z (j := i) (by lia)
        lia
      · refine iteDn c ⟨_, rfl, rfl, fun j hj => ?_⟩
        rcases Nat.lt_succ_iff_lt_or_eq.mp hj with z | z
        · exact hall j z
        · rw [z]
          lia
    · rintro σ H2 ⟨u, rfl, rfl, hall⟩
      rw [List.length_map] at hall
      exact k true ⟨fun _ => rising_of_steps fun j hj => hall j (by lia), fun _ => rfl⟩
end
end PN
namespace PN
open PySem L2
noncomputable def sp_check_trial : Sp := fun vs H Q _ => ∃ (w : Int) (a : Addr) (ps : List Post), vs = [.int w, .ref a] ∧ Posts H a ps ∧ 1 ≤ w ∧ w ≤ 12 ∧ Net w.toNat ps ∧ ∀ H', Same H H' → Q .non H'
noncomputable def sp_bit_rows : Sp := fun vs H Q _ => ∃ (w : Int), vs = [.int w] ∧ 0 ≤ w ∧ w ≤ 12 ∧ ∀ l rs H', Same H H' → H l = none → H' l = some (.lst (rs.map V.ref)) → Lists H' rs (rowsP w.toNat) → Q (.ref l) H'
noncomputable def sp_first_unsorted : Sp := fun vs H Q _ => ∃ (w : Int) (a : Addr) (ps : List Post), vs = [.int w, .ref a] ∧ Posts H a ps ∧ 1 ≤ w ∧ w ≤ 12 ∧ Net w.toNat ps ∧
  (∀ H', Same H H' → firstBad w.toNat ps = none → Q .non H') ∧ ∀ l r H', Same H H' → firstBad w.toNat ps = some r → Ints H' l r → Q (.ref l) H'
noncomputable def sp_sorts : Sp := fun vs H Q _ => ∃ (w : Int) (a : Addr) (ps : List Post), vs = [.int w, .ref a] ∧ Posts H a ps ∧ 1 ≤ w ∧ w ≤ 12 ∧ Net w.toNat ps ∧ ∀ (b : Bool) H', Same H H' → (b = true ↔ firstBad w.toNat ps = none) → Q (.bl b) H'
section
variable {P : Program} {w : World} {K : PySem.W.Frag} {mg : Str → Option Value} {base : Heap} {t : Adr}
theorem ok_check_trial (T : Txt K mg t) : FnOk P w K mg base CX0 2 t.a_check_trial t.fd_check_trial ["width", "posts"] sp_check_trial := by
  have G_check_net : FnOk P w K mg base CX0 1 t.a_check_net t.fd_check_net ["width", "posts"] sp_check_net := ok_check_net T
  refine T.F_check_trial.ok sc_check_trial (fun vs H Q E h => ?_) (fun cdv A outer s H vs Q E hr h => ?_)
  · obtain ⟨w, a, ps, rfl, _⟩ := h
    rfl
  · obtain ⟨w, a, ps, rfl, hP, h1, h2, hn, k⟩ := h
    have hr_check_net := hr
    refine ⟨_, (pss_cons (ps_expr (pe_call G_check_net hr_check_net rfl T.m_check_net T.F_check_net.kp T.b_check_net .nil pass0 (pa_cons (pv 0) (pa_cons (pv 1) pa_nil))))
      (pss_one (ps_if (pt_cmpR op_gt (pv 0) (pe_glob (v := .int 12) rfl T.c_MOST_LANES_TRIED ⟨_, rfl⟩) (nomark _)) (pss_one ps_never)
        pss_nil))), ?_⟩
    refine ⟨_, rfl, _, rfl, w, a, ps, rfl, hP, h1, hn, fun H1 s1 => ?_⟩
    refine ⟨_, rfl, _, _, rfl, rfl, _, rfl, ?_⟩
    refine iteDn (by lia) ?_
    exact k H1 s1
/-- one half: each row of the list at l with a figure ahead -/
theorem half {K : PySem.W.Frag} {l : Addr} {rs : List Addr} {rows : List (List Int)} {H2 : Hp} {fig : Int} {σ : St} {R : Hp → Prop} (D : Addr) (hD : H2 D = none) (el : H2 l = some (.lst (rs.map V.ref))) (hL : Lists H2 rs rows) (hsm : rows.length ≤ 5000) (hw : ∀ r ∈ rows, r.length ≤ 100)
    (fin : ∀ (qs : List Addr) H3, Same H2 H3 → H3 D = some (.lst (qs.map V.ref)) → Lists H3 qs (rows.map fun r => fig :: r) → R H3) :
    ∃ W : Nat → Nat → St → Hp → Prop, (∃ m, W 0 m (lcStart 1 [] σ) (upd H2 D (.lst []))) ∧ ∀ i m σ' H', W i m σ' H' →
      ((Itl K l).stop i H' ∧ R H') ∨ ((Itl K l).go i H' ∧ ∀ x Hy, (Itl K l).yld i H' x Hy → gName 0 x σ' Hy fun σ3 H3 => tOp rCat (tLst (tCons (tC (.int fig)) tNil)) (tVar 0) σ3 H3 fun y H4 => ∃ ys, H4 D = some (.lst ys) ∧ ys.length < sizeLine ∧ ∃ m', m' < m ∧ W (i + 1) m' σ3 (upd H4 D (.lst (ys ++ [y])))) := by
  refine lc_list (K := K) (a := l) (xs := rs.map V.ref) (fun j σ' H3 => ∃ (u : Option V) (qs : List Addr), σ' = [u] ∧ Same H2 H3 ∧ H3 D = some (.lst (qs.map V.ref)) ∧ Lists H3 qs ((rows.take j).map fun r => fig :: r) ∧ ∀ q ∈ qs, q ≠ D)
    ⟨none, [], rfl, Same.new hD, upd_same, ⟨rfl, fun i r p z _ => by simp at z⟩, fun q hq => by simp at hq⟩ (fun i σ' H3 _ ⟨_, _, _, s3, _⟩ => SqL.of (s3 _ _ el)) ?_ ?_
  · rintro j x σ' H3 hj ⟨u, qs, rfl, s3, e3, L3, nD⟩
    have hjl := (List.getElem?_eq_some_iff.mp hj).1
    obtain ⟨r, hr', rfl⟩ := map_get hj
    obtain ⟨row, hrow, er⟩ := hL.get hr'
    have hjr := (List.getElem?_eq_some_iff.mp hrow).1
    have hrl := hw row (List.mem_of_getElem? hrow)
    have er3 := s3 _ _ er
    refine ⟨(by show 1 ≤ sizeLine; decide), fun z hz => ⟨_, rfl, z, r, _, _, rfl, rfl, upd_same, Same.new hz _ _ er3, big (by rw [List.length_map]; show 1 + row.length ≤ 100000; lia), fun q hq => ?_⟩⟩
    have e4 := Same.new (o := .lst ([V.int fig] ++ row.map V.int)) hq _ _ (Same.new (o := .lst [.int fig]) hz _ _ e3)
    have nqD : q ≠ D := (ne_of_none (Same.new (o := .lst [.int fig]) hz _ _ e3) hq).symm
    have hql : qs.length = j := by
      rw [L3.1, List.length_map, List.length_take]
      lia
    refine LcEnd.mk e4 (big' (by rw [List.length_map]; lia)) hjl ⟨_, qs ++ [q], rfl, ((s3.trans (Same.new hz)).trans (Same.new hq)).upd hD, ?_, ?_, ?_⟩
    · rw [upd_same, List.map_append]
      rfl
    · rw [take_snoc hrow, List.map_append]
      refine Lists.snoc ?_ ?_
      · refine L3.mono fun b hb o ob => ?_
        rw [upd_ne (nD b hb)]
        exact Same.new hq _ _ (Same.new hz _ _ ob)
      · show _ = _
        rw [upd_ne nqD, upd_same]
        rfl
    · intro b hb
      rcases List.mem_append.mp hb with hb | hb
      · exact nD b hb
      · rw [List.mem_singleton.mp hb]
        exact nqD
  · rintro σ' H3 ⟨u, qs, rfl, s3, e3, L3, nD⟩
    rw [List.length_map, hL.1, List.take_length] at L3
    exact fin qs H3 s3 e3 L3
theorem ok_bit_rows (T : Txt K mg t) : FnOk P w K mg base CX0 1 t.a_bit_rows t.fd_bit_rows ["width"] sp_bit_rows := by
  refine T.F_bit_rows.ok sc_bit_rows (fun vs H Q E h => ?_) (fun cdv A outer s H vs Q E hr h => ?_)
  · obtain ⟨w, rfl, _⟩ := h
    rfl
  · obtain ⟨w, rfl, h1, h2, k⟩ := h
    refine ⟨_, (pss_cons (ps_set (i := 1) sc_bit_rows.nd rfl (Or.inl rfl) (pe_lst (pa_cons (pe_lst pa_nil) pa_nil)))
      (pss_cons (ps_for PassesOwn.never rfl (pi_range1 rfl T.z_range (pa_cons (pv 0) pa_nil)) (pg_name (i := 2) sc_bit_rows.nd rfl (Or.inl rfl))
        (pss_one (ps_set (i := 1) sc_bit_rows.nd rfl (Or.inl rfl) (pe_op op_cat (pe_lc rfl rfl (pi_list (pv 1)) (by rfl) (LcFree.nil (N := ["row"]) [(".0", .local), ("row", .local)] rfl rfl (by decide +kernel)) rfl (by decide +kernel) (by decide +kernel) (fun _ _ _ _ => (pg_name (i := 0) (show (["row"] : List Str).Nodup by decide +kernel) rfl (Or.inl rfl))) (fun _ _ _ _ => (pe_op op_cat (pe_lst (pa_const pe_int pa_nil)) (pv 0)))) (pe_lc rfl rfl (pi_list (pv 1)) (by rfl) (LcFree.nil (N := ["row"]) [(".0", .local), ("row", .local)] rfl rfl (by decide +kernel)) rfl (by decide +kernel) (by decide +kernel) (fun _ _ _ _ => (pg_name (i := 0) (show (["row"] : List Str).Nodup by decide +kernel) rfl (Or.inl rfl))) (fun _ _ _ _ => (pe_op op_cat (pe_lst (pa_const pe_int pa_nil)) (pv 0))))))))
      (pss_one (ps_ret (pv 1))))), ?_⟩
    refine ⟨Nat.zero_le _, fun e0 he0 => ⟨(by show 1 ≤ sizeLine; decide), fun l0 hl0 => ?_⟩⟩
    have hl0' : H l0 = none := (Same.new (o := .lst []) he0).free hl0
    refine ⟨_, rfl, w, rfl, by lia, by lia, for_range (lo := 0) (n := w.toNat) (fun i σ H2 => ∃ (u : Option V) (l : Addr) (rs : List Addr), σ = [some (.int w), some (.ref l), u] ∧ Same H H2 ∧ H l = none ∧ H2 l = some (.lst (rs.map V.ref)) ∧ Lists H2 rs (rowsP i))
      ⟨none, l0, [e0], rfl, (Same.new he0).trans (Same.new hl0), hl0', upd_same, ⟨rfl, fun i r row a b => ?_⟩⟩ ?_ ?_⟩
    · match i, a, b with
      | 0, a, b =>
        cases a
        cases b
        exact Same.new hl0 _ _ upd_same
      | n + 1, a, b => simp at a
    · rintro i σ H2 hi ⟨u, l, rs, rfl, s2, nl, el, hL⟩
      have hpow := two_pow_le (i := i + 1) (by lia)
      have hpi := rowsP_length i
      rw [Nat.pow_succ] at hpow
      have hsm : (rowsP i).length ≤ 5000 := by lia
      have hrw : ∀ r ∈ rowsP i, r.length ≤ 100 := fun r hr => by rw [rowsP_row i r hr]; lia
      refine ⟨_, rfl, l, rfl, ⟨_, SqL.of el⟩, fun D1 hD1 => half (K := K) D1 hD1 el hL hsm hrw fun q1 H3 s3 e3 L3 => ?_⟩
      refine ⟨_, rfl, l, rfl, ⟨_, SqL.of (s3 _ _ el)⟩, fun D2 hD2 => half (K := K) D2 hD2 (s3 _ _ el) (hL.mono fun b _ o z => s3 _ _ z) hsm hrw fun q2 H4 s4 e4 L4 => ?_⟩
      have hq1 : q1.length = 2 ^ i := by rw [L3.1, List.length_map, rowsP_length]
      have hq2 : q2.length = 2 ^ i := by rw [L4.1, List.length_map, rowsP_length]
      refine ⟨D1, D2, _, _, rfl, rfl, s4 _ _ e3, e4, big (by rw [List.length_map, List.length_map]; lia), fun p hp => ?_⟩
      have s24 := s3.trans s4
      refine ⟨_, p, q1 ++ q2, rfl, (s2.trans s24).trans (Same.new hp), s2.free (s24.free hp), ?_, ?_⟩
      · rw [upd_same, List.map_append]
      · exact (Lists.app (L3.mono fun b _ o z => s4 _ _ z) L4).mono fun b _ o z => Same.new hp _ _ z
    · rintro σ H2 ⟨u, l, rs, rfl, s2, nl, el, hL⟩
      exact ⟨_, rfl, k l rs H2 s2 nl el hL⟩
theorem ok_first_unsorted (T : Txt K mg t) : FnOk P w K mg base CX0 3 t.a_first_unsorted t.fd_first_unsorted ["width", "posts"] sp_first_unsorted := by
  have G_check_trial : FnOk P w K mg base CX0 2 t.a_check_trial t.fd_check_trial ["width", "posts"] sp_check_trial := ok_check_trial T
  have G_bit_rows : FnOk P w K mg base CX0 1 t.a_bit_rows t.fd_bit_rows ["width"] sp_bit_rows := ok_bit_rows T
  have G_is_rising : FnOk P w K mg base CX0 1 t.a_is_rising t.fd_is_rising ["row"] sp_is_rising := ok_is_rising T
  have G_passed : FnOk P w K mg base CX0 2 t.a_passed t.fd_passed ["posts", "row"] sp_passed := ok_passed T
  refine T.F_first_unsorted.ok sc_first_unsorted (fun vs H Q E h => ?_) (fun cdv A outer s H vs Q E hr h => ?_)
  · obtain ⟨w, a, ps, rfl, _⟩ := h
    rfl
  · obtain ⟨w, a, ps, rfl, hP, h1, h2, hn, kn, ks⟩ := h
    have hr_check_trial := hr
    have hr_bit_rows := hr.mono (j := 1) (by decide)
    have hr_is_rising := hr.mono (j := 1) (by decide)
    have hr_passed := hr
    refine ⟨_, (pss_cons (ps_expr (pe_call G_check_trial hr_check_trial rfl T.m_check_trial T.F_check_trial.kp T.b_check_trial .nil pass0 (pa_cons (pv 0) (pa_cons (pv 1) pa_nil))))
      (pss_cons (ps_for PassesOwn.never rfl (pi_list (pe_call G_bit_rows hr_bit_rows rfl T.m_bit_rows T.F_bit_rows.kp T.b_bit_rows .nil pass0 (pa_cons (pv 0) pa_nil))) (pg_name (i := 2) sc_first_unsorted.nd rfl (Or.inl rfl))
        (pss_one (ps_if (pt_not (pt_val (pe_call G_is_rising hr_is_rising rfl T.m_is_rising T.F_is_rising.kp T.b_is_rising .nil pass0 (pa_cons (pe_call G_passed hr_passed rfl T.m_passed T.F_passed.kp T.b_passed .nil pass0 (pa_cons (pv 1) (pa_cons (pv 2) pa_nil))) pa_nil)))) (pss_one (ps_ret (pv 2)))
          pss_nil)))
      (pss_one (ps_ret pe_non)))), ?_⟩
    refine ⟨_, rfl, _, rfl, w, a, ps, rfl, hP, h1, h2, hn, fun H1 s1 => ?_⟩
    refine ⟨_, rfl, w, rfl, by lia, h2, fun l rs H2 s2 nl el hL => ?_⟩
    have s12 := s1.trans s2
    have hP2 := hP.mono s12
    refine ⟨l, rfl, ⟨_, SqL.of el⟩, for_list (K := K) (a := l) (xs := rs.map V.ref) (fun i σ H3 => ∃ u : Option V, σ = [some (.int w), some (.ref a), u] ∧ Same H2 H3 ∧ ((rowsP w.toNat).take i).find? (badB ps) = none)
      ⟨none, rfl, Same.refl _, rfl⟩ (fun i σ H3 _ ⟨_, _, s3, _⟩ => SqL.of (s3 _ _ el)) ?_ ?_⟩
    · rintro i x σ H3 hi ⟨u, rfl, s3, hf⟩
      obtain ⟨r, hr', rfl⟩ := map_get hi
      obtain ⟨row, hrow, er⟩ := hL.get hr'
      have hrl := rowsP_row w.toNat row (List.mem_of_getElem? hrow)
      refine ⟨_, rfl, _, rfl, a, r, ps, row, rfl, hP2.mono s3, s3 _ _ er, by rw [hrl]; exact hn, fun lp H4 s4 n4 e4 => ⟨lp, passAll ps row, rfl, e4, by rw [passAll_length]; lia, fun b hb => ⟨_, rfl, ?_⟩⟩⟩
      have s24 := s3.trans s4
      cases b with
      | true =>
        refine iteF ⟨_, rfl, s24, find_snoc hrow hf ?_⟩
        unfold badB
        rw [decide_eq_true (hb.mp rfl)]
        rfl
      | false =>
        refine iteT ⟨_, rfl, ks r row H4 (s12.trans s24) (find_here hrow hf ?_) (s24 _ _ er)⟩
        unfold badB
        rw [decide_eq_false (fun z => by have := hb.mpr z; cases this)]
        rfl
    · rintro σ H3 ⟨u, rfl, s3, hf⟩
      rw [List.length_map, hL.1, List.take_length] at hf
      exact kn H3 (s12.trans s3) hf
theorem ok_sorts (T : Txt K mg t) : FnOk P w K mg base CX0 4 t.a_sorts t.fd_sorts ["width", "posts"] sp_sorts := by
  have G_first_unsorted : FnOk P w K mg base CX0 3 t.a_first_unsorted t.fd_first_unsorted ["width", "posts"] sp_first_unsorted := ok_first_unsorted T
  refine T.F_sorts.ok sc_sorts (fun vs H Q E h => ?_) (fun cdv A outer s H vs Q E hr h => ?_)
  · obtain ⟨w, a, ps, rfl, _⟩ := h
    rfl
  · obtain ⟨w, a, ps, rfl, hP, h1, h2, hn, k⟩ := h
    have hr_first_unsorted := hr
    refine ⟨_, (pss_one (ps_ret (pe_cmp (pc_isN (pe_call G_first_unsorted hr_first_unsorted rfl T.m_first_unsorted T.F_first_unsorted.kp T.b_first_unsorted .nil pass0 (pa_cons (pv 0) (pa_cons (pv 1) pa_nil))))))), ?_⟩
    refine ⟨_, rfl, _, rfl, w, a, ps, rfl, hP, h1, h2, hn, fun H' s' e => ?_, fun l r H' s' e el => ?_⟩
    · exact k (decide (V.non = V.non)) H' s' ⟨fun _ => e, fun _ => by decide⟩
    · exact k (decide (V.ref l = V.non)) H' s' ⟨fun z => by simp at z, fun z => by rw [e] at z; cases z⟩
end
end PN
namespace PN
open PySem L2
/-! ### what the program's own functions promise -/
noncomputable def sp_built : Sp := fun vs H Q _ => ∃ (w : Int), vs = [.int w] ∧ 1 ≤ w ∧ w ≤ 31 ∧ ∀ l H', Same H H' → H l = none → Posts H' l (byHalves w.toNat) → Q (.ref l) H'
noncomputable def sp_plain : Sp := fun vs H Q _ => ∃ (w : Int), vs = [.int w] ∧ 1 ≤ w ∧ w ≤ 31 ∧ ∀ l H', Same H H' → H l = none → Posts H' l (plainFrom (w.toNat - 1)) → Q (.ref l) H'
end PN
namespace PN
open PySem L2
noncomputable def sp_merging (f : Nat) : Sp := fun vs H Q _ => ∃ (a j m : Nat), vs = [.int (a : Nat), .int ((2 ^ m : Nat) : Int), .int ((2 ^ j : Nat) : Int)] ∧ m = j + f ∧ 1 ≤ f ∧ m ≤ 5 ∧ a ≤ 31 + 2 ^ j ∧ ∀ l H', Same H H' → H l = none → Posts H' l (mergedP f a (2 ^ m) (2 ^ j)) → Q (.ref l) H'
noncomputable def sp_halvesP (d : Nat) : Sp := fun vs H Q _ => ∃ (a : Nat), vs = [.int (a : Nat), .int ((2 ^ d : Nat) : Int)] ∧ d ≤ 5 ∧ a + 2 ^ d ≤ 32 ∧ ∀ l H', Same H H' → H l = none → Posts H' l (hvA d a) → Q (.ref l) H'
theorem rungsN_length (a s k : Nat) : (rungsN a s k).length = k := by
  unfold rungsN
  rw [List.length_map, List.length_range]
section
variable {P : Program} {w : World} {K : PySem.W.Frag} {mg : Str → Option Value} {base : Heap} {t : Adr}
theorem ok_merging (T : Txt K mg t) : ∀ f, FnOk P w K mg base CX0 (f + 1) t.a_merging t.fd_merging ["first", "count", "step"] (sp_merging f)
  | 0 => by
    refine T.F_merging.ok sc_merging (fun vs H Q E h => ?_) (fun cdv A outer s H vs Q E hr h => ?_)
    · obtain ⟨a, j, m, rfl, _⟩ := h
      rfl
    · obtain ⟨a, j, m, rfl, _, h1, _⟩ := h
      lia
  | f + 1 => by
    have G_merging := ok_merging T f
    refine T.F_merging.ok sc_merging (fun vs H Q E h => ?_) (fun cdv A outer s H vs Q E hr h => ?_)
    · obtain ⟨a, j, m, rfl, _⟩ := h
      rfl
    · obtain ⟨a, j, m, rfl, em, h1, h5, ha, k⟩ := h
      have hr_merging := hr
      refine ⟨_, (pss_cons (ps_if (pt_cmpR op_ge (pe_op op_mul pe_int (pv 2)) (pv 1) (nomark _)) (pss_one (ps_ret (pe_lst (pa_cons (pe_tup (pa_cons (pv 0) (pa_cons (pe_op op_add (pv 0) (pv 2)) pa_nil))) pa_nil))))
        pss_nil)
      (pss_cons (ps_set (i := 3) sc_merging.nd rfl (Or.inl rfl) (pe_call G_merging hr_merging rfl T.m_merging T.F_merging.kp T.b_merging .nil pass0 (pa_cons (pv 0) (pa_cons (pv 1) (pa_cons (pe_op op_mul pe_int (pv 2)) pa_nil)))))
      (pss_cons (ps_set (i := 4) sc_merging.nd rfl (Or.inl rfl) (pe_call G_merging hr_merging rfl T.m_merging T.F_merging.kp T.b_merging .nil pass0 (pa_cons (pe_op op_add (pv 0) (pv 2)) (pa_cons (pv 1) (pa_cons (pe_op op_mul pe_int (pv 2)) pa_nil)))))
      (pss_cons (ps_setLc (i := 5) sc_merging.nd rfl (Or.inl rfl) (by rfl) rfl rfl (pi_rangeS rfl T.z_range (pa_cons (pe_op op_add (pv 0) (pv 2)) (pa_cons (pe_op op_sub (pe_op op_add (pv 0) (pv 1)) (pv 2)) (pa_cons (pe_op op_mul pe_int (pv 2)) pa_nil)))) (by rfl) (LcFree.one (N := ["lane", "step"]) (k := 2) [(".0", .local), ("lane", .local), ("step", .cell)] rfl rfl rfl rfl rfl (by rfl) (by decide +kernel) (by decide +kernel)) rfl (by decide +kernel) (by decide +kernel) (fun _ _ _ _ => (pg_name (i := 0) (show (["lane", "step"] : List Str).Nodup by decide +kernel) rfl (Or.inl rfl))) (fun _ _ _ _ => (pe_tup (pa_cons (pv 0) (pa_cons (pe_op op_add (pv 0) (pv 1)) pa_nil)))))
      (pss_one (ps_ret (pe_op op_cat (pe_op op_cat (pv 3) (pv 4)) (pv 5)))))))), ?_⟩
      have hc : 2 ^ m ≤ 2 ^ 5 := Nat.pow_le_pow_right (by decide) h5
      have hj1 : 2 ^ (j + 1) ≤ 2 ^ m := Nat.pow_le_pow_right (by decide) (by lia)
      have es : 2 * 2 ^ j = 2 ^ (j + 1) := by rw [Nat.pow_succ]; lia
      have hs1 : 1 ≤ 2 ^ j := Nat.one_le_two_pow
      have eg : 2 ^ m = 2 * 2 ^ j * 2 ^ f := by rw [em, Nat.pow_add, Nat.pow_succ, Nat.mul_comm (2 ^ f) 2, ← Nat.mul_assoc, Nat.mul_comm (2 ^ j) 2]
      have e2 : (2 : Int) * ((2 ^ j : Nat) : Int) = ((2 ^ (j + 1) : Nat) : Int) := by rw [← es, Int.natCast_mul]; rfl
      refine ⟨_, rfl, _, _, rfl, rfl, .inl ⟨by decide, by decide⟩, _, rfl, _, _, rfl, rfl, _, rfl, ?_⟩
      by_cases c0 : f = 0
      · subst c0
        have e3 : 2 ^ m = 2 ^ (j + 1) := by rw [em]
        refine iteD (by rw [e2, e3]; exact Int.le_refl _) ?_
        refine ⟨_, rfl, _, rfl, _, rfl, _, _, rfl, rfl, (by show 2 ≤ sizeLine; decide), fun q hq => ⟨(by show 1 ≤ sizeLine; decide), fun l hl => ?_⟩⟩
        refine k l _ ((Same.new hq).trans (Same.new hl)) ((Same.new (o := .tup [.int (a : Nat), .int ((a : Int) + ((2 ^ j : Nat) : Int))]) hq).free hl) ⟨[q], upd_same, ?_⟩
        have em1 : mergedP (0 + 1) a (2 ^ m) (2 ^ j) = [(a, a + 2 ^ j)] := by
          show (if 2 ^ m ≤ 2 * 2 ^ j then [(a, a + 2 ^ j)] else _) = _
          rw [if_pos (by lia)]
        rw [em1]
        refine ⟨rfl, fun i r p u v => ?_⟩
        match i, u, v with
        | 0, u, v =>
          cases u
          cases v
          exact Same.new hl _ _ upd_same
        | n + 1, u, v => simp at u
      · have hf1 : 2 ≤ 2 ^ f := by
          have := Nat.pow_le_pow_right (n := 2) (by decide) (show 1 ≤ f by lia)
          lia
        have hlt : 2 * 2 ^ j < 2 ^ m := by
          have h2 : 2 ^ (j + 1) < 2 ^ m := Nat.pow_lt_pow_right (by decide) (by lia)
          lia
        have hj16 : 2 ^ j ≤ 16 := by lia
        refine iteDn (by lia) ?_
        refine ⟨_, rfl, _, rfl, _, rfl, _, _, rfl, rfl, .inl ⟨by decide, by decide⟩, a, j + 1, m, ?_, by lia, by lia, h5, by lia, fun l1 H1 s1 n1 hP1 => ?_⟩
        · show [V.int _, V.int _, V.int ((2 : Int) * ((2 ^ j : Nat) : Int))] = _
          rw [e2]
        refine ⟨_, rfl, _, rfl, _, _, rfl, rfl, _, rfl, _, rfl, _, _, rfl, rfl, .inl ⟨by decide, by decide⟩, a + 2 ^ j, j + 1, m, ?_, by lia, by lia, h5, by lia, fun l2 H2 s2 n2 hP2 => ?_⟩
        · show [V.int ((a : Int) + ((2 ^ j : Nat) : Int)), V.int _, V.int ((2 : Int) * ((2 ^ j : Nat) : Int))] = _
          rw [e2, ← Int.natCast_add]
        obtain ⟨r1, a1, t1⟩ := hP1.mono s2
        obtain ⟨r2, a2, t2⟩ := hP2
        have b1 := merged_length f a (2 ^ m) (2 ^ (j + 1)) (by lia)
        have b2 := merged_length f (a + 2 ^ j) (2 ^ m) (2 ^ (j + 1)) (by lia)
        have hf5 : 2 ^ f ≤ 2 ^ 5 := Nat.pow_le_pow_right (by decide) (by lia)
        have z1 := t1.1
        have z2 := t2.1
        have emer : mergedP (f + 1) a (2 ^ m) (2 ^ j) = mergedP f a (2 ^ m) (2 ^ (j + 1)) ++ mergedP f (a + 2 ^ j) (2 ^ m) (2 ^ (j + 1)) ++ rungsN a (2 ^ j) (2 ^ f - 1) := by
          show (if 2 ^ m ≤ 2 * 2 ^ j then _ else mergedP f a (2 ^ m) (2 * 2 ^ j) ++ mergedP f (a + 2 ^ j) (2 ^ m) (2 * 2 ^ j) ++ rungs a (2 ^ m) (2 ^ j)) = _
          rw [if_neg (by lia), es]
          have ediv : 2 ^ m / (2 * 2 ^ j) = 2 ^ f := by
            rw [eg]
            exact Nat.mul_div_cancel_left _ (by lia)
          unfold rungs rungsN
          rw [ediv]
        rw [emer] at k
        have hnum : (if (a : Int) + ((2 ^ j : Nat) : Int) < (a : Int) + ((2 ^ m : Nat) : Int) - ((2 ^ j : Nat) : Int) then ((a : Int) + ((2 ^ m : Nat) : Int) - ((2 ^ j : Nat) : Int) - ((a : Int) + ((2 ^ j : Nat) : Int)) - 1) / ((2 : Int) * ((2 ^ j : Nat) : Int)) + 1 else 0) = (((2 ^ f - 1 : Nat)) : Int) := by
          generalize hs : 2 ^ j = s at *
          generalize hcc : 2 ^ m = c at *
          generalize hgg : 2 ^ f = g at *
          rw [if_pos (by lia)]
          have q : ((a : Int) + (c : Int) - (s : Int) - ((a : Int) + (s : Int)) - 1) / ((2 : Int) * (s : Int)) = ((g - 2 : Nat) : Int) := by
            obtain ⟨g', rfl⟩ : ∃ g', g = g' + 2 := ⟨g - 2, by lia⟩
            have e : (a : Int) + (c : Int) - (s : Int) - ((a : Int) + (s : Int)) - 1 = (2 * (s : Int) - 1) + (2 * (s : Int)) * (g' : Int) := by
              have e3 : (c : Int) = 2 * (s : Int) * (g' : Int) + 2 * (2 * (s : Int)) := by
                rw [eg, Nat.mul_add]
                push_cast
                lia
              lia
            rw [e, Int.add_mul_ediv_left _ _ (by lia), Int.ediv_eq_zero_of_lt (by lia) (by lia)]
            lia
          rw [q]
          lia
        have hp1 := hP1.mono s2
        refine ⟨_, rfl, _, rfl, _, _, rfl, rfl, _, rfl, _, rfl, _, _, rfl, rfl, _, rfl, _, _, rfl, rfl, _, rfl, _, _, rfl, rfl, .inl ⟨by decide, by decide⟩, _, _, _, 2 ^ f - 1, rfl, ⟨by lia, by lia, by lia, by lia, by lia, by lia⟩, hnum, fun D hD => lc_step (fun i σ3 H3 => ∃ (u : Option V) (qs : List Addr), σ3 = [u, some (.int ((2 ^ j : Nat) : Int))] ∧ Same H2 H3 ∧ H3 D = some (.lst (qs.map V.ref)) ∧ Tups H3 qs (rungsN a (2 ^ j) i))
          ⟨none, [], rfl, Same.new hD, upd_same, ⟨rfl, fun i r p u v => by simp at u⟩⟩ ?_ ?_⟩
        · rintro i σ3 H3 hi ⟨u, qs, rfl, s3, e3, t3⟩
          have hql : qs.length = i := by rw [t3.1, rungsN_length]
          refine ⟨_, rfl, _, rfl, _, rfl, _, _, rfl, rfl, (by show 2 ≤ sizeLine; decide), fun q hq => ?_⟩
          have nqD : q ≠ D := (ne_of_none e3 hq).symm
          have e4 := Same.new (o := .tup [.int ((a : Int) + ((2 ^ j : Nat) : Int) + (i : Nat) * ((2 : Int) * ((2 ^ j : Nat) : Int))), .int ((a : Int) + ((2 ^ j : Nat) : Int) + (i : Nat) * ((2 : Int) * ((2 ^ j : Nat) : Int)) + ((2 ^ j : Nat) : Int))]) hq _ _ e3
          refine LcEnd.mk e4 (big' (by rw [List.length_map]; lia)) hi ⟨_, qs ++ [q], rfl, (s3.trans (Same.new hq)).upd hD, ?_, ?_⟩
          · rw [upd_same, List.map_append]
            rfl
          · rw [rungsN_succ]
            refine Tups.snoc ((t3.mono (Same.new hq)).keep (tup_keep e4)) ?_
            rw [upd_ne nqD, upd_same]
            generalize 2 ^ j = s
            have f1 : (a : Int) + (s : Int) + (i : Nat) * ((2 : Int) * (s : Int)) = ((a + s + 2 * s * i : Nat) : Int) := by
              push_cast
              rw [Int.mul_comm (i : Int)]
            have f2 : ((a + s + 2 * s * i : Nat) : Int) + (s : Int) = ((a + s + 2 * s * i + s : Nat) : Int) := by push_cast; rfl
            show some (HO.tup [.int ((a : Int) + (s : Int) + (i : Nat) * ((2 : Int) * (s : Int))), .int ((a : Int) + (s : Int) + (i : Nat) * ((2 : Int) * (s : Int)) + (s : Int))]) = some (HO.tup [.int ((a + s + 2 * s * i : Nat) : Int), .int ((a + s + 2 * s * i + s : Nat) : Int)])
            rw [f1, f2]
        · rintro σ3 H3 ⟨u, qs, rfl, s3, e3, t3⟩
          have z3 := t3.1
          rw [rungsN_length] at z3
          refine ⟨_, rfl, _, rfl, l1, l2, _, _, rfl, rfl, s3 _ _ a1, s3 _ _ a2, big (by rw [List.length_map, List.length_map]; lia), fun l3 hl3 => ?_⟩
          have e5 : (upd H3 l3 (.lst (r1.map V.ref ++ r2.map V.ref))) l3 = some (.lst ((r1 ++ r2).map V.ref)) := by rw [upd_same, List.map_append]
          refine ⟨_, rfl, l3, D, _, _, rfl, rfl, e5, Same.new hl3 _ _ e3, big (by rw [List.length_map, List.length_map, List.length_append]; lia), fun l4 hl4 => ?_⟩
          have S3 : Same H H3 := (s1.trans s2).trans s3
          refine k l4 _ ((S3.trans (Same.new hl3)).trans (Same.new hl4)) (S3.free ((Same.new (o := .lst (r1.map V.ref ++ r2.map V.ref)) hl3).free hl4)) ⟨r1 ++ r2 ++ qs, by rw [upd_same]; simp only [List.map_append], ?_⟩
          exact (Tups.app ((Tups.app t1 t2).mono s3) t3).mono ((Same.new hl3).trans (Same.new hl4))
theorem ok_by_halves (T : Txt K mg t) : ∀ d, FnOk P w K mg base CX0 (d + 2) t.a_by_halves t.fd_by_halves ["first", "count"] (sp_halvesP d)
  | 0 => by
    have G_merging := ok_merging (P := P) (w := w) (base := base) T 0
    have G_by_halves : FnOk P w K mg base CX0 1 t.a_by_halves t.fd_by_halves ["first", "count"] (fun _ _ _ _ => False) := by
      exact T.F_by_halves.ok sc_by_halves (fun vs H Q E h => h.elim) (fun cdv A outer s H vs Q E hr h => h.elim)
    refine T.F_by_halves.ok sc_by_halves (fun vs H Q E h => ?_) (fun cdv A outer s H vs Q E hr h => ?_)
    · obtain ⟨a, rfl, _⟩ := h
      rfl
    · obtain ⟨a, rfl, h5, ha, k⟩ := h
      have hr_merging := hr
      have hr_by_halves := hr
      refine ⟨_, (pss_cons (ps_if (pt_cmpR op_eq (pv 1) pe_int (nomark _)) (pss_one (ps_ret (pe_lst pa_nil)))
        pss_nil)
      (pss_cons (ps_set (i := 2) sc_by_halves.nd rfl (Or.inl rfl) (pe_op op_fdiv (pv 1) pe_int))
      (pss_one (ps_ret (pe_op op_cat (pe_op op_cat (pe_call G_by_halves hr_by_halves rfl T.m_by_halves T.F_by_halves.kp T.b_by_halves .nil pass0 (pa_cons (pv 0) (pa_cons (pv 2) pa_nil))) (pe_call G_by_halves hr_by_halves rfl T.m_by_halves T.F_by_halves.kp T.b_by_halves .nil pass0 (pa_cons (pe_op op_add (pv 0) (pv 2)) (pa_cons (pv 2) pa_nil)))) (pe_call G_merging hr_merging rfl T.m_merging T.F_merging.kp T.b_merging .nil pass0 (pa_cons (pv 0) (pa_cons (pv 1) (pa_const pe_int pa_nil))))))))), ?_⟩
      refine ⟨_, rfl, rfl, _, rfl, ?_⟩
      refine iteD (by rfl) ?_
      exact ⟨Nat.zero_le _, fun l hl => k l _ (Same.new hl) hl ⟨[], upd_same, ⟨rfl, fun i r p u v => by simp at u⟩⟩⟩
  | d + 1 => by
    have G_merging := ok_merging (P := P) (w := w) (base := base) T (d + 1)
    have G_by_halves := ok_by_halves T d
    refine T.F_by_halves.ok sc_by_halves (fun vs H Q E h => ?_) (fun cdv A outer s H vs Q E hr h => ?_)
    · obtain ⟨a, rfl, _⟩ := h
      rfl
    · obtain ⟨a, rfl, h5, ha, k⟩ := h
      have hr_merging := hr
      have hr_by_halves := hr
      refine ⟨_, (pss_cons (ps_if (pt_cmpR op_eq (pv 1) pe_int (nomark _)) (pss_one (ps_ret (pe_lst pa_nil)))
        pss_nil)
      (pss_cons (ps_set (i := 2) sc_by_halves.nd rfl (Or.inl rfl) (pe_op op_fdiv (pv 1) pe_int))
      (pss_one (ps_ret (pe_op op_cat (pe_op op_cat (pe_call G_by_halves hr_by_halves rfl T.m_by_halves T.F_by_halves.kp T.b_by_halves .nil pass0 (pa_cons (pv 0) (pa_cons (pv 2) pa_nil))) (pe_call G_by_halves hr_by_halves rfl T.m_by_halves T.F_by_halves.kp T.b_by_halves .nil pass0 (pa_cons (pe_op op_add (pv 0) (pv 2)) (pa_cons (pv 2) pa_nil)))) (pe_call G_merging hr_merging rfl T.m_merging T.F_merging.kp T.b_merging .nil pass0 (pa_cons (pv 0) (pa_cons (pv 1) (pa_const pe_int pa_nil))))))))), ?_⟩
      have hp : 2 ≤ 2 ^ (d + 1) := by
        have := Nat.one_le_two_pow (n := d)
        rw [Nat.pow_succ]
        lia
      have hpd : 2 ^ (d + 1) = 2 ^ d + 2 ^ d := by rw [Nat.pow_succ]; lia
      have eh : ((2 ^ (d + 1) : Nat) : Int) / 2 = ((2 ^ d : Nat) : Int) := by rw [Nat.pow_succ]; lia
      refine ⟨_, rfl, rfl, _, rfl, ?_⟩
      refine iteDn (by intro z; have := V.int.inj z; lia) ?_
      refine ⟨_, rfl, _, _, rfl, rfl, ⟨by decide, by decide⟩, ?_⟩
      dsimp only [gName]
      rw [eh]
      refine ⟨_, rfl, _, rfl, a, rfl, by lia, by lia, fun l1 H1 s1 n1 hP1 => ?_⟩
      refine ⟨_, rfl, _, rfl, _, _, rfl, rfl, _, rfl, a + 2 ^ d, ?_, by lia, by lia, fun l2 H2 s2 n2 hP2 => ?_⟩
      · show [V.int ((a : Int) + ((2 ^ d : Nat) : Int)), V.int _] = _
        rw [← Int.natCast_add]
      obtain ⟨r1, a1, t1⟩ := hP1.mono s2
      obtain ⟨r2, a2, t2⟩ := hP2
      have b1 := hvA_length d a (by lia)
      have b2 := hvA_length d (a + 2 ^ d) (by lia)
      have hd4 : 2 ^ d ≤ 2 ^ 4 := Nat.pow_le_pow_right (by decide) (by lia)
      have z1 := t1.1
      have z2 := t2.1
      refine ⟨l1, l2, _, _, rfl, rfl, a1, a2, big (by rw [List.length_map, List.length_map]; lia), fun l3 hl3 => ?_⟩
      have S3 : Same H (upd H2 l3 (.lst (r1.map V.ref ++ r2.map V.ref))) := (s1.trans s2).trans (Same.new hl3)
      have e3 : (upd H2 l3 (.lst (r1.map V.ref ++ r2.map V.ref))) l3 = some (.lst ((r1 ++ r2).map V.ref)) := by rw [upd_same, List.map_append]
      have t3 := (Tups.app t1 t2).mono (Same.new (o := .lst (r1.map V.ref ++ r2.map V.ref)) hl3)
      generalize upd H2 l3 (.lst (r1.map V.ref ++ r2.map V.ref)) = H3 at S3 e3 t3 ⊢
      refine ⟨_, rfl, _, rfl, a, 0, d + 1, rfl, by lia, by lia, h5, by lia, fun l4 H4 s4 n4 hP4 => ?_⟩
      obtain ⟨r4, a4, t4⟩ := hP4
      have hd5 : 2 ^ (d + 1) ≤ 2 ^ 5 := Nat.pow_le_pow_right (by decide) h5
      have b4 := merged_length (d + 1) a (2 ^ (d + 1)) (2 ^ 0) (by lia)
      have z4 := t4.1
      have z3 : (r1 ++ r2).length ≤ 70000 := by rw [List.length_append]; lia
      refine ⟨l3, l4, _, _, rfl, rfl, s4 _ _ e3, a4, big (by rw [List.length_map, List.length_map]; lia), fun l5 hl5 => ?_⟩
      refine k l5 _ ((S3.trans s4).trans (Same.new hl5)) (S3.free (s4.free hl5)) ⟨r1 ++ r2 ++ r4, by rw [upd_same]; simp only [List.map_append], ?_⟩
      exact (Tups.app (t3.mono s4) t4).mono (Same.new hl5)
theorem ok_built (T : Txt K mg t) : FnOk P w K mg base CX0 8 t.a_built t.fd_built ["width"] sp_built := by
  have G_check_net : FnOk P w K mg base CX0 1 t.a_check_net t.fd_check_net ["width", "posts"] sp_check_net := ok_check_net T
  have H_halves := fun d => ok_by_halves (P := P) (w := w) (base := base) T d
  refine T.F_built.ok sc_built (fun vs H Q E h => ?_) (fun cdv A outer s H vs Q E hr h => ?_)
  · obtain ⟨w, rfl, _⟩ := h
    rfl
  · obtain ⟨w, rfl, h1, h2, k⟩ := h
    have hlg := lg_le w.toNat
    have G_by_halves := H_halves (lg w.toNat)
    have hr_by_halves := hr.mono (j := lg w.toNat + 2) (by lia)
    have hr_check_net := hr.mono (j := 1) (by lia)
    refine ⟨_, (pss_cons (ps_expr (pe_call G_check_net hr_check_net rfl T.m_check_net T.F_check_net.kp T.b_check_net .nil pass0 (pa_cons (pv 0) (pa_cons (pe_lst pa_nil) pa_nil))))
      (pss_cons (ps_set (i := 1) sc_built.nd rfl (Or.inl rfl) pe_int)
      (pss_cons (ps_while PassesOwn.never (pt_cmpR op_lt (pv 1) (pv 0) (nomark _)) (pss_one (ps_set (i := 1) sc_built.nd rfl (Or.inl rfl) (pe_op op_mul pe_int (pv 1)))))
      (pss_one (ps_ret (pe_lcI rfl rfl (pi_list (pe_call G_by_halves hr_by_halves rfl T.m_by_halves T.F_by_halves.kp T.b_by_halves .nil pass0 (pa_const pe_int (pa_cons (pv 1) pa_nil)))) (by rfl) (LcFree.one (N := ["low", "high", "width"]) (k := 0) [(".0", .local), ("low", .local), ("high", .local), ("width", .cell)] rfl rfl rfl rfl rfl (by rfl) (by decide +kernel) (by decide +kernel)) rfl (by decide +kernel) (by decide +kernel) (fun _ _ _ _ => (pg_tupK (K := K) rfl rfl (n := 2) (pgs_cons (pg_name (i := 0) (show (["low", "high", "width"] : List Str).Nodup by decide +kernel) rfl (Or.inl rfl)) (pgs_cons (pg_name (i := 1) (show (["low", "high", "width"] : List Str).Nodup by decide +kernel) rfl (Or.inl rfl)) pgs_nil)))) (fun _ _ _ _ => (pt_cmpR op_lt (pv 1) (pv 2) (nomark _))) (fun _ _ _ _ => (pe_tup (pa_cons (pv 0) (pa_cons (pv 1) pa_nil)))))))))), ?_⟩
    refine ⟨_, rfl, Nat.zero_le _, fun l0 hl0 => ⟨w, l0, [], rfl, ⟨[], upd_same, ⟨rfl, fun i r p u v => by simp at u⟩⟩, h1, (fun p hp => by cases hp), fun H0 s0 => ?_⟩⟩
    have S0 : Same H H0 := (Same.new hl0).trans s0
    refine ⟨fun μ σ' H' => ∃ i : Nat, μ = 6 - i ∧ i ≤ 5 ∧ (i = 0 ∨ 2 ^ (i - 1) < w.toNat) ∧ σ' = [some (.int w), some (.int ((2 ^ i : Nat) : Int))] ∧ H' = H0, ⟨6, 0, rfl, by lia, .inl rfl, rfl, rfl⟩, ?_⟩
    rintro μ σ' H' ⟨i, rfl, hi, hd, rfl, rfl⟩
    refine ⟨_, rfl, _, rfl, _, _, rfl, rfl, _, rfl, ?_⟩
    by_cases c : ((2 ^ i : Nat) : Int) < w
    · refine iteD c ?_
      have hi5 : i < 5 := by
        have z : 2 ^ i < 2 ^ 5 := by lia
        exact (Nat.pow_lt_pow_iff_right (by decide)).mp z
      refine ⟨fun σ'' H'' => σ'' = [some (.int w), some (.int ((2 ^ (i + 1) : Nat) : Int))] ∧ H'' = H', fun σ'' H'' ⟨x1, x2⟩ => ⟨6 - (i + 1), by lia, i + 1, rfl, by lia, .inr (by rw [Nat.add_sub_cancel]; lia), x1, x2⟩, ?_⟩
      refine ⟨_, rfl, _, _, rfl, rfl, .inl ⟨by decide, by decide⟩, ?_, rfl⟩
      have e2 : (2 : Int) * ((2 ^ i : Nat) : Int) = ((2 ^ (i + 1) : Nat) : Int) := by rw [Nat.pow_succ]; lia
      show [some (V.int w), some (V.int ((2 : Int) * ((2 ^ i : Nat) : Int)))] = _
      rw [e2]
    · refine iteDn c ?_
      have el := lg_of (d := i) (w := w.toNat) hi (by lia) hd
      have hp5 : 2 ^ lg w.toNat ≤ 2 ^ 5 := Nat.pow_le_pow_right (by decide) hlg
      refine ⟨_, rfl, 0, ?_, by lia, by lia, fun l1 H1 s1 n1 hP1 => ?_⟩
      · rw [el]
        rfl
      obtain ⟨r1, a1, t1⟩ := hP1
      have b1 := hvA_length (lg w.toNat) 0 (by lia)
      have z1 := t1.1
      refine ⟨l1, rfl, ⟨_, SqL.of a1⟩, fun D hD => lcI_list (K := K) (a := l1) (xs := r1.map V.ref) (fun j σ3 H3 => ∃ (u v : Option V) (qs : List Addr), σ3 = [u, v, some (.int w)] ∧ Same H1 H3 ∧ H3 D = some (.lst (qs.map V.ref)) ∧ Tups H3 qs (((hvA (lg w.toNat) 0).take j).filter fun p => decide (p.2 < w.toNat)))
        ⟨none, none, [], rfl, Same.new hD, upd_same, ⟨rfl, fun i r p u v => by simp at u⟩⟩ (fun j σ3 H3 _ ⟨_, _, _, _, s3, _⟩ => SqL.of (s3 _ _ a1)) ?_ ?_⟩
      · rintro j x σ3 H3 hj ⟨u, v, qs, rfl, s3, e3, t3⟩
        have hjl := (List.getElem?_eq_some_iff.mp hj).1
        obtain ⟨r, hr', rfl⟩ := map_get hj
        obtain ⟨p, hp, er⟩ := t1.get hr'
        have er3 := s3 _ _ er
        have ql : qs.length ≤ (hvA (lg w.toNat) 0).length := by
          rw [t3.1]
          exact Nat.le_trans (List.length_filter_le _ _) (by rw [List.length_take]; lia)
        refine ⟨r, _, rfl, SqT.of er3, rfl, _, _, rfl, _, _, rfl, rfl, ?_⟩
        refine ⟨_, rfl, _, rfl, _, _, rfl, rfl, _, rfl, ?_⟩
        by_cases c2 : p.2 < w.toNat
        · refine iteD (by lia) ?_
          refine ⟨_, rfl, _, rfl, (by show 2 ≤ sizeLine; decide), fun q hq => ?_⟩
          have nqD : q ≠ D := (ne_of_none e3 hq).symm
          have e4 := Same.new (o := .tup [.int (p.1 : Nat), .int (p.2 : Nat)]) hq _ _ e3
          refine LcEnd.mk e4 (big' (by rw [List.length_map]; lia)) hjl ⟨_, _, qs ++ [q], rfl, (s3.trans (Same.new hq)).upd hD, ?_, ?_⟩
          · rw [upd_same, List.map_append]
            rfl
          · rw [filter_take hp, if_pos c2]
            refine Tups.snoc ((t3.mono (Same.new hq)).keep (tup_keep e4)) ?_
            rw [upd_ne nqD, upd_same]
        · refine iteDn (by lia) ?_
          refine LcSkip.mk hjl ⟨_, _, qs, rfl, s3, e3, ?_⟩
          rw [filter_take hp, if_neg c2, List.append_nil]
          exact t3
      · rintro σ3 H3 ⟨u, v, qs, rfl, s3, e3, t3⟩
        rw [List.length_map, z1, List.take_length, hvA_hv _ hlg] at t3
        exact k D H3 ((S0.trans s1).trans s3) (S0.free (s1.free hD)) ⟨qs, e3, t3⟩
theorem plainFrom_step' {n : Nat} (h : 0 < n) : plainFrom n = plainP n ++ plainFrom (n - 1) := by
  obtain ⟨m, rfl⟩ : ∃ m, n = m + 1 := ⟨n - 1, by lia⟩
  rfl
theorem ok_plain (T : Txt K mg t) : FnOk P w K mg base CX0 2 t.a_plain t.fd_plain ["width"] sp_plain := by
  have G_check_net : FnOk P w K mg base CX0 1 t.a_check_net t.fd_check_net ["width", "posts"] sp_check_net := ok_check_net T
  refine T.F_plain.ok sc_plain (fun vs H Q E h => ?_) (fun cdv A outer s H vs Q E hr h => ?_)
  · obtain ⟨w, rfl, _⟩ := h
    rfl
  · obtain ⟨wd, rfl, hw1, hw2, k⟩ := h
    have hr_check_net := hr
    refine ⟨_, (pss_cons (ps_expr (pe_call G_check_net hr_check_net rfl T.m_check_net T.F_check_net.kp T.b_check_net .nil pass0 (pa_cons (pv 0) (pa_cons (pe_lst pa_nil) pa_nil))))
      (pss_cons (ps_set (i := 1) sc_plain.nd rfl (Or.inl rfl) (pe_lst pa_nil))
      (pss_cons (ps_for PassesOwn.never rfl (pi_rangeD rfl T.z_range (pa_cons (pe_op op_sub (pv 0) pe_int) (pa_const pe_int (pa_cons (pe_un un_neg pe_int) pa_nil)))) (pg_name (i := 2) sc_plain.nd rfl (Or.inl rfl))
        (pss_one (ps_expr (pe_bm PySem.F.plainAttrs_list PySem.F.slot_list_extend PySem.F.type_list_extend mt_extend (pv 1) (pa_cons (pe_lc rfl rfl (pi_range1 rfl T.z_range (pa_cons (pv 2) pa_nil)) (by rfl) (LcFree.nil (N := ["lane"]) [(".0", .local), ("lane", .local)] rfl rfl (by decide +kernel)) rfl (by decide +kernel) (by decide +kernel) (fun _ _ _ _ => (pg_name (i := 0) (show (["lane"] : List Str).Nodup by decide +kernel) rfl (Or.inl rfl))) (fun _ _ _ _ => (pe_tup (pa_cons (pv 0) (pa_cons (pe_op op_add (pv 0) pe_int) pa_nil))))) pa_nil)))))
      (pss_one (ps_ret (pv 1)))))), ?_⟩
    refine ⟨_, rfl, Nat.zero_le _, fun l0 hl0 => ⟨wd, l0, [], rfl, ⟨[], upd_same, ⟨rfl, fun i r p u v => by simp at u⟩⟩, hw1, (fun p hp => by cases hp), fun H10 s0 => ?_⟩⟩
    have S0 : Same H H10 := (Same.new hl0).trans s0
    refine ⟨Nat.zero_le _, fun du hdu => ?_⟩
    have S11 : Same H10 (upd H10 du (.lst [])) := Same.new hdu
    refine ⟨_, rfl, _, _, rfl, rfl, _, rfl, _, _, rfl, ⟨by lia, by lia, by decide, by decide⟩, for_down (hi := wd - 1) (n := (wd - 1 - 0).toNat) (fun i σ Hi => ∃ (u : Option V) (rs : List Addr) (ps : List Post),
        σ = [some (.int wd), some (.ref du), u] ∧ Same H10 Hi ∧ Hi du = some (.lst (rs.map V.ref)) ∧ Tups Hi rs ps ∧ ps ++ plainFrom (wd.toNat - 1 - i) = plainFrom (wd.toNat - 1))
      ⟨none, [], [], rfl, S11, upd_same, ⟨rfl, fun i r p z _ => by simp at z⟩, by rw [Nat.sub_zero]; rfl⟩ ?_ ?_⟩
    · rintro i σ Hi hi ⟨u, rs, ps, rfl, si, ei, ti, eps⟩
      have hrl := ti.1
      have hpl : ps.length ≤ 900 := by
        have z := congrArg List.length eps
        rw [List.length_append] at z
        have z2 := plain_length (wd.toNat - 1)
        have z3 : (wd.toNat - 1) * (wd.toNat - 1) ≤ 30 * 30 := Nat.mul_le_mul (by lia) (by lia)
        lia
      refine ⟨_, rfl, .inl ⟨rfl, _, SqL.of ei⟩, _, rfl, _, rfl, by lia, by lia, fun D hD => lc_range (lo := 0) (n := (wd - 1 - (i : Int)).toNat) (fun m σ' H3 => ∃ (u : Option V) (qs : List Addr), σ' = [u] ∧ Same Hi H3 ∧ H3 D = some (.lst (qs.map V.ref)) ∧ Tups H3 qs (plainP m))
        ⟨none, [], rfl, Same.new hD, upd_same, ⟨rfl, fun i r p z _ => by simp at z⟩⟩ ?_ ?_⟩
      · rintro m σ' H3 hm ⟨u', qs, rfl, s3', e3', t3'⟩
        have hql : qs.length = m := by rw [t3'.1, plainP_length]
        refine ⟨_, rfl, _, rfl, _, _, rfl, rfl, (by show 2 ≤ sizeLine; decide), fun q hq => ?_⟩
        have nqD : q ≠ D := (ne_of_none e3' hq).symm
        have e4 := Same.new (o := .tup [.int (0 + (m : Int)), .int (0 + (m : Int) + 1)]) hq _ _ e3'
        refine LcEnd.mk e4 (big' (by rw [List.length_map]; lia)) hm ⟨_, qs ++ [q], rfl, (s3'.trans (Same.new hq)).upd hD, ?_, ?_⟩
        · rw [upd_same, List.map_append]
          rfl
        · rw [plainP_succ]
          refine Tups.snoc ((t3'.mono (Same.new hq)).keep (tup_keep e4)) ?_
          rw [upd_ne nqD, upd_same]
          have f1 : (0 + (m : Int)) = ((m : Nat) : Int) := by lia
          have f2 : ((m : Nat) : Int) + 1 = ((m + 1 : Nat) : Int) := by lia
          show some (HO.tup [.int (0 + (m : Int)), .int (0 + (m : Int) + 1)]) = some (HO.tup [.int ((m : Nat) : Int), .int ((m + 1 : Nat) : Int)])
          rw [f1, f2]
      · rintro σ' H3 ⟨u', qs, rfl, s3', e3', t3'⟩
        have hql : qs.length = (wd - 1 - (i : Int)).toNat := by rw [t3'.1, plainP_length]
        refine ⟨du, D, _, _, rfl, rfl, s3' _ _ ei, e3', big (by rw [List.length_map, List.length_map]; lia), ?_⟩
        have tk := tup_keep (o := .lst (rs.map V.ref ++ qs.map V.ref)) (s3' _ _ ei)
        refine ⟨_, rs ++ qs, ps ++ plainP (wd - 1 - (i : Int)).toNat, rfl, (si.trans s3').upd hdu, ?_, ?_, ?_⟩
        · rw [upd_same, List.map_append]
        · exact Tups.app ((ti.mono s3').keep tk) (t3'.keep tk)
        · have en : (wd - 1 - (i : Int)).toNat = wd.toNat - 1 - i := by lia
          rw [en, List.append_assoc]
          have z := plainFrom_step' (n := wd.toNat - 1 - i) (by lia)
          rw [show wd.toNat - 1 - (i + 1) = wd.toNat - 1 - i - 1 by lia, ← z]
          exact eps
    · rintro σ H11 ⟨u, rs, ps, rfl, s11, e11, t11, eps⟩
      rw [show wd.toNat - 1 - (wd - 1 - 0).toNat = 0 by lia] at eps
      have eps' : ps = plainFrom (wd.toNat - 1) := by rw [← eps]; exact (List.append_nil _).symm
      subst eps'
      exact ⟨_, rfl, k du H11 (S0.trans s11) (S0.free hdu) ⟨rs, e11, t11⟩⟩
end
end PN
namespace PN
open PySem L2
noncomputable def sp_rows_acting : Sp := fun vs H Q _ => ∃ (w : Int) (a : Addr) (ps : List Post), vs = [.int w, .ref a] ∧ Posts H a ps ∧ 1 ≤ w ∧ w ≤ 12 ∧ Net w.toNat ps ∧ ps.length ≤ 500 ∧ ∀ l ds H', Same H H' → H l = none → H' l = some (.lst ds) → DueOk H' ds (rowsP w.toNat) ps → Q (.ref l) H'
noncomputable def sp_is_lean : Sp := fun vs H Q _ => ∃ (w : Int) (a : Addr) (ps : List Post), vs = [.int w, .ref a] ∧ Posts H a ps ∧ 1 ≤ w ∧ w ≤ 12 ∧ Net w.toNat ps ∧ ps.length ≤ 500 ∧ ∀ (b : Bool) H', Same H H' → (b = true ↔ ∀ j, j < ps.length → (rowsP w.toNat).find? (actB ps j) ≠ none) → Q (.bl b) H'
noncomputable def sp_thinned : Sp := fun vs H Q _ => ∃ (w : Int) (a : Addr) (ps : List Post), vs = [.int w, .ref a] ∧ Posts H a ps ∧ 1 ≤ w ∧ w ≤ 12 ∧ Net w.toNat ps ∧ ps.length ≤ 500 ∧ ∀ l H', Same H H' → H l = none → Posts H' l (thinP w.toNat ps) → Q (.ref l) H'
end PN
namespace PN
open PySem L2
section
variable {P : Program} {w : World} {K : PySem.W.Frag} {mg : Str → Option Value} {base : Heap} {t : Adr}
theorem ok_rows_acting (T : Txt K mg t) : FnOk P w K mg base CX0 3 t.a_rows_acting t.fd_rows_acting ["width", "posts"] sp_rows_acting := by
  have G_check_trial : FnOk P w K mg base CX0 2 t.a_check_trial t.fd_check_trial ["width", "posts"] sp_check_trial := ok_check_trial T
  have G_bit_rows : FnOk P w K mg base CX0 1 t.a_bit_rows t.fd_bit_rows ["width"] sp_bit_rows := ok_bit_rows T
  have G_pass_post : FnOk P w K mg base CX0 1 t.a_pass_post t.fd_pass_post ["low", "high", "lanes"] sp_pass_post := ok_pass_post T
  refine T.F_rows_acting.ok sc_rows_acting (fun vs H Q E h => ?_) (fun cdv A outer s H vs Q E hr h => ?_)
  · obtain ⟨w, a, ps, rfl, _⟩ := h
    rfl
  · obtain ⟨w, a, ps, rfl, hP, h1, h5, hn, hpl, k⟩ := h
    have hr_check_trial := hr
    have hr_bit_rows := hr.mono (j := 1) (by decide)
    have hr_pass_post := hr.mono (j := 1) (by decide)
    refine ⟨_, (pss_cons (ps_expr (pe_call G_check_trial hr_check_trial rfl T.m_check_trial T.F_check_trial.kp T.b_check_trial .nil pass0 (pa_cons (pv 0) (pa_cons (pv 1) pa_nil))))
      (pss_cons (ps_set (i := 2) sc_rows_acting.nd rfl (Or.inl rfl) (pe_op op_rep (pe_lst (pa_const pe_non pa_nil)) (pe_callB call_len_seq (by rfl) T.z_len PySem.boot_len (pa_cons (pv 1) pa_nil))))
      (pss_cons (ps_for PassesOwn.never rfl (pi_list (pe_call G_bit_rows hr_bit_rows rfl T.m_bit_rows T.F_bit_rows.kp T.b_bit_rows .nil pass0 (pa_cons (pv 0) pa_nil))) (pg_name (i := 3) sc_rows_acting.nd rfl (Or.inl rfl))
        (pss_cons (ps_set (i := 4) sc_rows_acting.nd rfl (Or.inl rfl) (pe_callTy call_list_of (by rfl) T.z_list PyProof.Rows.boot_list (pa_cons (pv 3) pa_nil)))
        (pss_one (ps_for PassesOwn.never rfl (pi_enum rfl T.z_enumerate (pa_cons (pv 1) pa_nil)) (pg_tup rfl (pgs_cons (pg_name (i := 5) sc_rows_acting.nd rfl (Or.inl rfl)) (pgs_cons (pg_name (i := 6) sc_rows_acting.nd rfl (Or.inl rfl)) pgs_nil)))
          (pss_one (ps_if (PW.pt (pw_and (pt_val (pe_call G_pass_post hr_pass_post rfl T.m_pass_post T.F_pass_post.kp T.b_pass_post .nil pass0 (pa_cons (pe_ix ix_tup (pv 6) pe_int (fun _ _ => rfl)) (pa_cons (pe_ix ix_tup (pv 6) pe_int (fun _ _ => rfl)) (pa_cons (pv 4) pa_nil))))) (pw_and1 (pt_cmp (pc_isN (pe_ix ix_list (pv 2) (pv 5) (fun _ _ => rfl))))))) (pss_one (ps_asg (pe_callTy call_list_of (by rfl) T.z_list PyProof.Rows.boot_list (pa_cons (pv 3) pa_nil)) (pg_sub (pv 2) (pv 5) set_list)))
            pss_nil))))))
      (pss_one (ps_ret (pv 2)))))), ?_⟩
    refine ⟨_, rfl, _, rfl, w, a, ps, rfl, hP, h1, h5, hn, fun H0 s0 => ?_⟩
    obtain ⟨rs, ha, ht⟩ := id (hP.mono s0)
    have hrl := ht.1
    refine ⟨(by show 1 ≤ sizeLine; decide), fun e0 he0 => ⟨_, rfl, a, _, rfl, .inl (SqL.of (Same.new he0 _ _ ha)), e0, _, _, rfl, rfl, upd_same, by lia, by rw [List.length_map]; lia, big (by rw [List.length_map]; show 1 * _ ≤ 100000; lia), fun du hdu => ?_⟩⟩
    have S0 := (Same.new (o := .lst [V.non]) he0).trans (Same.new (o := .lst (List.replicate ((((rs.map V.ref).length : Nat) : Int).toNat) [V.non]).flatten) hdu)
    have ndu : H0 du = none := (Same.new (o := .lst [V.non]) he0).free hdu
    have ed : (upd (upd H0 e0 (.lst [V.non])) du (.lst (List.replicate ((((rs.map V.ref).length : Nat) : Int).toNat) [V.non]).flatten)) du = some (.lst (List.replicate ps.length V.non)) := by
      rw [upd_same, rep_non, List.length_map, Int.toNat_natCast, hrl]
    generalize upd (upd H0 e0 (.lst [V.non])) du (.lst (List.replicate ((((rs.map V.ref).length : Nat) : Int).toNat) [V.non]).flatten) = H1 at S0 ed ⊢
    refine ⟨_, rfl, w, rfl, by lia, h5, fun lb rb H2 S2 n2 el hL => ?_⟩
    have S02 := S0.trans S2
    have ndl : lb ≠ du := (ne_of_none ed n2).symm
    have nrb : ∀ (i : Nat) r, rb[i]? = some r → r ≠ du := fun i r hr' z => by
      obtain ⟨row, hrow, er⟩ := hL.get hr'
      rw [z] at er
      have e2 := S2 _ _ ed
      have er' : H2 du = some (.lst (row.map V.int)) := er
      rw [e2] at er'
      have hrl2 := rowsP_row w.toNat row (List.mem_of_getElem? hrow)
      have eq := Option.some.inj er'
      injection eq with eq
      match row, eq, hrl2 with
      | [], _, h => simp at h; lia
      | x :: row, eq, _ =>
        match hps : ps.length, eq with
        | 0, eq => cases eq
        | n + 1, eq => rw [List.replicate_succ] at eq; cases eq
    obtain ⟨Hs, hHs⟩ : ∃ Hs : Hp, ∀ b, Hs b = if b = du then none else H2 b := ⟨_, fun b => rfl⟩
    have Hsd : Hs du = none := by rw [hHs, if_pos rfl]
    have Hse : ∀ b, b ≠ du → Hs b = H2 b := fun b nb => by rw [hHs, if_neg nb]
    have Hs2 : Same Hs H2 := fun b o z => by
      by_cases e : b = du
      · rw [e, Hsd] at z
        cases z
      · rw [Hse b e] at z
        exact z
    refine ⟨lb, rfl, ⟨_, SqL.of el⟩, for_list (K := K) (a := lb) (xs := rb.map V.ref) (fun i σ Hi => ∃ (u3 u4 u5 u6 : Option V) (ds : List V), σ = [some (.int w), some (.ref a), some (.ref du), u3, u4, u5, u6] ∧ Same H0 Hi ∧ Hi du = some (.lst ds) ∧ Same Hs Hi ∧ ds.length = ps.length ∧ ∀ j v, ds[j]? = some v → At1 Hi ((rowsP w.toNat).take i) ps j v ∧ v ≠ .ref du)
      ⟨none, none, none, none, _, rfl, S02, S2 _ _ ed, Hs2, by rw [List.length_replicate], fun j v hv => ?_⟩ (fun i σ Hi _ ⟨_, _, _, _, _, _, _, _, kp, _⟩ => SqL.of (kp _ _ (by rw [Hse _ ndl]; exact el))) ?_ ?_⟩
    · rw [List.getElem?_replicate] at hv
      split at hv
      · cases hv
        exact ⟨.inl ⟨rfl, rfl⟩, by simp⟩
      · cases hv
    · rintro i x σ Hi hi ⟨u3, u4, u5, u6, ds, rfl, si, edi, kp, hdl, hdu'⟩
      obtain ⟨r, hr', rfl⟩ := map_get hi
      obtain ⟨row, hrow, er⟩ := hL.get hr'
      have nr := nrb i r hr'
      have hrow_l := rowsP_row w.toNat row (List.mem_of_getElem? hrow)
      have ers : Ints Hs r row := by show Hs r = _; rw [Hse r nr]; exact er
      have eri := kp _ _ ers
      have hai := si _ _ ha
      refine ⟨_, rfl, r, _, rfl, .inl (SqL.of eri), fun he hhe => ?_⟩
      have nhe : he ≠ du := (ne_of_none edi hhe).symm
      have Hhe : H0 he = none := si.free hhe
      have Hshe : Hs he = none := kp.free hhe
      have S3 := Same.new (o := .lst (row.map V.int)) hhe
      refine ⟨_, rfl, a, rfl, ⟨_, SqL.of (S3 _ _ hai)⟩, for_enum (K := K) (a := a) (xs := rs.map V.ref) (fun m σ Hj => ∃ (v5 v6 : Option V) (ds : List V), σ = [some (.int w), some (.ref a), some (.ref du), some (.ref r), some (.ref he), v5, v6] ∧ Same H0 Hj ∧ Hj du = some (.lst ds) ∧ Ints Hj he (passAll (ps.take m) row) ∧ Same Hs Hj ∧ ds.length = ps.length ∧ ∀ j v, ds[j]? = some v → At1 Hj ((rowsP w.toNat).take (if j < m then i + 1 else i)) ps j v ∧ v ≠ .ref du ∧ v ≠ .ref he)
        ⟨_, _, ds, rfl, si.trans S3, S3 _ _ edi, upd_same, kp.trans S3, hdl, fun j v hv => ?_⟩ (fun m σ Hj _ ⟨_, _, _, _, sj, _⟩ => SqL.of (sj _ _ ha)) ?_ ?_⟩
      · rw [if_neg (Nat.not_lt_zero j)]
        obtain ⟨z1, z2⟩ := hdu' j v hv
        refine ⟨z1.mono fun d r _ x => S3 _ _ x, z2, fun e => ?_⟩
        rcases z1 with ⟨e', _⟩ | ⟨d, r', e', _, x⟩
        · rw [e'] at e
          cases e
        · rw [e'] at e
          cases e
          have x' : Hi he = some (.lst (r'.map V.int)) := x
          rw [hhe] at x'
          cases x'
      · rintro m x q σ Hj hm ⟨v5, v6, ds, rfl, sj, edj, ehj, kpj, hdl, hdj⟩ hq
        have hm' := (List.getElem?_eq_some_iff.mp hm).1
        rw [List.length_map] at hm'
        have hml : m < ps.length := by lia
        obtain ⟨r0, hr0, rfl⟩ := map_get hm
        obtain ⟨p, hp, er0⟩ := ht.get hr0
        have hgp : ps.getD m (0, 0) = p := by rw [List.getD_eq_getElem?_getD, hp]; rfl
        obtain ⟨g0, g3⟩ := hn.at hp
        have Sq := Same.new (o := .tup [.int (m : Nat), .ref r0]) hq
        have er1 := Sq _ _ (sj _ _ er0)
        have ehq := Sq _ _ ehj
        have edq := Sq _ _ edj
        have hXl : (passAll (ps.take m) row).length = w.toNat := by rw [passAll_length, hrow_l]
        have ept := passAll_take (xs := row) hp
        have hab : actB ps m row = acts (passAll (ps.take m) row) p := by
          unfold actB
          rw [hgp]
        refine ⟨q, _, rfl, SqT.of upd_same, rfl, _, _, rfl, _, _, rfl, rfl, ?_⟩
        refine ⟨_, rfl, r0, _, _, _, rfl, rfl, SqT.of er1, rfl, _, rfl, r0, _, _, _, rfl, rfl, SqT.of er1, rfl, _, rfl, p.1, p.2, he, _, rfl, ehq, by lia, by lia, fun H3 e3 k3 => ⟨_, rfl, ?_⟩⟩
        rw [← ept] at e3
        have rest : ∀ b o, b ≠ he → Hj b = some o → H3 b = some o := fun b o nb z => (k3 b nb).trans (Sq _ _ z)
        have s3 : Same H0 H3 := fun b o z => rest b o (ne_of_none z Hhe) (sj _ _ z)
        have kp3 : Same Hs H3 := fun b o z => rest b o (ne_of_none z Hshe) (kpj _ _ z)
        have ed3 : H3 du = some (.lst ds) := rest _ _ nhe.symm edj
        have ers3 : Ints H3 r row := kp3 _ _ ers
        have hdj3 : ∀ j v, ds[j]? = some v → At1 H3 ((rowsP w.toNat).take (if j < m then i + 1 else i)) ps j v ∧ v ≠ .ref du ∧ v ≠ .ref he := fun j v hv => by
          obtain ⟨z1, z2, z3⟩ := hdj j v hv
          refine ⟨z1.mono fun d r' e x => ?_, z2, z3⟩
          subst e
          exact rest _ _ (fun e => z3 (by rw [e])) x
        obtain ⟨dv, hdv⟩ : ∃ dv, ds[m]? = some dv := ⟨_, List.getElem?_eq_getElem (by lia)⟩
        have hdm : At1 H3 ((rowsP w.toNat).take i) ps m dv := by
          have z := (hdj3 m dv hdv).1
          rw [if_neg (Nat.lt_irrefl m)] at z
          exact z
        have next : ∀ (Hy : Hp) (ds' : List V), (∀ j v, j ≠ m → ds[j]? = some v → At1 H3 ((rowsP w.toNat).take (if j < m then i + 1 else i)) ps j v → v ≠ .ref du → At1 Hy ((rowsP w.toNat).take (if j < m then i + 1 else i)) ps j v) → (∀ j, j ≠ m → ds'[j]? = ds[j]?) → (∀ v, ds'[m]? = some v → At1 Hy ((rowsP w.toNat).take (i + 1)) ps m v ∧ v ≠ .ref du ∧ v ≠ .ref he) → ∀ j v, ds'[j]? = some v → At1 Hy ((rowsP w.toNat).take (if j < m + 1 then i + 1 else i)) ps j v ∧ v ≠ .ref du ∧ v ≠ .ref he := fun Hy ds' hk ho hmm j v hv => by
          by_cases e : j = m
          · subst e
            rw [if_pos (by lia)]
            exact hmm v hv
          · rw [ho j e] at hv
            obtain ⟨z1, z2, z3⟩ := hdj3 j v hv
            have z := hk j v e hv z1 z2
            by_cases c : j < m
            · rw [if_pos c] at z
              rw [if_pos (by lia)]
              exact ⟨z, z2, z3⟩
            · rw [if_neg c] at z
              rw [if_neg (by lia)]
              exact ⟨z, z2, z3⟩
        refine ite2 (fun ea => ?_) (fun ea => ?_)
        · refine ⟨_, rfl, _, rfl, du, _, _, _, rfl, rfl, SqL.of ed3, atI_nat hdv, _, rfl, ?_⟩
          have hy : actB ps m row = true := by rw [hab]; exact ea
          by_cases cn : dv = .non
          · subst cn
            refine iteD rfl ?_
            refine ⟨_, rfl, r, _, rfl, .inl (SqL.of ers3), fun cp hcp => ?_⟩
            have ncd : cp ≠ du := (ne_of_none ed3 hcp).symm
            have nch : cp ≠ he := (ne_of_none e3 hcp).symm
            have Sc := Same.new (o := .lst (row.map V.int)) hcp
            refine ⟨_, rfl, _, rfl, du, _, _, m, rfl, rfl, Sc _ _ ed3, ixN_nat (by lia), ?_⟩
            refine ⟨_, _, ds.set m (.ref cp), rfl, (s3.trans Sc).upd ndu, upd_same, ?_, (kp3.trans Sc).upd Hsd, by rw [List.length_set]; exact hdl, next _ _ (fun j v _ _ z1 z2 => z1.mono fun d r' e x => ?_) (fun j nj => by rw [List.getElem?_set_ne (Ne.symm nj)]) fun v hv => ?_⟩
            · show _ = _
              rw [upd_ne nhe]
              exact Sc _ _ e3
            · subst e
              show _ = _
              rw [upd_ne (fun e => z2 (by rw [e]))]
              exact Sc _ _ x
            · rw [List.getElem?_set_self (by lia)] at hv
              cases hv
              refine ⟨At1.yes hrow hdm hy ?_, fun e => by cases e; exact ncd rfl, fun e => by cases e; exact nch rfl⟩
              show _ = _
              rw [upd_ne ncd, upd_same]
          · refine iteDn cn ?_
            refine ⟨_, _, ds, rfl, s3, ed3, e3, kp3, hdl, next _ ds (fun _ _ _ _ z _ => z) (fun j _ => rfl) fun v hv => ?_⟩
            have z := (hdj3 m v hv).2
            rw [hdv] at hv
            cases hv
            rcases hdm with ⟨e, _⟩ | ⟨d, r1, e, f, x⟩
            · exact absurd e cn
            · rw [e] at z ⊢
              exact ⟨At1.old hrow (.inr ⟨d, r1, rfl, f, x⟩), z⟩
        · refine ⟨_, _, ds, rfl, s3, ed3, e3, kp3, hdl, next _ ds (fun _ _ _ _ z _ => z) (fun j _ => rfl) fun v hv => ?_⟩
          have z := (hdj3 m v hv).2
          rw [hdv] at hv
          cases hv
          exact ⟨At1.no hrow hdm (by rw [hab]; simpa using ea), z⟩
      · rintro σ Hj ⟨v5, v6, ds, rfl, sj, edj, ehj, kpj, hdl, hdj⟩
        rw [List.length_map] at hdj
        refine ⟨_, _, _, _, ds, rfl, sj, edj, kpj, hdl, fun j v hv => ?_⟩
        have hjl := (List.getElem?_eq_some_iff.mp hv).1
        obtain ⟨z1, z2, _⟩ := hdj j v hv
        rw [if_pos (by lia)] at z1
        exact ⟨z1, z2⟩
    · rintro σ Hi ⟨u3, u4, u5, u6, ds, rfl, si, edi, kp, hdl, hd⟩
      rw [List.length_map, hL.1, List.take_length] at hd
      exact ⟨_, rfl, k du ds Hi (s0.trans si) (s0.free ndu) edi ⟨hdl, fun j v hv => (hd j v hv).1⟩⟩
theorem ok_is_lean (T : Txt K mg t) : FnOk P w K mg base CX0 4 t.a_is_lean t.fd_is_lean ["width", "posts"] sp_is_lean := by
  have G_rows_acting : FnOk P w K mg base CX0 3 t.a_rows_acting t.fd_rows_acting ["width", "posts"] sp_rows_acting := ok_rows_acting T
  refine T.F_is_lean.ok sc_is_lean (fun vs H Q E h => ?_) (fun cdv A outer s H vs Q E hr h => ?_)
  · obtain ⟨w, a, ps, rfl, _⟩ := h
    rfl
  · obtain ⟨w, a, ps, rfl, hP, h1, h5, hn, hpl, k⟩ := h
    have hu64 := hr.units
    have hr_rows_acting := hr
    refine ⟨_, (pss_one (ps_ret (pe_cmpR (op_noneNotIn hu64) pe_non (pe_call G_rows_acting hr_rows_acting rfl T.m_rows_acting T.F_rows_acting.kp T.b_rows_acting .nil pass0 (pa_cons (pv 0) (pa_cons (pv 1) pa_nil))) rfl))), ?_⟩
    refine ⟨_, rfl, _, rfl, w, a, ps, rfl, hP, h1, h5, hn, hpl, fun l ds H' s' n' el hD => ?_⟩
    refine ⟨l, ds, rfl, rfl, SqL.of el, fun v hv => ?_, ?_⟩
    · obtain ⟨j, hj⟩ := List.mem_iff_getElem?.mp hv
      rcases hD.2 j v hj with ⟨e, _⟩ | ⟨d, r, e, _, x⟩
      · exact .inl e
      · exact .inr ⟨d, r, e, x⟩
    · refine k _ H' s' ?_
      rw [Bool.not_eq_true', List.any_eq_false]
      constructor
      · intro h j hj f
        have hjd : j < ds.length := by rw [hD.1]; exact hj
        have hj' : ds[j]? = some ds[j] := List.getElem?_eq_getElem hjd
        rcases hD.2 j _ hj' with ⟨e, _⟩ | ⟨d, r, e, f2, x⟩
        · exact h _ (List.getElem_mem hjd) (by rw [e]; simp)
        · rw [f] at f2
          cases f2
      · intro h v hv z
        obtain ⟨j, hj⟩ := List.mem_iff_getElem?.mp hv
        have hjl := (List.getElem?_eq_some_iff.mp hj).1
        rcases hD.2 j v hj with ⟨_, f⟩ | ⟨d, r, e, _, x⟩
        · exact h j (by rw [← hD.1]; exact hjl) f
        · rw [e] at z
          simp at z
theorem ok_thinned (T : Txt K mg t) : FnOk P w K mg base CX0 4 t.a_thinned t.fd_thinned ["width", "posts"] sp_thinned := by
  have G_rows_acting : FnOk P w K mg base CX0 3 t.a_rows_acting t.fd_rows_acting ["width", "posts"] sp_rows_acting := ok_rows_acting T
  refine T.F_thinned.ok sc_thinned (fun vs H Q E h => ?_) (fun cdv A outer s H vs Q E hr h => ?_)
  · obtain ⟨w, a, ps, rfl, _⟩ := h
    rfl
  · obtain ⟨w, a, ps, rfl, hP, h1, h5, hn, hpl, k⟩ := h
    have hr_rows_acting := hr
    refine ⟨_, (pss_one (ps_ret (pe_lcI rfl rfl (pi_zip rfl T.z_zip (pa_cons (pv 1) (pa_cons (pe_call G_rows_acting hr_rows_acting rfl T.m_rows_acting T.F_rows_acting.kp T.b_rows_acting .nil pass0 (pa_cons (pv 0) (pa_cons (pv 1) pa_nil))) pa_nil))) (by rfl) (LcFree.nil (N := ["post", "row"]) [(".0", .local), ("post", .local), ("row", .local)] rfl rfl (by decide +kernel)) rfl (by decide +kernel) (by decide +kernel) (fun _ _ _ _ => (pg_tupK (K := K) rfl rfl (n := 2) (pgs_cons (pg_name (i := 0) (show (["post", "row"] : List Str).Nodup by decide +kernel) rfl (Or.inl rfl)) (pgs_cons (pg_name (i := 1) (show (["post", "row"] : List Str).Nodup by decide +kernel) rfl (Or.inl rfl)) pgs_nil)))) (fun _ _ _ _ => (pt_cmp (pc_notN (pv 1)))) (fun _ _ _ _ => (pv 0))))), ?_⟩
    refine ⟨_, rfl, _, rfl, _, rfl, w, a, ps, rfl, hP, h1, h5, hn, hpl, fun l ds H1 s1 n1 el hD => ?_⟩
    obtain ⟨rs, ha, ht⟩ := id (hP.mono s1)
    have hrl := ht.1
    refine ⟨a, l, rfl, ⟨_, SqL.of ha⟩, ⟨_, SqL.of el⟩, fun D hD' => lcI_zip (K := K) (a := a) (b := l) (xs := rs.map V.ref) (ys := ds) (by rw [List.length_map, hrl, hD.1]) (fun j σ3 H3 => ∃ (u v : Option V) (qs : List Addr), σ3 = [u, v] ∧ Same H1 H3 ∧ H3 D = some (.lst (qs.map V.ref)) ∧ Tups H3 qs (thinN w.toNat ps j))
      ⟨none, none, [], rfl, Same.new hD', upd_same, ⟨rfl, fun i r p u v => by simp at u⟩⟩ (fun j σ3 H3 _ ⟨_, _, _, _, s3, _⟩ => ⟨SqL.of (s3 _ _ ha), SqL.of (s3 _ _ el)⟩) ?_ ?_⟩
    · rintro j x y q σ3 H3 hj hy ⟨u, v, qs, rfl, s3, e3, t3⟩ hq
      have hjl := (List.getElem?_eq_some_iff.mp hj).1
      obtain ⟨r, hr', rfl⟩ := map_get hj
      obtain ⟨p, hp, er⟩ := ht.get hr'
      have hgp : ps.getD j (0, 0) = p := by rw [List.getD_eq_getElem?_getD, hp]; rfl
      have Sq := Same.new (o := .tup [.ref r, y]) hq
      have er3 := Sq _ _ (s3 _ _ er)
      have e4 := Sq _ _ e3
      have t4 := t3.mono Sq
      have ql := thinN_length (w := w.toNat) (ps := ps) j
      have hql := t3.1
      have hjp := (List.getElem?_eq_some_iff.mp hp).1
      refine ⟨q, _, rfl, SqT.of upd_same, rfl, _, _, rfl, _, _, rfl, rfl, ?_⟩
      refine ⟨_, rfl, _, rfl, ?_⟩
      rcases hD.2 j y hy with ⟨rfl, f⟩ | ⟨d, r', rfl, f, _⟩
      · refine iteNS rfl ?_
        refine LcSkip.mk hjl ⟨_, _, qs, rfl, s3.trans Sq, e4, ?_⟩
        show Tups _ qs (thinN w.toNat ps j ++ _)
        rw [f, if_neg (by simp), List.append_nil]
        exact t4
      · refine iteN (by simp) ?_
        refine ⟨_, rfl, LcEnd.mk e4 (big' (by rw [List.length_map]; lia)) hjl ⟨_, _, qs ++ [r], rfl, (s3.trans Sq).upd hD', ?_, ?_⟩⟩
        · rw [upd_same, List.map_append]
          rfl
        · show Tups _ (qs ++ [r]) (thinN w.toNat ps j ++ _)
          rw [f, if_pos (show (some r').isSome = true from rfl), hgp]
          have nrD : r ≠ D := ne_of er3 e4 (by intro z; cases z)
          refine Tups.snoc (t4.keep (tup_keep e4)) ?_
          rw [upd_ne nrD]
          exact er3
    · rintro σ3 H3 ⟨u, v, qs, rfl, s3, e3, t3⟩
      rw [List.length_map, hrl] at t3
      exact k D H3 (s1.trans s3) (s1.free hD') ⟨qs, e3, t3⟩
end
end PN
namespace PN
open PySem L2
noncomputable def numsI (ps : List Post) (n : Nat) : List Int := (List.range n).map fun i => ((numAt ps i : Nat) : Int)
theorem numsI_succ (ps : List Post) (n : Nat) : numsI ps (n + 1) = numsI ps n ++ [((numAt ps n : Nat) : Int)] := by
  unfold numsI
  rw [List.range_succ, List.map_append]
  rfl
theorem numsI_length (ps : List Post) (n : Nat) : (numsI ps n).length = n := by
  unfold numsI
  rw [List.length_map, List.length_range]
theorem numsI_get {ps : List Post} {n i : Nat} (h : i < n) : (numsI ps n)[i]? = some ((numAt ps i : Nat) : Int) := by
  unfold numsI
  rw [List.getElem?_map, List.getElem?_range h]
  rfl
/-- lists of posts at addresses -/
noncomputable def LayPosts (H : Hp) (qs : List Addr) (Ls : List (List Post)) : Prop := qs.length = Ls.length ∧ ∀ (k : Nat) q L, qs[k]? = some q → Ls[k]? = some L → Posts H q L
theorem LayPosts.snoc {H : Hp} {qs : List Addr} {Ls : List (List Post)} {q : Addr} {L : List Post} (h : LayPosts H qs Ls) (p : Posts H q L) : LayPosts H (qs ++ [q]) (Ls ++ [L]) := by
  refine ⟨by rw [List.length_append, List.length_append, h.1]; rfl, fun k q' L' a b => ?_⟩
  rw [List.getElem?_append] at a b
  by_cases c : k < qs.length
  · rw [if_pos c] at a
    rw [if_pos (h.1 ▸ c)] at b
    exact h.2 k q' L' a b
  · rw [if_neg c] at a
    rw [if_neg (h.1 ▸ c), ← h.1] at b
    match k - qs.length, a, b with
    | 0, a, b =>
      cases a
      cases b
      exact p
    | n + 1, a, b => simp at a
theorem Posts.keepL {H : Hp} {q b : Addr} {L : List Post} {o o' : List V} (h : Posts H q L) (e : H b = some (.lst o)) (ne : q ≠ b) : Posts (upd H b (.lst o')) q L := by
  obtain ⟨rs, er, t⟩ := h
  exact ⟨rs, by rw [upd_ne ne]; exact er, t.keep (tup_keep e)⟩
noncomputable def sp_layer_numbers : Sp := fun vs H Q _ => ∃ (a : Addr) (ps : List Post), vs = [.ref a] ∧ Posts H a ps ∧ ps.length ≤ 500 ∧ ∀ l H', Same H H' → H l = none → Ints H' l (numsI ps ps.length) → Q (.ref l) H'
noncomputable def sp_layers : Sp := fun vs H Q _ => ∃ (w : Int) (a : Addr) (ps : List Post), vs = [.int w, .ref a] ∧ Posts H a ps ∧ 1 ≤ w ∧ Net w.toNat ps ∧ ps.length < 64 ∧
  ∀ l qs Ls H', Same H H' → H l = none → H' l = some (.lst (qs.map V.ref)) → LayPosts H' qs Ls → LayersOf ps Ls → (∀ L ∈ Ls, L.Pairwise leP) → Q (.ref l) H'
section
variable {P : Program} {w : World} {K : PySem.W.Frag} {mg : Str → Option Value} {base : Heap} {t : Adr}
theorem ok_layer_numbers (T : Txt K mg t) : FnOk P w K mg base CX0 1 t.a_layer_numbers t.fd_layer_numbers ["posts"] sp_layer_numbers := by
  refine T.F_layer_numbers.ok sc_layer_numbers (fun vs H Q E h => ?_) (fun cdv A outer s H vs Q E hr h => ?_)
  · obtain ⟨a, ps, rfl, _⟩ := h
    rfl
  · obtain ⟨a, ps, rfl, hP, hpl, k⟩ := h
    have hu := hu_of hr
    refine ⟨_, (pss_cons (ps_set (i := 1) sc_layer_numbers.nd rfl (Or.inl rfl) pe_dnewK)
      (pss_cons (ps_set (i := 2) sc_layer_numbers.nd rfl (Or.inl rfl) (pe_lst pa_nil))
      (pss_cons (ps_for PassesOwn.never rfl (pi_list (pv 0)) (pg_tup rfl (pgs_cons (pg_name (i := 3) sc_layer_numbers.nd rfl (Or.inl rfl)) (pgs_cons (pg_name (i := 4) sc_layer_numbers.nd rfl (Or.inl rfl)) pgs_nil)))
        (pss_cons (ps_set (i := 5) sc_layer_numbers.nd rfl (Or.inl rfl) (pe_callB (call_max2 rfl) (by rfl) T.z_max PyProof.Rows.boot_max (pa_cons (pe_dget2 hu (pv 1) (pv 3) pe_int ⟨rfl, rfl, rfl, rfl⟩) (pa_cons (pe_dget2 hu (pv 1) (pv 4) pe_int ⟨rfl, rfl, rfl, rfl⟩) pa_nil))))
        (pss_cons (ps_dput hu (pv 1) (pv 3) (pe_op op_add (pv 5) pe_int) rfl)
        (pss_cons (ps_dput hu (pv 1) (pv 4) (pe_op op_add (pv 5) pe_int) rfl)
        (pss_one (ps_expr (pe_bm PySem.F.plainAttrs_list PySem.F.slot_list_append PySem.F.type_list_append mt_append (pv 2) (pa_cons (pv 5) pa_nil))))))))
      (pss_one (ps_ret (pv 2)))))), ?_⟩
    intro d hd
    refine ⟨Nat.zero_le _, fun nl hnl => ?_⟩
    have S0 : Same H (upd (upd H d (.dK [])) nl (.lst [])) := (Same.new hd).trans (Same.new hnl)
    have ndn : d ≠ nl := fun z => by rw [← z, upd_same] at hnl; cases hnl
    have nnl : H nl = none := (Same.new (o := .dK []) hd).free hnl
    obtain ⟨rs, ha, ht⟩ := id hP
    have hrl := ht.1
    refine ⟨_, rfl, a, rfl, ⟨_, SqL.of (S0 _ _ ha)⟩, for_list (K := K) (a := a) (xs := rs.map V.ref) (fun i σ Hi => ∃ (u3 u4 u5 : Option V) (kvs : List (Key × V)), σ = [some (.ref a), some (.ref d), some (.ref nl), u3, u4, u5] ∧ Same H Hi ∧ Hi d = some (.dK kvs) ∧ kvs.length ≤ 2 * i ∧ (∀ l : Nat, (valV kvs (Sum.inl (l : Int))).getD (.int 0) = .int ((lanesAt (ps.take i) l : Nat) : Int)) ∧ Ints Hi nl (numsI ps i))
      ⟨none, none, none, [], rfl, S0, by rw [upd_ne ndn, upd_same], Nat.le_refl _, fun l => rfl, upd_same⟩ (fun i σ Hi _ ⟨_, _, _, _, _, si, _⟩ => SqL.of (si _ _ ha)) ?_ ?_⟩
    · rintro i x σ Hi hi ⟨u3, u4, u5, kvs, rfl, si, ed, hkl, hv, en⟩
      have hil := (List.getElem?_eq_some_iff.mp hi).1
      rw [List.length_map, hrl] at hil
      obtain ⟨r, hr', rfl⟩ := map_get hi
      obtain ⟨p, hp, er⟩ := ht.get hr'
      have hgp := gP_get hp
      have hnum : numAt ps i = laneN (lanesAt (ps.take i)) p := by unfold numAt; rw [hgp]
      refine ⟨r, _, rfl, SqT.of (si _ _ er), rfl, _, _, rfl, _, _, rfl, rfl, ?_⟩
      refine ⟨_, rfl, d, rfl, .inl ⟨kvs, .inl ed⟩, _, rfl, _, DGet.k (k := Sum.inl ((p.1 : Nat) : Int)) ed, _, rfl, d, rfl, .inl ⟨kvs, .inl ed⟩, _, rfl, _, DGet.k (k := Sum.inl ((p.2 : Nat) : Int)) ed, ((lanesAt (ps.take i) p.1 : Nat) : Int), ((lanesAt (ps.take i) p.2 : Nat) : Int), ?_, ?_⟩
      · rw [hv, hv]
      have em : (if ((lanesAt (ps.take i) p.2 : Nat) : Int) > ((lanesAt (ps.take i) p.1 : Nat) : Int) then ((lanesAt (ps.take i) p.2 : Nat) : Int) else ((lanesAt (ps.take i) p.1 : Nat) : Int)) = ((numAt ps i : Nat) : Int) := by
        rw [hnum]
        unfold laneN
        split <;> lia
      dsimp only [gName]
      rw [em]
      have l1 := length_putK kvs (Sum.inl ((p.1 : Nat) : Int)) (.int (((numAt ps i : Nat) : Int) + 1))
      have l2 := length_putK (putK kvs (Sum.inl ((p.1 : Nat) : Int)) (.int (((numAt ps i : Nat) : Int) + 1))) (Sum.inl ((p.2 : Nat) : Int)) (.int (((numAt ps i : Nat) : Int) + 1))
      refine ⟨_, rfl, _, _, rfl, rfl, _, rfl, _, rfl, d, _, rfl, DPut.k (k := Sum.inl ((p.1 : Nat) : Int)) ed (big' (by lia)), ?_⟩
      refine ⟨_, rfl, _, _, rfl, rfl, _, rfl, _, rfl, d, _, rfl, DPut.k (kvs := putK kvs (Sum.inl ((p.1 : Nat) : Int)) (.int (((numAt ps i : Nat) : Int) + 1))) (k := Sum.inl ((p.2 : Nat) : Int)) upd_same (big' (by lia)), ?_⟩
      have S2 : Same H (upd (upd Hi d (.dK (putK kvs (Sum.inl ((p.1 : Nat) : Int)) (.int (((numAt ps i : Nat) : Int) + 1))))) d (.dK (putK (putK kvs (Sum.inl ((p.1 : Nat) : Int)) (.int (((numAt ps i : Nat) : Int) + 1))) (Sum.inl ((p.2 : Nat) : Int)) (.int (((numAt ps i : Nat) : Int) + 1))))) := (si.upd hd).upd hd
      have en2 : (upd (upd Hi d (.dK (putK kvs (Sum.inl ((p.1 : Nat) : Int)) (.int (((numAt ps i : Nat) : Int) + 1))))) d (.dK (putK (putK kvs (Sum.inl ((p.1 : Nat) : Int)) (.int (((numAt ps i : Nat) : Int) + 1))) (Sum.inl ((p.2 : Nat) : Int)) (.int (((numAt ps i : Nat) : Int) + 1))))) nl = some (.lst ((numsI ps i).map V.int)) := by
        rw [upd_ne ndn.symm, upd_ne ndn.symm]
        exact en
      refine ⟨_, rfl, .inl ⟨rfl, _, SqL.of en2⟩, _, rfl, nl, _, _, rfl, rfl, en2, big' (by rw [List.length_map, numsI_length]; lia), ?_⟩
      refine ⟨_, _, _, putK (putK kvs (Sum.inl ((p.1 : Nat) : Int)) (.int (((numAt ps i : Nat) : Int) + 1))) (Sum.inl ((p.2 : Nat) : Int)) (.int (((numAt ps i : Nat) : Int) + 1)), rfl, S2.upd nnl, by rw [upd_ne ndn, upd_same], by lia, fun l => ?_, ?_⟩
      · rw [lanesAt_take hil, hgp, valV_put, valV_put]
        unfold behind
        rw [← hnum]
        by_cases c2 : l = p.2
        · subst c2
          rw [if_pos rfl, if_pos rfl]
          show V.int (((numAt ps i : Nat) : Int) + 1) = _
          congr 1
        · have n2 : ¬ (Sum.inl (l : Int) : Key) = Sum.inl ((p.2 : Nat) : Int) := fun z => c2 (by have := Sum.inl.inj z; lia)
          rw [if_neg n2, if_neg c2]
          by_cases c1 : l = p.1
          · subst c1
            rw [if_pos rfl, if_pos rfl]
            show V.int (((numAt ps i : Nat) : Int) + 1) = _
            congr 1
          · have n1 : ¬ (Sum.inl (l : Int) : Key) = Sum.inl ((p.1 : Nat) : Int) := fun z => c1 (by have := Sum.inl.inj z; lia)
            rw [if_neg n1, if_neg c1]
            exact hv l
      · show _ = _
        rw [upd_same, numsI_succ, List.map_append]
        rfl
    · rintro σ Hi ⟨u3, u4, u5, kvs, rfl, si, ed, hkl, hv, en⟩
      rw [List.length_map, hrl] at en
      exact ⟨_, rfl, k nl Hi si nnl en⟩
theorem ok_layers (T : Txt K mg t) : FnOk P w K mg base CX0 2 t.a_layers t.fd_layers ["width", "posts"] sp_layers := by
  have G_check_net : FnOk P w K mg base CX0 1 t.a_check_net t.fd_check_net ["width", "posts"] sp_check_net := ok_check_net T
  have G_layer_numbers : FnOk P w K mg base CX0 1 t.a_layer_numbers t.fd_layer_numbers ["posts"] sp_layer_numbers := ok_layer_numbers T
  refine T.F_layers.ok sc_layers (fun vs H Q E h => ?_) (fun cdv A outer s H vs Q E hr h => ?_)
  · obtain ⟨w, a, ps, rfl, _⟩ := h
    rfl
  · obtain ⟨w, a, ps, rfl, hP, h1, hn, hpl, k⟩ := h
    have hr_check_net := hr
    have hr_layer_numbers := hr
    refine ⟨_, (pss_cons (ps_expr (pe_call G_check_net hr_check_net rfl T.m_check_net T.F_check_net.kp T.b_check_net .nil pass0 (pa_cons (pv 0) (pa_cons (pv 1) pa_nil))))
      (pss_cons (ps_set (i := 2) sc_layers.nd rfl (Or.inl rfl) (pe_lst pa_nil))
      (pss_cons (ps_for PassesOwn.never rfl (pi_zip rfl T.z_zip (pa_cons (pv 1) (pa_cons (pe_call G_layer_numbers hr_layer_numbers rfl T.m_layer_numbers T.F_layer_numbers.kp T.b_layer_numbers .nil pass0 (pa_cons (pv 1) pa_nil)) pa_nil))) (pg_tup rfl (pgs_cons (pg_name (i := 3) sc_layers.nd rfl (Or.inl rfl)) (pgs_cons (pg_name (i := 4) sc_layers.nd rfl (Or.inl rfl)) pgs_nil)))
        (pss_cons (ps_if (pt_cmpR op_eq (pv 4) (pe_callB call_len_seq (by rfl) T.z_len PySem.boot_len (pa_cons (pv 2) pa_nil)) (nomark _)) (pss_one (ps_expr (pe_bm PySem.F.plainAttrs_list PySem.F.slot_list_append PySem.F.type_list_append mt_append (pv 2) (pa_cons (pe_lst pa_nil) pa_nil))))
          pss_nil)
        (pss_one (ps_expr (pe_bm PySem.F.plainAttrs_list PySem.F.slot_list_append PySem.F.type_list_append mt_append (pe_ix ix_list (pv 2) (pv 4) (fun _ _ => rfl)) (pa_cons (pv 3) pa_nil))))))
      (pss_one (ps_ret (pe_lc rfl rfl (pi_list (pv 2)) (by rfl) (LcFree.nil (N := ["layer"]) [(".0", .local), ("layer", .local), ("sorted", .globalImplicit)] rfl rfl (by decide +kernel)) rfl (by decide +kernel) (by decide +kernel) (fun _ _ _ _ => (pg_name (i := 0) (show (["layer"] : List Str).Nodup by decide +kernel) rfl (Or.inl rfl))) (fun _ _ _ _ => (pe_callB (call_sortedT (K := K) rfl) (by rfl) T.z_sorted PyProof.Rows.boot_sorted (pa_cons (pv 0) pa_nil))))))))), ?_⟩
    refine ⟨_, rfl, _, rfl, w, a, ps, rfl, hP, h1, hn, fun H0 s0 => ?_⟩
    refine ⟨Nat.zero_le _, fun fo hfo => ?_⟩
    have S1 := s0.trans (Same.new (o := .lst []) hfo)
    have nfo : H fo = none := s0.free hfo
    refine ⟨_, rfl, _, rfl, a, ps, rfl, hP.mono S1, by lia, fun nl H1 s1 n1 en => ?_⟩
    have S01 := S1.trans s1
    have efo : H1 fo = some (.lst []) := s1 _ _ upd_same
    have nnf : nl ≠ fo := fun z => by rw [z, upd_same] at n1; cases n1
    obtain ⟨rs, ha, ht⟩ := id (hP.mono S01)
    have hrl := ht.1
    have naf : a ≠ fo := fun z => by
      obtain ⟨rs', ha', _⟩ := hP
      rw [z, nfo] at ha'
      cases ha'
    -- what the loop leaves alone
    obtain ⟨Hs, hHs⟩ : ∃ Hs : Hp, ∀ b, Hs b = if b = fo then none else H1 b := ⟨_, fun b => rfl⟩
    have Hsf : Hs fo = none := by rw [hHs, if_pos rfl]
    have Hse : ∀ b, b ≠ fo → Hs b = H1 b := fun b nb => by rw [hHs, if_neg nb]
    have Hs1 : Same Hs H1 := fun b o z => by
      by_cases e : b = fo
      · rw [e, Hsf] at z
        cases z
      · rw [Hse b e] at z
        exact z
    have has : Hs a = some (.lst (rs.map V.ref)) := by rw [Hse a naf]; exact ha
    have ens : Hs nl = some (.lst ((numsI ps ps.length).map V.int)) := by rw [Hse nl nnf]; exact en
    have hts : ∀ (i : Nat) r p, rs[i]? = some r → ps[i]? = some p → Hs r = some (.tup [.int (p.1 : Nat), .int (p.2 : Nat)]) := fun i r p e1 e2 => by
      have er := ht.2 i r p e1 e2
      rw [Hse r (fun z => by rw [z, efo] at er; cases er)]
      exact er
    have HsH : Same H Hs := fun b o z => by
      rw [Hse b (fun e => by rw [e, nfo] at z; cases z)]
      exact S01 _ _ z
    refine ⟨a, nl, rfl, ⟨_, SqL.of ha⟩, ⟨_, SqL.of en⟩, for_zip (K := K) (a := a) (b := nl) (xs := rs.map V.ref) (ys := (numsI ps ps.length).map V.int) (fun i σ Hi => ∃ (u3 u4 : Option V) (ls : List Addr), σ = [some (.int w), some (.ref a), some (.ref fo), u3, u4] ∧ Same Hs Hi ∧ Hi fo = some (.lst (ls.map V.ref)) ∧ ls.length = deepTo ps i ∧ ls.Nodup ∧ fo ∉ ls ∧ (∀ l ∈ ls, Hs l = none) ∧ ∀ (k : Nat) l, ls[k]? = some l → Posts Hi l (bucket ps i k))
      (by rw [List.length_map, List.length_map, numsI_length, hrl]) ⟨none, none, [], rfl, Hs1, efo, rfl, List.nodup_nil, by simp, by simp, fun k l z => by simp at z⟩ (fun i σ Hi _ ⟨_, _, _, _, si, _⟩ => ⟨SqL.of (si _ _ has), SqL.of (si _ _ ens)⟩) ?_ ?_⟩
    · rintro i x y q σ Hi hi hy ⟨u3, u4, ls, rfl, si, ef, hll, hnd, hfl, hnew, hB⟩ hq
      have hil := (List.getElem?_eq_some_iff.mp hi).1
      rw [List.length_map, hrl] at hil
      obtain ⟨r, hr', rfl⟩ := map_get hi
      obtain ⟨n, hn', rfl⟩ := map_get hy
      rw [numsI_get hil] at hn'
      cases hn'
      obtain ⟨p, hp, _⟩ := ht.get hr'
      have er := hts i r p hr' hp
      have hgp := gP_get hp
      have Sq := Same.new (o := .tup [.ref r, .int ((numAt ps i : Nat) : Int)]) hq
      have sq := si.trans Sq
      have efq := Sq _ _ ef
      have nqf : q ≠ fo := (ne_of_none ef hq).symm
      have hdi := num_le_deep (ps := ps) hil
      have hdd := deep_le (ps := ps) i (by lia)
      have hdn : deepTo ps (i + 1) = max (deepTo ps i) (numAt ps i + 1) := rfl
      refine ⟨q, _, rfl, SqT.of upd_same, rfl, _, _, rfl, _, _, rfl, rfl, ?_⟩
      generalize upd Hi q (.tup [.ref r, .int ((numAt ps i : Nat) : Int)]) = Hq at Sq sq efq ⊢
      have hBq : ∀ (k : Nat) l, ls[k]? = some l → Posts Hq l (bucket ps i k) := fun k l z => (hB k l z).mono Sq
      refine seq_by (fun σ' Hx => σ' = [some (.int w), some (.ref a), some (.ref fo), some (.ref r), some (.int ((numAt ps i : Nat) : Int))] ∧ ∃ ls' : List Addr, Same Hs Hx ∧ Hx fo = some (.lst (ls'.map V.ref)) ∧ ls'.length = deepTo ps (i + 1) ∧ ls'.Nodup ∧ fo ∉ ls' ∧ (∀ l ∈ ls', Hs l = none) ∧ ∀ (k : Nat) l, ls'[k]? = some l → Posts Hx l (bucket ps i k)) (fun N hN' => ?_) (fun σ' Hx ⟨hσ, ls', sx, ex, hll', hnd', hfl', hnew', hBx⟩ => ?_)
      · refine ⟨_, rfl, _, rfl, fo, _, rfl, .inl (SqL.of efq), rfl, _, rfl, ?_⟩
        by_cases c : numAt ps i = deepTo ps i
        · refine iteD (by rw [List.length_map, hll, c]) ?_
          refine ⟨_, rfl, .inl ⟨rfl, _, SqL.of efq⟩, Nat.zero_le _, fun z hz => ⟨fo, _, _, rfl, rfl, Same.new hz _ _ efq, big' (by rw [List.length_map]; lia), ?_⟩⟩
          have Sz := Same.new (o := .lst []) hz
          have nzf : z ≠ fo := (ne_of_none efq hz).symm
          have nzl : z ∉ ls := fun m => by
            obtain ⟨kk, hk⟩ := List.mem_iff_getElem?.mp m
            obtain ⟨_, e, _⟩ := hBq kk z hk
            rw [hz] at e
            cases e
          refine hN' _ _ ⟨rfl, ls ++ [z], (sq.trans Sz).upd Hsf, ?_, ?_, ?_, ?_, ?_, ?_⟩
          · rw [upd_same, List.map_append]
            rfl
          · rw [List.length_append, hll]
            show _ + 1 = _
            lia
          · rw [List.nodup_append]
            exact ⟨hnd, by simp, fun x hx y hy => by rw [List.mem_singleton] at hy; subst hy; exact fun e => nzl (e ▸ hx)⟩
          · intro m
            rcases List.mem_append.mp m with m | m
            · exact hfl m
            · rw [List.mem_singleton] at m
              exact nzf m.symm
          · intro l m
            rcases List.mem_append.mp m with m | m
            · exact hnew l m
            · rw [List.mem_singleton] at m
              rw [m]
              exact sq.free hz
          · intro kk l hk
            rw [List.getElem?_append] at hk
            by_cases c3 : kk < ls.length
            · rw [if_pos c3] at hk
              exact ((hBq kk l hk).mono Sz).keepL (Sz _ _ efq) (fun e => hfl (by rw [← e]; exact List.mem_of_getElem? hk))
            · rw [if_neg c3] at hk
              have ek : kk - ls.length = 0 := by
                match hm : kk - ls.length, hk with
                | 0, _ => rfl
                | m + 1, hk => simp at hk
              rw [ek] at hk
              cases hk
              rw [bucket_empty (by lia)]
              exact ⟨[], by rw [upd_ne nzf, upd_same]; rfl, rfl, fun i r p u v => by simp at u⟩
        · refine iteDn (fun z => c ?_) ?_
          · have z' := V.int.inj z
            rw [List.length_map, hll] at z'
            lia
          refine hN' _ _ ⟨rfl, ls, sq, efq, by rw [hll]; lia, hnd, hfl, hnew, hBq⟩
      subst hσ
      have hkn : numAt ps i < ls'.length := by lia
      have hk : ls'[numAt ps i]? = some ls'[numAt ps i] := List.getElem?_eq_getElem hkn
      generalize ls'[numAt ps i] = ln at hk
      obtain ⟨rl, el, tl⟩ := hBx _ _ hk
      have hlm : ln ∈ ls' := List.mem_of_getElem? hk
      have nlf : ln ≠ fo := fun e => hfl' (e ▸ hlm)
      have brl : rl.length ≤ i := by
        rw [tl.1]
        unfold bucket
        rw [List.length_map]
        exact Nat.le_trans (List.length_filter_le _ _) (by rw [List.length_range]; exact Nat.le_refl _)
      refine ⟨_, rfl, _, rfl, fo, _, _, _, rfl, rfl, SqL.of ex, (show atI (ls'.map V.ref) ((numAt ps i : Nat) : Int) = some (.ref ln) from atI_nat (by rw [List.getElem?_map, hk]; rfl)), .inl ⟨rfl, _, SqL.of el⟩, _, rfl, ln, _, _, rfl, rfl, el, big' (by rw [List.length_map]; lia), ?_⟩
      refine ⟨_, _, ls', rfl, sx.upd (hnew' _ hlm), by rw [upd_ne nlf.symm]; exact ex, hll', hnd', hfl', hnew', fun kk l hk' => ?_⟩
      rw [bucket_succ]
      by_cases c : numAt ps i = kk
      · subst c
        rw [hk] at hk'
        cases hk'
        rw [if_pos rfl, hgp]
        refine ⟨rl ++ [r], by rw [upd_same, List.map_append]; rfl, Tups.snoc (tl.keep (tup_keep el)) ?_⟩
        have nrl : r ≠ ln := fun z => by have e := sx _ _ er; rw [z, el] at e; cases e
        rw [upd_ne nrl]
        exact sx _ _ er
      · rw [if_neg c, List.append_nil]
        refine (hBx kk l hk').keepL el fun e => c ?_
        rw [e] at hk'
        exact (List.getElem?_inj hkn hnd').mp (hk.trans hk'.symm)
    · rintro σ Hi ⟨u3, u4, ls, rfl, si, ef, hll, hnd, hfl, hnew, hB⟩
      rw [List.length_map, hrl] at hll hB
      have hdl := deep_le (ps := ps) ps.length (Nat.le_refl _)
      have SHi : Same H Hi := HsH.trans si
      refine ⟨_, rfl, fo, rfl, ⟨_, SqL.of ef⟩, fun D hD => lc_list (K := K) (a := fo) (xs := ls.map V.ref) (fun j σ3 H3 => ∃ (u : Option V) (qs : List Addr) (Ls : List (List Post)), σ3 = [u] ∧ Same Hi H3 ∧ H3 D = some (.lst (qs.map V.ref)) ∧ LayPosts H3 qs Ls ∧ Ls.length = j ∧ (∀ q ∈ qs, q ≠ D) ∧ ∀ (k : Nat) L, Ls[k]? = some L → L.Perm (bucket ps ps.length k) ∧ L.Pairwise leP)
        ⟨none, [], [], rfl, Same.new hD, upd_same, ⟨rfl, fun k q L z => by simp at z⟩, rfl, by simp, fun k L z => by simp at z⟩ (fun j σ3 H3 _ ⟨_, _, _, _, s3, _⟩ => SqL.of (s3 _ _ ef)) ?_ ?_⟩
      · rintro j x σ3 H3 hj ⟨u, qs, Ls, rfl, s3, e3, l3, hLj, nqD, hLs⟩
        have hjl := (List.getElem?_eq_some_iff.mp hj).1
        obtain ⟨l, hl', rfl⟩ := map_get hj
        obtain ⟨rl, el, tl⟩ := (hB j l hl').mono s3
        have brl : rl.length < 64 := by
          rw [tl.1]
          unfold bucket
          rw [List.length_map]
          exact Nat.lt_of_le_of_lt (List.length_filter_le _ _) (by rw [List.length_range]; exact hpl)
        have hql := l3.1
        rw [List.length_map] at hjl
        refine ⟨_, rfl, l, rl, _, rfl, SqL.of el, tl, brl, fun l' rs' ps' hl'n t' hperm hpw => ?_⟩
        have S4 := Same.new (o := .lst (rs'.map V.ref)) hl'n
        have e4 := S4 _ _ e3
        have nlD : l' ≠ D := (ne_of_none e3 hl'n).symm
        refine LcEnd.mk e4 (big' (by rw [List.length_map]; lia)) (by rw [List.length_map]; exact hjl) ⟨_, qs ++ [l'], Ls ++ [ps'], rfl, (s3.trans S4).upd hD, ?_, ?_, by rw [List.length_append, hLj]; rfl, ?_, ?_⟩
        · rw [upd_same, List.map_append]
          rfl
        · refine LayPosts.snoc ⟨l3.1, fun k q L a b => ((l3.2 k q L a b).mono S4).keepL e4 (nqD q (List.mem_of_getElem? a))⟩ ?_
          exact Posts.keepL ⟨rs', upd_same, t'.mono S4⟩ e4 nlD
        · intro q m
          rcases List.mem_append.mp m with m | m
          · exact nqD q m
          · rw [List.mem_singleton.mp m]
            exact nlD
        · intro k L hk
          rw [List.getElem?_append] at hk
          by_cases c : k < Ls.length
          · rw [if_pos c] at hk
            exact hLs k L hk
          · rw [if_neg c] at hk
            have ek : k - Ls.length = 0 := by
              match hm : k - Ls.length, hk with
              | 0, _ => rfl
              | m + 1, hk => simp at hk
            rw [ek] at hk
            cases hk
            have e : k = j := by lia
            rw [e]
            exact ⟨hperm, hpw⟩
      · rintro σ3 H3 ⟨u, qs, Ls, rfl, s3, e3, l3, hLj, nqD, hLs⟩
        rw [List.length_map] at hLj
        refine k D qs Ls H3 (SHi.trans s3) (SHi.free hD) e3 l3 ⟨by rw [hLj, hll], fun k L z => (hLs k L z).1⟩ fun L m => ?_
        obtain ⟨k, hk⟩ := List.mem_iff_getElem?.mp m
        exact (hLs k L hk).2
end
end PN
namespace PN
open PySem L2
noncomputable def sp_share_lane : Sp := fun vs H Q _ => ∃ (r o : Addr) (p q : Post), vs = [.ref r, .ref o] ∧ H r = some (.tup [.int (p.1 : Nat), .int (p.2 : Nat)]) ∧ H o = some (.tup [.int (q.1 : Nat), .int (q.2 : Nat)]) ∧ Q (.bl (shareB p q)) H
noncomputable def natI (g : List Nat) : List Int := g.map fun n => ((n : Nat) : Int)
noncomputable def sp_chain : Sp := fun vs H Q _ => ∃ (w : Int) (a : Addr) (ps : List Post), vs = [.int w, .ref a] ∧ Posts H a ps ∧ 1 ≤ w ∧ Net w.toNat ps ∧ ps.length ≤ 500 ∧ ∀ l g H', Same H H' → H l = none → Ints H' l (natI g) → Chn ps 0 g → Q (.ref l) H'
theorem numsI_max {ps : List Post} {n : Nat} {m : Int} (hm : m ∈ numsI ps n) (ha : ∀ y ∈ numsI ps n, y ≤ m) : m = ((deepTo ps n : Nat) : Int) - 1 := by
  obtain ⟨i, hi, e⟩ := List.mem_map.mp hm
  have l1 := num_deep (ps := ps) n i (List.mem_range.mp hi)
  obtain ⟨j, g1, g2⟩ := deep_attained (ps := ps) n (by have := List.mem_range.mp hi; lia)
  have l2 := ha _ (List.mem_map.mpr ⟨j, List.mem_range.mpr g1, rfl⟩)
  lia
theorem eqv_noInts (ns : List Int) : PyData.eqv (.list (ns.map PyData.int)) (.list (([] : List Int).map PyData.int)) = ns.isEmpty := by
  cases ns with
  | nil => simp [PyData.eqv, PyData.eqvAll]
  | cons n ns => simp [PyData.eqv, PyData.eqvAll]
section
variable {P : Program} {w : World} {K : PySem.W.Frag} {mg : Str → Option Value} {base : Heap} {t : Adr}
theorem ok_share_lane (T : Txt K mg t) : FnOk P w K mg base CX0 1 t.a_share_lane t.fd_share_lane ["post", "other"] sp_share_lane := by
  refine T.F_share_lane.ok sc_share_lane (fun vs H Q E h => ?_) (fun cdv A outer s H vs Q E hr h => ?_)
  · obtain ⟨r, o, p, q, rfl, _⟩ := h
    rfl
  · obtain ⟨r, o, p, q, rfl, er, eo, k⟩ := h
    refine ⟨_, (pss_one (ps_ret (pe_or (pe_cmpR op_in_seq (pe_ix ix_tup (pv 0) pe_int (fun _ _ => rfl)) (pv 1) rfl) (pe_one (pe_cmpR op_in_seq (pe_ix ix_tup (pv 0) pe_int (fun _ _ => rfl)) (pv 1) rfl))))), ?_⟩
    have e : shareB p q = (onL p.1 q || onL p.2 q) := rfl
    rw [e] at k
    refine ⟨_, rfl, r, _, _, _, rfl, rfl, SqT.of er, atI_nat (j := 0) rfl, _, rfl, o, _, rfl, .inr (SqT.of eo), rfl, rfl, ?_⟩
    rw [if_neg Bool.false_ne_true, inV_pair]
    cases c : onL p.1 q with
    | true =>
      rw [c] at k
      exact ⟨_, rfl, iteT k⟩
    | false =>
      rw [c, Bool.false_or] at k
      refine ⟨_, rfl, iteF ?_⟩
      refine ⟨_, rfl, r, _, _, _, rfl, rfl, SqT.of er, atI_nat (j := 1) rfl, _, rfl, o, _, rfl, .inr (SqT.of eo), rfl, rfl, ?_⟩
      rw [if_neg Bool.false_ne_true, inV_pair]
      exact k
theorem ok_chain (T : Txt K mg t) : FnOk P w K mg base CX0 2 t.a_chain t.fd_chain ["width", "posts"] sp_chain := by
  have G_check_net : FnOk P w K mg base CX0 1 t.a_check_net t.fd_check_net ["width", "posts"] sp_check_net := ok_check_net T
  have G_layer_numbers : FnOk P w K mg base CX0 1 t.a_layer_numbers t.fd_layer_numbers ["posts"] sp_layer_numbers := ok_layer_numbers T
  have G_share_lane : FnOk P w K mg base CX0 1 t.a_share_lane t.fd_share_lane ["post", "other"] sp_share_lane := ok_share_lane T
  refine T.F_chain.ok sc_chain (fun vs H Q E h => ?_) (fun cdv A outer s H vs Q E hr h => ?_)
  · obtain ⟨w, a, ps, rfl, _⟩ := h
    rfl
  · obtain ⟨w, a, ps, rfl, hP, h1, hn, hpl, k⟩ := h
    have hu64 := hr.units
    have hr_check_net := hr
    have hr_layer_numbers := hr
    have hr_share_lane := hr
    refine ⟨_, (pss_cons (ps_expr (pe_call G_check_net hr_check_net rfl T.m_check_net T.F_check_net.kp T.b_check_net .nil pass0 (pa_cons (pv 0) (pa_cons (pv 1) pa_nil))))
      (pss_cons (ps_set (i := 2) sc_chain.nd rfl (Or.inl rfl) (pe_call G_layer_numbers hr_layer_numbers rfl T.m_layer_numbers T.F_layer_numbers.kp T.b_layer_numbers .nil pass0 (pa_cons (pv 1) pa_nil)))
      (pss_cons (ps_set (i := 3) sc_chain.nd rfl (Or.inl rfl) (pe_maxD rfl (by rfl) T.z_max (pv 2) (pe_un un_neg pe_int)))
      (pss_cons (ps_set (i := 4) sc_chain.nd rfl (Or.inl rfl) (pe_lst pa_nil))
      (pss_cons (ps_for PassesOwn.never rfl (pi_rangeD rfl T.z_range (pa_cons (pe_op op_sub (pe_callB call_len_seq (by rfl) T.z_len PySem.boot_len (pa_cons (pv 1) pa_nil)) pe_int) (pa_cons (pe_un un_neg pe_int) (pa_cons (pe_un un_neg pe_int) pa_nil)))) (pg_name (i := 5) sc_chain.nd rfl (Or.inl rfl))
        (pss_one (ps_if (PW.pt (pw_and (pt_cmpR op_eq (pe_ix ix_list (pv 2) (pv 5) (fun _ _ => rfl)) (pv 3) (nomark _)) (pw_and1 (PW.pt (pw_or (pt_cmpR (op_eqD hu64) (pv 4) (pe_lst pa_nil) (nomark _)) (pw_or1 (pt_val (pe_call G_share_lane hr_share_lane rfl T.m_share_lane T.F_share_lane.kp T.b_share_lane .nil pass0 (pa_cons (pe_ix ix_list (pv 1) (pv 5) (fun _ _ => rfl)) (pa_cons (pe_ix ix_list (pv 1) (pe_ix ix_list (pv 4) (pe_un un_neg pe_int) (fun _ _ => rfl)) (fun _ _ => rfl)) pa_nil)))))))))) (pss_cons (ps_expr (pe_bm PySem.F.plainAttrs_list PySem.F.slot_list_append PySem.F.type_list_append mt_append (pv 4) (pa_cons (pv 5) pa_nil)))
          (pss_one (ps_set (i := 3) sc_chain.nd rfl (Or.inl rfl) (pe_op op_sub (pv 3) pe_int))))
          pss_nil)))
      (pss_one (ps_ret (pe_listRev rfl (by rfl) T.z_list (by rfl) T.z_reversed (pv 4))))))))), ?_⟩
    refine ⟨_, rfl, _, rfl, w, a, ps, rfl, hP, h1, hn, fun H0 s0 => ?_⟩
    refine ⟨_, rfl, a, ps, rfl, hP.mono s0, hpl, fun nl H1 s1 n1 en => ?_⟩
    have S01 := s0.trans s1
    obtain ⟨rs, ha, ht⟩ := id (hP.mono S01)
    have hrl := ht.1
    have hdl := deep_le (ps := ps) ps.length (Nat.le_refl _)
    dsimp only [gName]
    refine seq_by (fun σ' Hx => σ' = [some (.int w), some (.ref a), some (.ref nl), some (.int (((deepTo ps ps.length : Nat) : Int) - 1)), none, none] ∧ Hx = H1) (fun N hN' => ?_) (fun σ' Hx ⟨hσ, hHx⟩ => ?_)
    · refine ⟨_, rfl, _, rfl, nl, numsI ps ps.length, rfl, SqL.of en, ?_⟩
      by_cases c : ps.length = 0
      · refine .inl ⟨by rw [c]; rfl, hN' _ _ ⟨?_, rfl⟩⟩
        rw [c]
        rfl
      · refine .inr ⟨fun z => ?_, fun m hm hma => hN' _ _ ⟨?_, rfl⟩⟩
        · have z2 := numsI_length ps ps.length
          rw [z] at z2
          exact c z2.symm
        · rw [numsI_max hm hma]
          rfl
    subst hσ hHx
    refine ⟨Nat.zero_le _, fun fl hfl => ?_⟩
    have S2 := Same.new (o := .lst []) hfl
    refine ⟨_, rfl, a, _, rfl, .inl (SqL.of (S2 _ _ ha)), _, _, rfl, rfl, _, rfl, _, rfl, _, _, rfl, ⟨by rw [List.length_map]; lia, by rw [List.length_map]; lia, by decide, by decide⟩, for_down (fun i σ Hi => ∃ (u5 : Option V) (g : List Nat), σ = [some (.int w), some (.ref a), some (.ref nl), some (.int (((deepTo ps ps.length : Nat) : Int) - 1 - ((g.length : Nat) : Int))), some (.ref fl), u5] ∧ Same Hx Hi ∧ Ints Hi fl (natI g.reverse) ∧ Chn ps (ps.length - i) g)
      ⟨none, [], by rw [List.length_nil, show ((0 : Nat) : Int) = 0 from rfl, Int.sub_zero]; rfl, S2, upd_same, Chn.start ps⟩ ?_ ?_⟩
    · rintro i σ Hi hi ⟨u5, g, rfl, si, efl, hC⟩
      have hi' : i < ps.length := by
        rw [List.length_map] at hi
        lia
      obtain ⟨r, hrr⟩ : ∃ r, r = ps.length - 1 - i := ⟨_, rfl⟩
      have er : (((rs.map V.ref).length : Nat) : Int) - 1 - (i : Int) = ((r : Nat) : Int) := by rw [List.length_map]; lia
      have hrp : r < ps.length := by lia
      have hC' : Chn ps (r + 1) g := by rw [show r + 1 = ps.length - i by lia]; exact hC
      have hnext : ps.length - (i + 1) = r := by lia
      have hgl := hC'.len
      have ha2 := si _ _ ha
      have ht2 := ht.mono si
      have en2 := si _ _ en
      have ep : ps[r]? = some (gP ps r) := gP_at hrp
      have hr0 : rs[r]? = some rs[r] := List.getElem?_eq_getElem (by lia)
      have er0 := ht2.2 r _ _ hr0 ep
      generalize rs[r] = r0 at hr0 er0
      dsimp only [gName]
      rw [er]
      have bn : atI ((numsI ps ps.length).map V.int) ((r : Nat) : Int) = some (.int ((numAt ps r : Nat) : Int)) := atI_nat (by rw [List.getElem?_map, numsI_get hrp]; rfl)
      have bp : atI (rs.map V.ref) ((r : Nat) : Int) = some (.ref r0) := atI_nat (by rw [List.getElem?_map, hr0]; rfl)
      refine ⟨_, rfl, _, rfl, nl, _, _, _, rfl, rfl, SqL.of en2, bn, _, rfl, rfl, _, rfl, ?_⟩
      by_cases c : numAt ps r + 1 + g.length = deepTo ps ps.length
      · refine iteD (by congr 1; lia) ?_
        refine ⟨_, rfl, Nat.zero_le _, fun z hz => ⟨_, _, DtV.ints (Same.new hz _ _ efl), DtV.ints (xs := []) upd_same, PySem.W.shaped_ints _, PySem.W.shaped_ints [], _, rfl, ?_⟩⟩
        have Sz := Same.new (o := .lst []) hz
        have eflz := Sz _ _ efl
        rw [eqv_noInts]
        cases g with
        | nil =>
          refine iteT ?_
          refine ⟨_, rfl, .inl ⟨rfl, _, SqL.of eflz⟩, _, rfl, fl, _, _, rfl, rfl, eflz, big' (by show 0 < 100000; lia), ?_⟩
          refine ⟨_, rfl, _, _, rfl, rfl, ?_⟩
          refine ⟨some (.int ((r : Nat) : Int)), [r], ?_, (si.trans Sz).upd hfl, ?_, ?_⟩
          · show _ = _
            rw [show (((deepTo ps ps.length : Nat) : Int) - 1 - (([r].length : Nat) : Int)) = ((deepTo ps ps.length : Nat) : Int) - 1 - (([] : List Nat).length : Nat) - 1 by simp]
            rfl
          · show _ = _
            rw [upd_same]
            rfl
          · rw [hnext]
            exact hC'.take hrp c fun c hc => by cases hc
        | cons c0 g =>
          have hemp : (natI (c0 :: g).reverse).isEmpty = false := by
            unfold natI
            rw [List.isEmpty_eq_false_iff]
            simp
          rw [hemp]
          refine iteF ?_
          have hc0 := hC'.inn c0 List.mem_cons_self
          have ep2 : ps[c0]? = some (gP ps c0) := gP_at hc0.2
          have hr1 : rs[c0]? = some rs[c0] := List.getElem?_eq_getElem (by lia)
          have er1 := ht2.2 c0 _ _ hr1 ep2
          generalize rs[c0] = r1 at hr1 er1
          have bl : atI ((natI (c0 :: g).reverse).map V.int) (-1) = some (.int ((c0 : Nat) : Int)) := by
            rw [List.reverse_cons]
            unfold natI
            rw [List.map_append, List.map_append]
            exact atI_last _ _
          have bq : atI (rs.map V.ref) ((c0 : Nat) : Int) = some (.ref r1) := atI_nat (by rw [List.getElem?_map, hr1]; rfl)
          have haz := Sz _ _ ha2
          refine ⟨_, rfl, _, rfl, a, _, _, _, rfl, rfl, SqL.of haz, bp, _, rfl, _, rfl, _, rfl, fl, _, _, _, rfl, rfl, SqL.of eflz, bl, a, _, _, _, rfl, rfl, SqL.of haz, bq, r0, r1, gP ps r, gP ps c0, rfl, Sz _ _ er0, Sz _ _ er1, _, rfl, ?_⟩
          refine ite2 (fun es => ?_) (fun es => ?_)
          · have hgl2 : (natI (c0 :: g).reverse).length ≤ 500 := by unfold natI; rw [List.length_map, List.length_reverse]; lia
            refine ⟨_, rfl, .inl ⟨rfl, _, SqL.of eflz⟩, _, rfl, fl, _, _, rfl, rfl, eflz, big' (by rw [List.length_map]; lia), ?_⟩
            refine ⟨_, rfl, _, _, rfl, rfl, ?_⟩
            refine ⟨some (.int ((r : Nat) : Int)), r :: c0 :: g, ?_, (si.trans Sz).upd hfl, ?_, ?_⟩
            · show _ = _
              rw [show (((deepTo ps ps.length : Nat) : Int) - 1 - (((r :: c0 :: g).length : Nat) : Int)) = ((deepTo ps ps.length : Nat) : Int) - 1 - (((c0 :: g).length : Nat) : Int) - 1 by simp only [List.length_cons]; lia]
              rfl
            · show _ = _
              rw [upd_same, List.reverse_cons (a := r)]
              unfold natI
              rw [List.map_append, List.map_append]
              rfl
            · rw [hnext]
              exact hC'.take hrp c fun c hc => by cases hc; exact es
          · refine ⟨_, c0 :: g, rfl, si.trans Sz, eflz, ?_⟩
            rw [hnext]
            exact hC'.skip hrp (fun z => by cases z) fun c hc hs => by cases hc; exact absurd hs es
      · refine iteDn (fun z => c (by have := V.int.inj z; lia)) ?_
        refine iteF ?_
        refine ⟨_, g, rfl, si, efl, ?_⟩
        rw [hnext]
        refine hC'.skip hrp (fun z => ?_) fun c' hc' _ => ?_
        · rw [z] at c
          exact c
        · have := hC'.num c' hc'
          lia
    · rintro σ Hi ⟨u5, g, rfl, si, efl, hC⟩
      have e0 : ps.length - ((((rs.map V.ref).length : Nat) : Int) - 1 - -1).toNat = 0 := by rw [List.length_map]; lia
      rw [e0] at hC
      refine ⟨_, rfl, fl, _, rfl, SqL.of efl, fun l hl => ?_⟩
      refine k l g _ ((S01.trans si).trans (Same.new hl)) (S01.free (si.free hl)) ?_ hC
      show _ = _
      rw [upd_same, ← List.map_reverse]
      unfold natI
      rw [← List.map_reverse, List.reverse_reverse]
end
end PN
namespace PN
open PySem L2
theorem size_small {n : Nat} (h : n ≤ 1000000) : n ≤ sizeLine := Nat.le_trans h (by decide)
theorem figs_size : (("0123456789" : Str)).length ≤ sizeLine := by decide +kernel
noncomputable def sp_figures_of : Sp := fun vs H Q _ => ∃ n : Nat, vs = [.int (n : Nat)] ∧ n ≤ 10000 ∧ ∀ H', Same H H' → Q (.str (figS n)) H'
noncomputable def sp_line_of : Sp := fun vs H Q _ => ∃ (a : Addr) (L : List Post), vs = [.ref a] ∧ Posts H a L ∧ L.length ≤ 100 ∧ (∀ p ∈ L, p.1 ≤ 1000 ∧ p.2 ≤ 1000) ∧ ∀ H', Same H H' → Q (.str (lineS L)) H'
noncomputable def sp_shown : Sp := fun vs H Q _ => ∃ (w : Int) (a : Addr) (ps : List Post), vs = [.int w, .ref a] ∧ Posts H a ps ∧ 1 ≤ w ∧ w ≤ 1000 ∧ Net w.toNat ps ∧ ps.length < 64 ∧
  ∀ l Ls H', Same H H' → H l = none → H' l = some (.lst ((figS w.toNat :: Ls.map lineS).map V.str)) → LayersOf ps Ls → (∀ L ∈ Ls, L.Pairwise leP) → Q (.ref l) H'
section
variable {P : Program} {w : World} {K : PySem.W.Frag} {mg : Str → Option Value} {base : Heap} {t : Adr}
theorem ok_figures_of (T : Txt K mg t) : FnOk P w K mg base CX0 1 t.a_figures_of t.fd_figures_of ["number"] sp_figures_of := by
  refine T.F_figures_of.ok sc_figures_of (fun vs H Q E h => ?_) (fun cdv A outer s H vs Q E hr h => ?_)
  · obtain ⟨n, rfl, _⟩ := h
    rfl
  · obtain ⟨n, rfl, hn, k⟩ := h
    refine ⟨_, (pss_cons (ps_set (i := 1) sc_figures_of.nd rfl (Or.inl rfl) (pe_lst pa_nil))
      (pss_cons (ps_while PassesOwn.never (pt_cmpR op_gt (pv 0) pe_int (nomark _)) (pss_cons (ps_expr (pe_bm PySem.F.plainAttrs_list PySem.F.slot_list_append PySem.F.type_list_append mt_append (pv 1) (pa_cons (pe_ix ix_str (pe_glob (v := .str "0123456789") rfl T.c_FIGURES ⟨_, rfl⟩) (pe_op op_mod (pv 0) pe_int) (fun _ _ => rfl)) pa_nil)))
        (pss_one (ps_set (i := 0) sc_figures_of.nd rfl (Or.inl rfl) (pe_op op_fdiv (pv 0) pe_int)))))
      (pss_cons (ps_expr (pe_bm PySem.F.plainAttrs_list PySem.F.slot_list_append PySem.F.type_list_append mt_append (pv 1) (pa_cons (pe_ix ix_str (pe_glob (v := .str "0123456789") rfl T.c_FIGURES ⟨_, rfl⟩) (pv 0) (fun _ _ => rfl)) pa_nil)))
      (pss_one (ps_ret (pe_joinRev rfl (by rfl) T.z_reversed pe_str (pv 1))))))), ?_⟩
    refine ⟨Nat.zero_le _, fun fl hfl => ?_⟩
    refine ⟨fun μ σ' H' => ∃ (m : Nat) (fs : List Nat), μ = m ∧ fs.length + m ≤ n ∧ σ' = [some (.int (m : Nat)), some (.ref fl)] ∧ Same H H' ∧ H' fl = some (.lst ((fs.map fun c => (⟨#[c]⟩ : Str)).map V.str)) ∧ decL n = decL m ++ fs.reverse,
      ⟨n, n, [], rfl, by simp, rfl, Same.new hfl, upd_same, by simp⟩, ?_⟩
    rintro m σ' H' ⟨_, fs, rfl, hm, rfl, s', e', hd⟩
    refine ⟨_, rfl, _, _, rfl, rfl, _, rfl, ?_⟩
    by_cases c : 9 < m
    · refine iteD (by lia) ?_
      have hm10 : m % 10 < 10 := Nat.mod_lt _ (by decide)
      refine ⟨fun σ'' H'' => ∃ (fs' : List Nat), fs'.length + m / 10 ≤ n ∧ σ'' = [some (.int ((m / 10 : Nat) : Int)), some (.ref fl)] ∧ Same H H'' ∧ H'' fl = some (.lst ((fs'.map fun c => (⟨#[c]⟩ : Str)).map V.str)) ∧ decL n = decL (m / 10) ++ fs'.reverse,
        fun σ'' H'' ⟨fs', x1, x2, x3, x4, x5⟩ => ⟨m / 10, by lia, m / 10, fs', rfl, x1, x2, x3, x4, x5⟩, ?_⟩
      refine ⟨_, rfl, .inl ⟨rfl, _, SqL.of e'⟩, _, rfl, _, _, rfl, rfl, (by show (0 : Int) < 10; decide), "0123456789", _, 48 + m % 10, rfl, rfl, figs_size, ?_, fl, _, _, rfl, rfl, e', big' (by rw [List.length_map, List.length_map]; lia), ?_⟩
      · have e : ((m : Nat) : Int) % 10 = ((m % 10 : Nat) : Int) := by lia
        show atI ("0123456789" : Str).cps.toList (((m : Nat) : Int) % 10) = _
        rw [e]
        exact figure_at hm10
      refine ⟨_, rfl, _, _, rfl, rfl, ⟨by decide, by decide⟩, fs ++ [48 + m % 10], ?_, ?_, s'.upd hfl, ?_, ?_⟩
      · rw [List.length_append]
        show fs.length + 1 + m / 10 ≤ n
        lia
      · have e : ((m : Nat) : Int) / 10 = ((m / 10 : Nat) : Int) := by lia
        show [some (V.int (((m : Nat) : Int) / 10)), some (V.ref fl)] = _
        rw [e]
      · rw [upd_same, List.map_append, List.map_append]
        rfl
      · rw [hd, decL_big (by lia), List.reverse_append, List.append_assoc]
        rfl
    · refine iteDn (by lia) ?_
      refine ⟨_, rfl, .inl ⟨rfl, _, SqL.of e'⟩, _, rfl, "0123456789", _, 48 + m, rfl, rfl, figs_size, figure_at (by lia), fl, _, _, rfl, rfl, e', big' (by rw [List.length_map, List.length_map]; lia), ?_⟩
      have e2 : (upd H' fl (.lst ((fs.map fun c => (⟨#[c]⟩ : Str)).map V.str ++ [V.str ⟨#[48 + m]⟩]))) fl = some (.lst (((fs ++ [48 + m]).map fun c => (⟨#[c]⟩ : Str)).map V.str)) := by
        rw [upd_same, List.map_append, List.map_append]
        rfl
      refine ⟨"", rfl, _, rfl, fl, _, rfl, SqL.of e2, ?_, ?_⟩
      · refine join_ok (B := 1) (fun y hy => ?_) ?_
        · rw [List.mem_reverse] at hy
          obtain ⟨c, _, rfl⟩ := List.mem_map.mp hy
          exact Nat.le_refl _
        · rw [List.length_reverse, List.length_map, List.length_append]
          have e0 : ("" : Str).length = 0 := by decide +kernel
          rw [e0]
          show (fs.length + 1) * 1 + (fs.length + 1) * 0 ≤ 16777216
          lia
      · rw [← List.map_reverse, join_none]
        have ef : (⟨(fs ++ [48 + m]).reverse.toArray⟩ : Str) = figS n := by
          unfold figS
          rw [hd, decL_small (by lia), List.reverse_append]
          rfl
        rw [ef]
        exact k _ (s'.upd hfl)
theorem ok_line_of (T : Txt K mg t) : FnOk P w K mg base CX0 2 t.a_line_of t.fd_line_of ["layer"] sp_line_of := by
  have G_figures_of : FnOk P w K mg base CX0 1 t.a_figures_of t.fd_figures_of ["number"] sp_figures_of := ok_figures_of T
  refine T.F_line_of.ok sc_line_of (fun vs H Q E h => ?_) (fun cdv A outer s H vs Q E hr h => ?_)
  · obtain ⟨a, L, rfl, _⟩ := h
    rfl
  · obtain ⟨a, L, rfl, hP, hL, hb, k⟩ := h
    have hr_figures_of := hr
    refine ⟨_, (pss_one (ps_ret (pe_bm PySem.F.plainAttrs_str PySem.F.slot_str_join PySem.F.type_str_join mt_join pe_str (pa_cons (pe_lc rfl rfl (pi_list (pv 0)) (by rfl) (LcFree.nil (N := ["low", "high"]) [(".0", .local), ("low", .local), ("high", .local), ("figures_of", .globalImplicit)] rfl rfl (by decide +kernel)) rfl (by decide +kernel) (by decide +kernel) (fun _ _ _ _ => (pg_tupK (K := K) rfl rfl (n := 2) (pgs_cons (pg_name (i := 0) (show (["low", "high"] : List Str).Nodup by decide +kernel) rfl (Or.inl rfl)) (pgs_cons (pg_name (i := 1) (show (["low", "high"] : List Str).Nodup by decide +kernel) rfl (Or.inl rfl)) pgs_nil)))) (fun _ _ _ _ => (pe_op op_add_str (pe_op op_add_str (pe_call G_figures_of hr_figures_of rfl T.m_figures_of T.F_figures_of.kp T.b_figures_of .nil pass0 (pa_cons (pv 0) pa_nil)) pe_str) (pe_call G_figures_of hr_figures_of rfl T.m_figures_of T.F_figures_of.kp T.b_figures_of .nil pass0 (pa_cons (pv 1) pa_nil))))) pa_nil)))), ?_⟩
    obtain ⟨rs, ha, ht⟩ := id hP
    have hrl := ht.1
    refine ⟨rfl, _, rfl, a, rfl, ⟨_, SqL.of ha⟩, fun D hD => lc_list (K := K) (a := a) (xs := rs.map V.ref) (fun j σ3 H3 => ∃ (u v : Option V), σ3 = [u, v] ∧ Same H H3 ∧ H3 D = some (.lst (((L.take j).map postS).map V.str)))
      ⟨none, none, rfl, Same.new hD, upd_same⟩ (fun j σ3 H3 _ ⟨_, _, _, s3, _⟩ => SqL.of (s3 _ _ ha)) ?_ ?_⟩
    · rintro j x σ3 H3 hj ⟨u, v, rfl, s3, e3⟩
      have hjl := (List.getElem?_eq_some_iff.mp hj).1
      obtain ⟨r, hr', rfl⟩ := map_get hj
      obtain ⟨p, hp, er⟩ := ht.get hr'
      obtain ⟨b1, b2⟩ := hb p (List.mem_of_getElem? hp)
      have d1 := decL_length p.1
      have d2 := decL_length p.2
      have f1 := figS_length p.1
      have f2 := figS_length p.2
      have fc : (":" : Str).length = 1 := by decide +kernel
      refine ⟨r, _, rfl, SqT.of (s3 _ _ er), rfl, _, _, rfl, _, _, rfl, rfl, ?_⟩
      refine ⟨_, rfl, p.1, rfl, by lia, fun H4 s4 => ⟨_, _, rfl, rfl, size_small (by lia), _, rfl, p.2, rfl, by lia, fun H5 s5 => ⟨_, _, rfl, rfl, size_small (by rw [Str.length_append]; lia), ?_⟩⟩⟩
      have e5 := s5 _ _ (s4 _ _ e3)
      refine LcEnd.mk e5 (big' (by rw [List.length_map, List.length_map, List.length_take]; lia)) hjl ⟨_, _, rfl, ((s3.trans s4).trans s5).upd hD, ?_⟩
      rw [upd_same, take_snoc hp, List.map_append, List.map_append]
      rfl
    · rintro σ3 H3 ⟨u, v, rfl, s3, e3⟩
      rw [List.length_map, hrl, List.take_length] at e3
      refine ⟨_, D, L.map postS, rfl, rfl, SqL.of e3, join_ok (B := 2003) (fun y hy => ?_) ?_, k H3 s3⟩
      · obtain ⟨p, hp, rfl⟩ := List.mem_map.mp hy
        have z := postS_length p
        have := hb p hp
        lia
      · have e0 : (" " : Str).length = 1 := by decide +kernel
        rw [List.length_map, e0]
        lia
theorem ok_shown (T : Txt K mg t) : FnOk P w K mg base CX0 3 t.a_shown t.fd_shown ["width", "posts"] sp_shown := by
  have G_layers : FnOk P w K mg base CX0 2 t.a_layers t.fd_layers ["width", "posts"] sp_layers := ok_layers T
  have G_figures_of : FnOk P w K mg base CX0 1 t.a_figures_of t.fd_figures_of ["number"] sp_figures_of := ok_figures_of T
  have G_line_of : FnOk P w K mg base CX0 2 t.a_line_of t.fd_line_of ["layer"] sp_line_of := ok_line_of T
  refine T.F_shown.ok sc_shown (fun vs H Q E h => ?_) (fun cdv A outer s H vs Q E hr h => ?_)
  · obtain ⟨w, a, ps, rfl, _⟩ := h
    rfl
  · obtain ⟨w, a, ps, rfl, hP, h1, h2, hn, hpl, k⟩ := h
    have hr_layers := hr
    have hr_figures_of := hr.mono (j := 1) (by decide)
    have hr_line_of := hr
    refine ⟨_, (pss_cons (ps_set (i := 2) sc_shown.nd rfl (Or.inl rfl) (pe_call G_layers hr_layers rfl T.m_layers T.F_layers.kp T.b_layers .nil pass0 (pa_cons (pv 0) (pa_cons (pv 1) pa_nil))))
      (pss_one (ps_ret (pe_op op_cat (pe_lst (pa_cons (pe_call G_figures_of hr_figures_of rfl T.m_figures_of T.F_figures_of.kp T.b_figures_of .nil pass0 (pa_cons (pv 0) pa_nil)) pa_nil)) (pe_lc rfl rfl (pi_list (pv 2)) (by rfl) (LcFree.nil (N := ["layer"]) [(".0", .local), ("layer", .local), ("line_of", .globalImplicit)] rfl rfl (by decide +kernel)) rfl (by decide +kernel) (by decide +kernel) (fun _ _ _ _ => (pg_name (i := 0) (show (["layer"] : List Str).Nodup by decide +kernel) rfl (Or.inl rfl))) (fun _ _ _ _ => (pe_call G_line_of hr_line_of rfl T.m_line_of T.F_line_of.kp T.b_line_of .nil pass0 (pa_cons (pv 0) pa_nil)))))))), ?_⟩
    refine ⟨_, rfl, _, rfl, w, a, ps, rfl, hP, h1, hn, hpl, fun fo qs Ls H1 s1 n1 ef hL hLs hso => ?_⟩
    have hql := hL.1
    obtain ⟨hlen, _⟩ := hLs.pass hn
    have hdl := deep_le (ps := ps) ps.length (Nat.le_refl _)
    have hll := hLs.len
    refine ⟨_, rfl, w.toNat, ?_, by lia, fun H2 s2 => ⟨(by show 1 ≤ sizeLine; decide), fun l1 hl1 => ?_⟩⟩
    · show [V.int w] = [V.int ((w.toNat : Nat) : Int)]
      rw [show ((w.toNat : Nat) : Int) = w by lia]
    have S2 := s2.trans (Same.new (o := .lst [V.str (figS w.toNat)]) hl1)
    have ef2 := S2 _ _ ef
    refine ⟨_, rfl, fo, rfl, ⟨_, SqL.of ef2⟩, fun D hD => lc_list (K := K) (a := fo) (xs := qs.map V.ref) (fun j σ3 H3 => ∃ (u : Option V), σ3 = [u] ∧ Same (upd H2 l1 (.lst [V.str (figS w.toNat)])) H3 ∧ H3 D = some (.lst (((Ls.take j).map lineS).map V.str)))
      ⟨none, rfl, Same.new hD, upd_same⟩ (fun j σ3 H3 _ ⟨_, _, s3, _⟩ => SqL.of (s3 _ _ ef2)) ?_ ?_⟩
    · rintro j x σ3 H3 hj ⟨u, rfl, s3, e3⟩
      have hjl := (List.getElem?_eq_some_iff.mp hj).1
      obtain ⟨q, hq, rfl⟩ := map_get hj
      rw [List.length_map] at hjl
      have hLj : Ls[j]? = some Ls[j] := List.getElem?_eq_getElem (by lia)
      generalize Ls[j] = L at hLj
      have hPq := ((hL.2 j q L hq hLj).mono S2).mono s3
      have hLl : L.length ≤ 100 := by
        have z := (hLs.at_ j L hLj).length_eq
        unfold bucket at z
        rw [List.length_map] at z
        have z2 := List.length_filter_le (fun i => decide (numAt ps i = j)) (List.range ps.length)
        rw [List.length_range] at z2
        lia
      refine ⟨_, rfl, q, L, rfl, hPq, hLl, fun p hp => ?_, fun H4 s4 => ?_⟩
      · have z := hn p (hLs.mem hLj hp)
        lia
      · refine LcEnd.mk (s4 _ _ e3) (big' (by rw [List.length_map, List.length_map, List.length_take]; lia)) (by rw [List.length_map]; exact hjl) ⟨_, rfl, (s3.trans s4).upd hD, ?_⟩
        rw [upd_same, take_snoc hLj, List.map_append, List.map_append]
        rfl
    · rintro σ3 H3 ⟨u, rfl, s3, e3⟩
      rw [List.length_map, hql, List.take_length] at e3
      have e1 : H3 l1 = some (.lst [V.str (figS w.toNat)]) := s3 _ _ upd_same
      refine ⟨l1, D, _, _, rfl, rfl, e1, e3, big (by rw [List.length_map, List.length_map]; show 1 + _ ≤ 100000; lia), fun l2 hl2 => ?_⟩
      have S3 := (s1.trans S2).trans s3
      exact k l2 Ls _ (S3.trans (Same.new hl2)) (S3.free hl2) upd_same hLs hso
end
end PN
namespace PN
open PySem L2
/-! ### the law's own helpers -/
noncomputable def sp_at : Sp := fun vs H Q _ => ∃ (a : Addr) (k : Nat) (ns : List Int), vs = [.ref a, .int (k : Nat)] ∧ Ints H a ns ∧ ns.length ≤ 1000 ∧ Q (.int (ns.getD k 0)) H
noncomputable def sp_posts_by : Sp := fun vs H Q _ => ∃ (w : Int) (a : Addr) (cs : List Int), vs = [.int w, .ref a] ∧ Ints H a cs ∧ 1 ≤ w ∧ w ≤ 1000000 ∧ cs.length ≤ 1000 ∧
  ∀ l ps H', Same H H' → H l = none → Posts H' l ps → Net w.toNat ps → ps.length ≤ cs.length → Q (.ref l) H'
section
variable {P : Program} {w : World} {K : PySem.W.Frag} {mg : Str → Option Value} {base : Heap} {t : Adr}
theorem ok__law_at (T : Txt K mg t) : FnOk P w K mg base CX0 1 t.a__law_at t.fd__law_at ["_law_script", "_law_k"] sp_at := by
  refine T.F__law_at.ok sc__law_at (fun vs H Q E h => ?_) (fun cdv A outer s H vs Q E hr h => ?_)
  · obtain ⟨a, i, ns, rfl, _⟩ := h
    rfl
  · obtain ⟨a, i, ns, rfl, ha, hl, k⟩ := h
    refine ⟨_, (pss_cons (ps_if (pt_cmpR op_lt (pv 1) (pe_callB call_len_seq (by rfl) T.z_len PySem.boot_len (pa_cons (pv 0) pa_nil)) (nomark _)) (pss_one (ps_ret (pe_ix ix_list (pv 0) (pv 1) (fun _ _ => rfl))))
        pss_nil)
      (pss_one (ps_ret pe_int))), ?_⟩
    refine ⟨_, rfl, _, rfl, a, _, rfl, .inl (SqL.of ha), _, _, rfl, rfl, _, rfl, ?_⟩
    by_cases c : i < ns.length
    · refine iteD (by rw [List.length_map]; lia) ?_
      exact ⟨_, rfl, _, rfl, a, _, _, _, rfl, rfl, SqL.of ha, at_ints c, k⟩
    · refine iteDn (by rw [List.length_map]; lia) ?_
      have e : ns.getD i 0 = 0 := by rw [List.getD_eq_getElem?_getD, List.getElem?_eq_none (by lia)]; rfl
      rw [e] at k
      exact k
/-- a post by a cell -/
theorem post_by {w c : Int} (h : 1 < w) : 0 ≤ c % (w - 1) ∧ c % (w - 1) < c % (w - 1) + 1 + c / (w - 1) % (w - 1 - c % (w - 1)) ∧ c % (w - 1) + 1 + c / (w - 1) % (w - 1 - c % (w - 1)) < w := by
  have h1 := Int.emod_nonneg c (show w - 1 ≠ 0 by lia)
  have h2 := Int.emod_lt_of_pos c (show 0 < w - 1 by lia)
  have h3 := Int.emod_nonneg (c / (w - 1)) (show w - 1 - c % (w - 1) ≠ 0 by lia)
  have h4 := Int.emod_lt_of_pos (c / (w - 1)) (show 0 < w - 1 - c % (w - 1) by lia)
  lia
theorem ok__law_posts_by (T : Txt K mg t) : FnOk P w K mg base CX0 1 t.a__law_posts_by t.fd__law_posts_by ["_law_width", "_law_cells"] sp_posts_by := by
  refine T.F__law_posts_by.ok sc__law_posts_by (fun vs H Q E h => ?_) (fun cdv A outer s H vs Q E hr h => ?_)
  · obtain ⟨w, a, cs, rfl, _⟩ := h
    rfl
  · obtain ⟨w, a, cs, rfl, ha, h1, hbig, hl, k⟩ := h
    refine ⟨_, (pss_cons (ps_set (i := 2) sc__law_posts_by.nd rfl (Or.inl rfl) (pe_lst pa_nil))
      (pss_cons (ps_for PassesOwn.never rfl (pi_list (pv 1)) (pg_name (i := 3) sc__law_posts_by.nd rfl (Or.inl rfl))
        (pss_one (ps_if (pt_cmpR op_gt (pv 0) pe_int (nomark _)) (pss_cons (ps_set (i := 4) sc__law_posts_by.nd rfl (Or.inl rfl) (pe_op op_mod (pv 3) (pe_op op_sub (pv 0) pe_int)))
          (pss_cons (ps_set (i := 5) sc__law_posts_by.nd rfl (Or.inl rfl) (pe_op op_add (pe_op op_add (pv 4) pe_int) (pe_op op_mod (pe_op op_fdiv (pv 3) (pe_op op_sub (pv 0) pe_int)) (pe_op op_sub (pe_op op_sub (pv 0) pe_int) (pv 4)))))
          (pss_one (ps_expr (pe_bm PySem.F.plainAttrs_list PySem.F.slot_list_append PySem.F.type_list_append mt_append (pv 2) (pa_cons (pe_tup (pa_cons (pv 4) (pa_cons (pv 5) pa_nil))) pa_nil))))))
          pss_nil)))
      (pss_one (ps_ret (pv 2))))), ?_⟩
    refine ⟨Nat.zero_le _, fun l hnl => ?_⟩
    have s0 : Same H (upd H l (.lst [])) := Same.new hnl
    refine ⟨_, rfl, a, rfl, ⟨_, SqL.of (s0 _ _ ha)⟩, for_list (K := K) (a := a) (xs := cs.map V.int) (fun i σ H2 => ∃ (u v y : Option V) (rs : List Addr) (ps : List Post), σ = [some (.int w), some (.ref a), some (.ref l), u, v, y] ∧ Same H H2 ∧
        H2 l = some (.lst (rs.map V.ref)) ∧ Tups H2 rs ps ∧ Net w.toNat ps ∧ ps.length ≤ i)
      ⟨none, none, none, [], [], rfl, s0, upd_same, ⟨rfl, fun i r p z _ => by simp at z⟩, fun p hp => by simp at hp, Nat.le_refl _⟩ (fun i σ H2 _ ⟨_, _, _, _, _, _, s2, _⟩ => SqL.of (s2 _ _ ha)) ?_ ?_⟩
    · rintro i x σ H2 hi ⟨u, v, y, rs, ps, rfl, s2, e2, t2, n2, l2⟩
      have hil : i < cs.length := by
        have z := (List.getElem?_eq_some_iff.mp hi).1
        rw [List.length_map] at z
        exact z
      obtain ⟨c, hc, rfl⟩ := map_get hi
      refine ⟨_, rfl, _, _, rfl, rfl, _, rfl, ?_⟩
      by_cases hw : 1 < w
      · refine iteD hw ?_
        obtain ⟨q1, q2, q3⟩ := post_by (c := c) hw
        refine ⟨_, rfl, _, rfl, _, _, rfl, rfl, _, _, rfl, rfl, (by show 0 < w - 1; lia), ?_⟩
        refine ⟨_, rfl, _, _, rfl, rfl, _, rfl, _, rfl, _, _, rfl, rfl, _, _, rfl, rfl, (show 0 < w - 1 ∧ w - 1 < 1073741824 by lia), _, rfl, _, _, rfl, rfl, _, rfl, _, _, rfl, rfl, _, _, rfl, rfl, (show 0 < w - 1 - c % (w - 1) by
            have z := Int.emod_lt_of_pos c (show 0 < w - 1 by lia)
            lia), _, _, rfl, rfl, ?_⟩
        refine ⟨_, rfl, .inl ⟨rfl, _, SqL.of e2⟩, _, rfl, _, rfl, (by show 2 ≤ sizeLine; decide), fun q hq => ⟨l, _, _, rfl, rfl, (by rw [upd_ne (ne_of_none e2 hq)]; exact e2), big' (by rw [List.length_map, t2.1]; lia), ?_⟩⟩
        have nql : q ≠ l := (ne_of_none e2 hq).symm
        refine ⟨_, _, _, rs ++ [q], ps ++ [((c % (w - 1)).toNat, (c % (w - 1) + 1 + c / (w - 1) % (w - 1 - c % (w - 1))).toNat)], rfl, (s2.upd (s2.free hq)).upd hnl, ?_, ?_, ?_, ?_⟩
        · rw [upd_same, List.map_append]
          rfl
        · refine Tups.snoc ?_ ?_
          · exact (t2.mono (Same.new hq)).keep (tup_keep (by rw [upd_ne nql.symm]; exact e2))
          · rw [upd_ne nql, upd_same]
            have e1 : ((c % (w - 1)).toNat : Int) = c % (w - 1) := by lia
            have e3 : ((c % (w - 1) + 1 + c / (w - 1) % (w - 1 - c % (w - 1))).toNat : Int) = c % (w - 1) + 1 + c / (w - 1) % (w - 1 - c % (w - 1)) := by lia
            show some (HO.tup [.int _, .int _]) = some (HO.tup [.int ((c % (w - 1)).toNat : Int), .int ((c % (w - 1) + 1 + c / (w - 1) % (w - 1 - c % (w - 1))).toNat : Int)])
            rw [e1, e3]
        · intro p hp
          rcases List.mem_append.mp hp with hp | hp
          · exact n2 p hp
          · rw [List.mem_singleton.mp hp]
            show (c % (w - 1)).toNat < (c % (w - 1) + 1 + c / (w - 1) % (w - 1 - c % (w - 1))).toNat ∧ (c % (w - 1) + 1 + c / (w - 1) % (w - 1 - c % (w - 1))).toNat < w.toNat
            lia
        · rw [List.length_append, List.length_singleton]
          lia
      · refine iteDn hw ?_
        exact ⟨_, _, _, rs, ps, rfl, s2, e2, t2, n2, by lia⟩
    · rintro σ H2 ⟨u, v, y, rs, ps, rfl, s2, e2, t2, n2, l2⟩
      rw [List.length_map] at l2
      exact ⟨_, rfl, k l ps H2 s2 hnl ⟨rs, e2, t2⟩ n2 l2⟩
end
end PN
namespace PN
open PySem L2
/-! ### refusals -/
noncomputable abbrev IPost := Int × Int
noncomputable def ITups (H : Hp) (rs : List Addr) (qs : List IPost) : Prop := rs.length = qs.length ∧ ∀ (i : Nat) r q, rs[i]? = some r → qs[i]? = some q → H r = some (.tup [.int q.1, .int q.2])
noncomputable def IPosts (H : Hp) (a : Addr) (qs : List IPost) : Prop := ∃ rs : List Addr, H a = some (.lst (rs.map V.ref)) ∧ ITups H rs qs
theorem ITups.get {H : Hp} {rs : List Addr} {qs : List IPost} (h : ITups H rs qs) {i : Nat} {r : Addr} (e : rs[i]? = some r) : ∃ q, qs[i]? = some q ∧ H r = some (.tup [.int q.1, .int q.2]) := by
  have hi : i < qs.length := by rw [← h.1]; exact (List.getElem?_eq_some_iff.mp e).1
  exact ⟨qs[i], List.getElem?_eq_getElem hi, h.2 i r _ e (List.getElem?_eq_getElem hi)⟩
theorem ITups.mono {H H' : Hp} {rs : List Addr} {qs : List IPost} (h : ITups H rs qs) (s : Same H H') : ITups H' rs qs := ⟨h.1, fun i r p a b => s _ _ (h.2 i r p a b)⟩
theorem IPosts.mono {H H' : Hp} {a : Addr} {qs : List IPost} (h : IPosts H a qs) (s : Same H H') : IPosts H' a qs := let ⟨rs, e, t⟩ := h; ⟨rs, s _ _ e, t.mono s⟩
noncomputable def badP (w : Int) (q : IPost) : Bool := !(decide (0 ≤ q.1) && decide (q.1 < q.2) && decide (q.2 < w))
noncomputable def badN (w : Int) (qs : List IPost) : Bool := decide (w < 1) || qs.any (badP w)
/-- a good net has posts of lanes -/
theorem IPosts.good {H : Hp} {a : Addr} {qs : List IPost} {w : Int} (h : IPosts H a qs) (g : badN w qs = false) : 1 ≤ w ∧ ∃ ps : List Post, Posts H a ps ∧ Net w.toNat ps ∧ ps.length = qs.length := by
  unfold badN at g
  rw [Bool.or_eq_false_iff] at g
  have g1 : ¬ w < 1 := of_decide_eq_false g.1
  have g2 : ∀ q ∈ qs, 0 ≤ q.1 ∧ q.1 < q.2 ∧ q.2 < w := fun q hq => by
    have z := List.any_eq_false.mp g.2 q hq
    unfold badP at z
    simp only [Bool.not_eq_true', Bool.not_eq_false, Bool.and_eq_true, decide_eq_true_eq] at z
    exact ⟨z.1.1, z.1.2, z.2⟩
  obtain ⟨rs, e, t1, t2⟩ := h
  refine ⟨by lia, qs.map (fun q => (q.1.toNat, q.2.toNat)), ⟨rs, e, ⟨by rw [List.length_map]; exact t1, fun i r p hi hp => ?_⟩⟩, fun p hp => ?_, List.length_map ..⟩
  · rw [List.getElem?_map] at hp
    cases hq : qs[i]? with
    | none => rw [hq] at hp; cases hp
    | some q =>
      rw [hq] at hp
      cases hp
      have z := g2 q (List.mem_of_getElem? hq)
      have y := t2 i r q hi hq
      rw [y]
      show some (HO.tup [V.int q.1, V.int q.2]) = some (HO.tup [V.int ((q.1.toNat : Nat) : Int), V.int ((q.2.toNat : Nat) : Int)])
      rw [Int.toNat_of_nonneg z.1, Int.toNat_of_nonneg (by lia : 0 ≤ q.2)]
  · obtain ⟨q, hq, rfl⟩ := List.mem_map.mp hp
    have z := g2 q hq
    show q.1.toNat < q.2.toNat ∧ q.2.toNat < w.toNat
    lia
/-- what is refused: the net; its width alone; the row; the width for trying -/
noncomputable def spB (t : Adr) : Sp := fun vs H _ E => ∃ (w : Int) (a : Addr) (qs : List IPost), vs = [.int w, .ref a] ∧ IPosts H a qs ∧ qs.length ≤ 1000 ∧ badN w qs = true ∧ ∀ ea H', Same H H' → E (.ref t.c_BadPost) (some ea) H'
noncomputable def spB3 (t : Adr) : Sp := fun vs H _ E => ∃ (w : Int) (a b : Addr) (qs : List IPost), vs = [.int w, .ref a, .ref b] ∧ IPosts H a qs ∧ qs.length ≤ 1000 ∧ badN w qs = true ∧ ∀ ea H', Same H H' → E (.ref t.c_BadPost) (some ea) H'
noncomputable def spB1 (t : Adr) : Sp := fun vs H _ E => ∃ (w : Int), vs = [.int w] ∧ w < 1 ∧ ∀ ea H', Same H H' → E (.ref t.c_BadPost) (some ea) H'
noncomputable def spR3 (t : Adr) : Sp := fun vs H _ E => ∃ (w : Int) (a b : Addr) (ps : List Post) (ys : List V), vs = [.int w, .ref a, .ref b] ∧ Posts H a ps ∧ 1 ≤ w ∧ Net w.toNat ps ∧ H b = some (.lst ys) ∧ (ys.length : Int) ≠ w ∧ ∀ ea H', Same H H' → E (.ref t.c_BadRow) (some ea) H'
noncomputable def spT (t : Adr) : Sp := fun vs H _ E => ∃ (w : Int) (a : Addr) (ps : List Post), vs = [.int w, .ref a] ∧ Posts H a ps ∧ 12 < w ∧ Net w.toNat ps ∧ ∀ ea H', Same H H' → E (.ref t.c_TooWide) (some ea) H'
section
variable {P : Program} {w : World} {K : PySem.W.Frag} {mg : Str → Option Value} {base : Heap} {t : Adr}
theorem no_check_net (T : Txt K mg t) : FnOk P w K mg base (CXw P w) 1 t.a_check_net t.fd_check_net ["width", "posts"] (spB t) := by
  refine T.F_check_net.okW sc_check_net (fun vs H Q E h => ?_) (fun cdv A outer s H vs Q E hr h => ?_)
  · obtain ⟨w, a, qs, rfl, _⟩ := h
    rfl
  · obtain ⟨w, a, qs, rfl, ⟨rs, hl, ht⟩, hz, hb, k⟩ := h
    refine ⟨_, (pss_cons (ps_if (pt_cmpR op_lt (pv 0) pe_int (nomark _)) (pss_one (ps_raise rfl rfl T.k_BadPost T.x_BadPost madeW pe_str))
        pss_nil)
      (pss_one (ps_for pownW rfl (pi_enum rfl T.z_enumerate (pa_cons (pv 1) pa_nil)) (pg_tup rfl (pgs_cons (pg_name (i := 2) sc_check_net.nd rfl (Or.inl rfl)) (pgs_cons (pg_name (i := 3) sc_check_net.nd rfl (Or.inl rfl)) pgs_nil)))
        (pss_one (ps_if (pt_not (pt_chain3 op_le op_lt op_lt pe_int (pe_ix ix_tup (pv 3) pe_int (fun _ _ => rfl)) (pe_ix ix_tup (pv 3) pe_int (fun _ _ => rfl)) (pv 0))) (pss_one (ps_raise rfl rfl T.k_BadPost T.x_BadPost madeW (pe_fmt (pv 2))))
          pss_nil))))), ?_⟩
    refine ⟨_, rfl, _, _, rfl, rfl, _, rfl, ?_⟩
    by_cases c0 : w < 1
    · exact iteD c0 fun ea he => k ea _ (Same.refl H)
    refine iteDn c0 ?_
    have hany : qs.any (badP w) = true := by
      unfold badN at hb
      rw [decide_eq_false c0, Bool.false_or] at hb
      exact hb
    refine ⟨_, rfl, a, rfl, ⟨_, SqL.of hl⟩, for_enum (K := K) (a := a) (xs := rs.map V.ref) (fun i σ H2 => ∃ u v : Option V, σ = [some (.int w), some (.ref a), u, v] ∧ Same H H2 ∧ ∀ j q, j < i → qs[j]? = some q → badP w q = false)
      ⟨none, none, rfl, Same.refl H, fun j q z _ => absurd z (Nat.not_lt_zero _)⟩ (fun i σ H2 _ ⟨_, _, _, s2, _⟩ => SqL.of (s2 _ _ hl)) ?_ ?_⟩
    · rintro i x q σ H2 hi ⟨u, v, rfl, s2, g2⟩ hq
      obtain ⟨r, hr', rfl⟩ := map_get hi
      obtain ⟨p, hp, er⟩ := ht.get hr'
      have er2 : (upd H2 q (.tup [.int (i : Nat), .ref r])) r = some (.tup [.int p.1, .int p.2]) := by
        rw [upd_ne (ne_of_none (s2 _ _ er) hq)]
        exact s2 _ _ er
      have hil : i < qs.length := (List.getElem?_eq_some_iff.mp hp).1
      have no : ∀ ea, E (.ref t.c_BadPost) (some ea) (upd H2 q (.tup [.int (i : Nat), .ref r])) := fun ea => k ea _ (s2.upd (s2.free hq))
      refine ⟨q, _, rfl, SqT.of upd_same, rfl, _, _, rfl, _, _, rfl, rfl, ?_⟩
      refine ⟨_, rfl, r, _, _, _, rfl, rfl, SqT.of er2, rfl, _, _, rfl, rfl, _, rfl, ?_⟩
      by_cases c1 : 0 ≤ p.1
      · refine iteD c1 ?_
        refine ⟨_, rfl, r, _, _, _, rfl, rfl, SqT.of er2, rfl, _, _, rfl, rfl, _, rfl, ?_⟩
        by_cases c2 : p.1 < p.2
        · refine iteD c2 ?_
          refine ⟨_, rfl, _, _, rfl, rfl, _, rfl, ?_⟩
          by_cases c3 : p.2 < w
          · refine iteNS c3 ?_
            refine ⟨_, _, rfl, s2.upd (s2.free hq), fun j q' hj hj' => ?_⟩
            by_cases e : j = i
            · subst e
              rw [hp] at hj'
              cases hj'
              unfold badP
              rw [decide_eq_true c1, decide_eq_true c2, decide_eq_true c3]
              rfl
            · exact g2 j q' (by lia) hj'
          · refine iteN c3 ?_
            exact ⟨_, rfl, _, rfl, by lia, fun z ea _ => no ea⟩
        · refine iteDn c2 ⟨_, rfl, iteT ?_⟩
          exact ⟨_, rfl, _, rfl, by lia, fun z ea _ => no ea⟩
      · refine iteDn c1 ⟨_, rfl, iteT ?_⟩
        exact ⟨_, rfl, _, rfl, by lia, fun z ea _ => no ea⟩
    · rintro σ H2 ⟨u, v, rfl, s2, g2⟩
      exfalso
      obtain ⟨q, hq, bq⟩ := List.any_eq_true.mp hany
      obtain ⟨j, hj⟩ := List.getElem?_of_mem hq
      have := g2 j q (by rw [List.length_map, ht.1]; exact (List.getElem?_eq_some_iff.mp hj).1) hj
      rw [bq] at this
      cases this
theorem no_mirrored (T : Txt K mg t) : FnOk P w K mg base (CXw P w) 2 t.a_mirrored t.fd_mirrored ["width", "posts"] (spB t) := by
  refine T.F_mirrored.okW sc_mirrored (fun vs H Q E h => ?_) (fun cdv A outer s H vs Q E hr h => ?_)
  · obtain ⟨w, a, qs, rfl, _⟩ := h
    rfl
  · obtain ⟨w, a, qs, rfl, hP, hz, hb, k⟩ := h
    refine ⟨_, (pss_cons (ps_expr (pe_callS (no_check_net T) hr rfl T.m_check_net T.F_check_net.kp T.b_check_net passS (pa_cons (pv 0) (pa_cons (pv 1) pa_nil)))) pss_never), ?_⟩
    exact ⟨_, rfl, _, rfl, w, a, qs, rfl, hP, hz, hb, k⟩
theorem no_layers (T : Txt K mg t) : FnOk P w K mg base (CXw P w) 2 t.a_layers t.fd_layers ["width", "posts"] (spB t) := by
  refine T.F_layers.okW sc_layers (fun vs H Q E h => ?_) (fun cdv A outer s H vs Q E hr h => ?_)
  · obtain ⟨w, a, qs, rfl, _⟩ := h
    rfl
  · obtain ⟨w, a, qs, rfl, hP, hz, hb, k⟩ := h
    refine ⟨_, (pss_cons (ps_expr (pe_callS (no_check_net T) hr rfl T.m_check_net T.F_check_net.kp T.b_check_net passS (pa_cons (pv 0) (pa_cons (pv 1) pa_nil)))) pss_never), ?_⟩
    exact ⟨_, rfl, _, rfl, w, a, qs, rfl, hP, hz, hb, k⟩
theorem no_chain (T : Txt K mg t) : FnOk P w K mg base (CXw P w) 2 t.a_chain t.fd_chain ["width", "posts"] (spB t) := by
  refine T.F_chain.okW sc_chain (fun vs H Q E h => ?_) (fun cdv A outer s H vs Q E hr h => ?_)
  · obtain ⟨w, a, qs, rfl, _⟩ := h
    rfl
  · obtain ⟨w, a, qs, rfl, hP, hz, hb, k⟩ := h
    refine ⟨_, (pss_cons (ps_expr (pe_callS (no_check_net T) hr rfl T.m_check_net T.F_check_net.kp T.b_check_net passS (pa_cons (pv 0) (pa_cons (pv 1) pa_nil)))) pss_never), ?_⟩
    exact ⟨_, rfl, _, rfl, w, a, qs, rfl, hP, hz, hb, k⟩
theorem no_check_trial (T : Txt K mg t) : FnOk P w K mg base (CXw P w) 2 t.a_check_trial t.fd_check_trial ["width", "posts"] (spB t) := by
  refine T.F_check_trial.okW sc_check_trial (fun vs H Q E h => ?_) (fun cdv A outer s H vs Q E hr h => ?_)
  · obtain ⟨w, a, qs, rfl, _⟩ := h
    rfl
  · obtain ⟨w, a, qs, rfl, hP, hz, hb, k⟩ := h
    refine ⟨_, (pss_cons (ps_expr (pe_callS (no_check_net T) hr rfl T.m_check_net T.F_check_net.kp T.b_check_net passS (pa_cons (pv 0) (pa_cons (pv 1) pa_nil)))) pss_never), ?_⟩
    exact ⟨_, rfl, _, rfl, w, a, qs, rfl, hP, hz, hb, k⟩
theorem no_check_row (T : Txt K mg t) : FnOk P w K mg base (CXw P w) 2 t.a_check_row t.fd_check_row ["width", "posts", "row"] (spB3 t) := by
  refine T.F_check_row.okW sc_check_row (fun vs H Q E h => ?_) (fun cdv A outer s H vs Q E hr h => ?_)
  · obtain ⟨w, a, b, qs, rfl, _⟩ := h
    rfl
  · obtain ⟨w, a, b, qs, rfl, hP, hz, hb, k⟩ := h
    refine ⟨_, (pss_cons (ps_expr (pe_callS (no_check_net T) hr rfl T.m_check_net T.F_check_net.kp T.b_check_net passS (pa_cons (pv 0) (pa_cons (pv 1) pa_nil)))) pss_never), ?_⟩
    exact ⟨_, rfl, _, rfl, w, a, qs, rfl, hP, hz, hb, k⟩
theorem row_check_row (T : Txt K mg t) : FnOk P w K mg base (CXw P w) 2 t.a_check_row t.fd_check_row ["width", "posts", "row"] (spR3 t) := by
  have G_check_net : FnOk P w K mg base (CXw P w) 1 t.a_check_net t.fd_check_net ["width", "posts"] sp_check_net := (ok_check_net T).lift
  refine T.F_check_row.okW sc_check_row (fun vs H Q E h => ?_) (fun cdv A outer s H vs Q E hr h => ?_)
  · obtain ⟨w, a, b, ps, ys, rfl, _⟩ := h
    rfl
  · obtain ⟨w, a, b, ps, ys, rfl, hP, h1, hn, hb, hl, k⟩ := h
    have hr_check_net := hr
    refine ⟨_, (pss_cons (ps_expr (pe_callS G_check_net hr_check_net rfl T.m_check_net T.F_check_net.kp T.b_check_net passS (pa_cons (pv 0) (pa_cons (pv 1) pa_nil))))
      (pss_one (ps_if (pt_cmpR op_ne (pe_callB call_len_seq (by rfl) T.z_len PySem.boot_len (pa_cons (pv 2) pa_nil)) (pv 0) (nomark _)) (pss_one (ps_raise rfl rfl T.k_BadRow T.x_BadRow madeW pe_str))
        pss_nil))), ?_⟩
    refine ⟨_, rfl, _, rfl, w, a, ps, rfl, hP, h1, hn, fun H1 s1 => ?_⟩
    refine ⟨_, rfl, b, ys, rfl, .inl (SqL.of (s1 _ _ hb)), _, rfl, rfl, _, rfl, ?_⟩
    refine iteN (fun z => hl (V.int.inj z)) ?_
    exact fun ea _ => k ea H1 s1
theorem wide_check_trial (T : Txt K mg t) : FnOk P w K mg base (CXw P w) 2 t.a_check_trial t.fd_check_trial ["width", "posts"] (spT t) := by
  have G_check_net : FnOk P w K mg base (CXw P w) 1 t.a_check_net t.fd_check_net ["width", "posts"] sp_check_net := (ok_check_net T).lift
  refine T.F_check_trial.okW sc_check_trial (fun vs H Q E h => ?_) (fun cdv A outer s H vs Q E hr h => ?_)
  · obtain ⟨w, a, ps, rfl, _⟩ := h
    rfl
  · obtain ⟨w, a, ps, rfl, hP, h1, hn, k⟩ := h
    have hr_check_net := hr
    refine ⟨_, (pss_cons (ps_expr (pe_callS G_check_net hr_check_net rfl T.m_check_net T.F_check_net.kp T.b_check_net passS (pa_cons (pv 0) (pa_cons (pv 1) pa_nil))))
      (pss_one (ps_if (pt_cmpR op_gt (pv 0) (pe_glob (v := .int 12) rfl T.c_MOST_LANES_TRIED ⟨_, rfl⟩) (nomark _)) (pss_one (ps_raise rfl rfl T.k_TooWide T.x_TooWide madeW (pe_fmt (pe_glob (v := .int 12) rfl T.c_MOST_LANES_TRIED ⟨_, rfl⟩))))
        pss_nil))), ?_⟩
    refine ⟨_, rfl, _, rfl, w, a, ps, rfl, hP, by lia, hn, fun H1 s1 => ?_⟩
    refine ⟨_, rfl, _, _, rfl, rfl, _, rfl, ?_⟩
    refine iteD h1 ?_
    exact ⟨_, rfl, by decide, fun z ea _ => k ea H1 s1⟩
theorem no_run (T : Txt K mg t) : FnOk P w K mg base (CXw P w) 3 t.a_run t.fd_run ["width", "posts", "row"] (spB3 t) := by
  refine T.F_run.okW sc_run (fun vs H Q E h => ?_) (fun cdv A outer s H vs Q E hr h => ?_)
  · obtain ⟨w, a, b, qs, rfl, _⟩ := h
    rfl
  · obtain ⟨w, a, b, qs, rfl, hh⟩ := h
    refine ⟨_, (pss_cons (ps_expr (pe_callS (no_check_row T) hr rfl T.m_check_row T.F_check_row.kp T.b_check_row passS (pa_cons (pv 0) (pa_cons (pv 1) (pa_cons (pv 2) pa_nil))))) pss_never), ?_⟩
    exact ⟨_, rfl, _, rfl, _, rfl, w, a, b, qs, rfl, hh⟩
theorem row_run (T : Txt K mg t) : FnOk P w K mg base (CXw P w) 3 t.a_run t.fd_run ["width", "posts", "row"] (spR3 t) := by
  refine T.F_run.okW sc_run (fun vs H Q E h => ?_) (fun cdv A outer s H vs Q E hr h => ?_)
  · obtain ⟨w, a, b, ps, ys, rfl, _⟩ := h
    rfl
  · obtain ⟨w, a, b, ps, ys, rfl, hh⟩ := h
    refine ⟨_, (pss_cons (ps_expr (pe_callS (row_check_row T) hr rfl T.m_check_row T.F_check_row.kp T.b_check_row passS (pa_cons (pv 0) (pa_cons (pv 1) (pa_cons (pv 2) pa_nil))))) pss_never), ?_⟩
    exact ⟨_, rfl, _, rfl, _, rfl, w, a, b, ps, ys, rfl, hh⟩
theorem no_walked (T : Txt K mg t) : FnOk P w K mg base (CXw P w) 3 t.a_walked t.fd_walked ["width", "posts", "row"] (spB3 t) := by
  refine T.F_walked.okW sc_walked (fun vs H Q E h => ?_) (fun cdv A outer s H vs Q E hr h => ?_)
  · obtain ⟨w, a, b, qs, rfl, _⟩ := h
    rfl
  · obtain ⟨w, a, b, qs, rfl, hh⟩ := h
    refine ⟨_, (pss_cons (ps_expr (pe_callS (no_check_row T) hr rfl T.m_check_row T.F_check_row.kp T.b_check_row passS (pa_cons (pv 0) (pa_cons (pv 1) (pa_cons (pv 2) pa_nil))))) pss_never), ?_⟩
    exact ⟨_, rfl, _, rfl, _, rfl, w, a, b, qs, rfl, hh⟩
theorem row_walked (T : Txt K mg t) : FnOk P w K mg base (CXw P w) 3 t.a_walked t.fd_walked ["width", "posts", "row"] (spR3 t) := by
  refine T.F_walked.okW sc_walked (fun vs H Q E h => ?_) (fun cdv A outer s H vs Q E hr h => ?_)
  · obtain ⟨w, a, b, ps, ys, rfl, _⟩ := h
    rfl
  · obtain ⟨w, a, b, ps, ys, rfl, hh⟩ := h
    refine ⟨_, (pss_cons (ps_expr (pe_callS (row_check_row T) hr rfl T.m_check_row T.F_check_row.kp T.b_check_row passS (pa_cons (pv 0) (pa_cons (pv 1) (pa_cons (pv 2) pa_nil))))) pss_never), ?_⟩
    exact ⟨_, rfl, _, rfl, _, rfl, w, a, b, ps, ys, rfl, hh⟩
theorem no_first_unsorted (T : Txt K mg t) : FnOk P w K mg base (CXw P w) 3 t.a_first_unsorted t.fd_first_unsorted ["width", "posts"] (spB t) := by
  refine T.F_first_unsorted.okW sc_first_unsorted (fun vs H Q E h => ?_) (fun cdv A outer s H vs Q E hr h => ?_)
  · obtain ⟨w, a, qs, rfl, _⟩ := h
    rfl
  · obtain ⟨w, a, qs, rfl, hh⟩ := h
    refine ⟨_, (pss_cons (ps_expr (pe_callS (no_check_trial T) hr rfl T.m_check_trial T.F_check_trial.kp T.b_check_trial passS (pa_cons (pv 0) (pa_cons (pv 1) pa_nil)))) pss_never), ?_⟩
    exact ⟨_, rfl, _, rfl, w, a, qs, rfl, hh⟩
theorem no_rows_acting (T : Txt K mg t) : FnOk P w K mg base (CXw P w) 3 t.a_rows_acting t.fd_rows_acting ["width", "posts"] (spB t) := by
  refine T.F_rows_acting.okW sc_rows_acting (fun vs H Q E h => ?_) (fun cdv A outer s H vs Q E hr h => ?_)
  · obtain ⟨w, a, qs, rfl, _⟩ := h
    rfl
  · obtain ⟨w, a, qs, rfl, hh⟩ := h
    refine ⟨_, (pss_cons (ps_expr (pe_callS (no_check_trial T) hr rfl T.m_check_trial T.F_check_trial.kp T.b_check_trial passS (pa_cons (pv 0) (pa_cons (pv 1) pa_nil)))) pss_never), ?_⟩
    exact ⟨_, rfl, _, rfl, w, a, qs, rfl, hh⟩
theorem no_sorts (T : Txt K mg t) : FnOk P w K mg base (CXw P w) 4 t.a_sorts t.fd_sorts ["width", "posts"] (spB t) := by
  refine T.F_sorts.okW sc_sorts (fun vs H Q E h => ?_) (fun cdv A outer s H vs Q E hr h => ?_)
  · obtain ⟨w, a, qs, rfl, _⟩ := h
    rfl
  · obtain ⟨w, a, qs, rfl, hh⟩ := h
    refine ⟨_, (pss_one (ps_ret (pe_cmp (pc_isN (pe_callS (no_first_unsorted T) hr rfl T.m_first_unsorted T.F_first_unsorted.kp T.b_first_unsorted passS (pa_cons (pv 0) (pa_cons (pv 1) pa_nil))))))), ?_⟩
    exact ⟨_, rfl, _, rfl, w, a, qs, rfl, hh⟩
theorem no_is_lean (T : Txt K mg t) : FnOk P w K mg base (CXw P w) 4 t.a_is_lean t.fd_is_lean ["width", "posts"] (spB t) := by
  refine T.F_is_lean.okW sc_is_lean (fun vs H Q E h => ?_) (fun cdv A outer s H vs Q E hr h => ?_)
  · obtain ⟨w, a, qs, rfl, _⟩ := h
    rfl
  · obtain ⟨w, a, qs, rfl, hh⟩ := h
    refine ⟨_, (pss_one (ps_ret (pe_cmpR (op_stop (op := .NotIn)) pe_non (pe_callS (no_rows_acting T) hr rfl T.m_rows_acting T.F_rows_acting.kp T.b_rows_acting passS (pa_cons (pv 0) (pa_cons (pv 1) pa_nil))) rfl))), ?_⟩
    exact ⟨_, rfl, _, rfl, w, a, qs, rfl, hh⟩
theorem no_thinned (T : Txt K mg t) : FnOk P w K mg base (CXw P w) 4 t.a_thinned t.fd_thinned ["width", "posts"] (spB t) := by
  refine T.F_thinned.okW sc_thinned (fun vs H Q E h => ?_) (fun cdv A outer s H vs Q E hr h => ?_)
  · obtain ⟨w, a, qs, rfl, _⟩ := h
    rfl
  · obtain ⟨w, a, qs, rfl, hh⟩ := h
    refine ⟨_, (pss_one (ps_ret (pe_lcStop (pe_callTy (call_stop (f := .type "zip")) (by rfl) T.z_zip PyProof.Rows.boot_zip (pa_cons (pv 1) (pa_cons (pe_callS (no_rows_acting T) hr rfl T.m_rows_acting T.F_rows_acting.kp T.b_rows_acting passS (pa_cons (pv 0) (pa_cons (pv 1) pa_nil))) pa_nil))) (by rfl) rfl (by decide +kernel)))), ?_⟩
    exact ⟨_, rfl, _, rfl, _, rfl, w, a, qs, rfl, hh⟩
theorem wide_first_unsorted (T : Txt K mg t) : FnOk P w K mg base (CXw P w) 3 t.a_first_unsorted t.fd_first_unsorted ["width", "posts"] (spT t) := by
  refine T.F_first_unsorted.okW sc_first_unsorted (fun vs H Q E h => ?_) (fun cdv A outer s H vs Q E hr h => ?_)
  · obtain ⟨w, a, ps, rfl, _⟩ := h
    rfl
  · obtain ⟨w, a, ps, rfl, hh⟩ := h
    refine ⟨_, (pss_cons (ps_expr (pe_callS (wide_check_trial T) hr rfl T.m_check_trial T.F_check_trial.kp T.b_check_trial passS (pa_cons (pv 0) (pa_cons (pv 1) pa_nil)))) pss_never), ?_⟩
    exact ⟨_, rfl, _, rfl, w, a, ps, rfl, hh⟩
theorem wide_rows_acting (T : Txt K mg t) : FnOk P w K mg base (CXw P w) 3 t.a_rows_acting t.fd_rows_acting ["width", "posts"] (spT t) := by
  refine T.F_rows_acting.okW sc_rows_acting (fun vs H Q E h => ?_) (fun cdv A outer s H vs Q E hr h => ?_)
  · obtain ⟨w, a, ps, rfl, _⟩ := h
    rfl
  · obtain ⟨w, a, ps, rfl, hh⟩ := h
    refine ⟨_, (pss_cons (ps_expr (pe_callS (wide_check_trial T) hr rfl T.m_check_trial T.F_check_trial.kp T.b_check_trial passS (pa_cons (pv 0) (pa_cons (pv 1) pa_nil)))) pss_never), ?_⟩
    exact ⟨_, rfl, _, rfl, w, a, ps, rfl, hh⟩
theorem wide_sorts (T : Txt K mg t) : FnOk P w K mg base (CXw P w) 4 t.a_sorts t.fd_sorts ["width", "posts"] (spT t) := by
  refine T.F_sorts.okW sc_sorts (fun vs H Q E h => ?_) (fun cdv A outer s H vs Q E hr h => ?_)
  · obtain ⟨w, a, ps, rfl, _⟩ := h
    rfl
  · obtain ⟨w, a, ps, rfl, hh⟩ := h
    refine ⟨_, (pss_one (ps_ret (pe_cmp (pc_isN (pe_callS (wide_first_unsorted T) hr rfl T.m_first_unsorted T.F_first_unsorted.kp T.b_first_unsorted passS (pa_cons (pv 0) (pa_cons (pv 1) pa_nil))))))), ?_⟩
    exact ⟨_, rfl, _, rfl, w, a, ps, rfl, hh⟩
theorem wide_is_lean (T : Txt K mg t) : FnOk P w K mg base (CXw P w) 4 t.a_is_lean t.fd_is_lean ["width", "posts"] (spT t) := by
  refine T.F_is_lean.okW sc_is_lean (fun vs H Q E h => ?_) (fun cdv A outer s H vs Q E hr h => ?_)
  · obtain ⟨w, a, ps, rfl, _⟩ := h
    rfl
  · obtain ⟨w, a, ps, rfl, hh⟩ := h
    refine ⟨_, (pss_one (ps_ret (pe_cmpR (op_stop (op := .NotIn)) pe_non (pe_callS (wide_rows_acting T) hr rfl T.m_rows_acting T.F_rows_acting.kp T.b_rows_acting passS (pa_cons (pv 0) (pa_cons (pv 1) pa_nil))) rfl))), ?_⟩
    exact ⟨_, rfl, _, rfl, w, a, ps, rfl, hh⟩
theorem wide_thinned (T : Txt K mg t) : FnOk P w K mg base (CXw P w) 4 t.a_thinned t.fd_thinned ["width", "posts"] (spT t) := by
  refine T.F_thinned.okW sc_thinned (fun vs H Q E h => ?_) (fun cdv A outer s H vs Q E hr h => ?_)
  · obtain ⟨w, a, ps, rfl, _⟩ := h
    rfl
  · obtain ⟨w, a, ps, rfl, hh⟩ := h
    refine ⟨_, (pss_one (ps_ret (pe_lcStop (pe_callTy (call_stop (f := .type "zip")) (by rfl) T.z_zip PyProof.Rows.boot_zip (pa_cons (pv 1) (pa_cons (pe_callS (wide_rows_acting T) hr rfl T.m_rows_acting T.F_rows_acting.kp T.b_rows_acting passS (pa_cons (pv 0) (pa_cons (pv 1) pa_nil))) pa_nil))) (by rfl) rfl (by decide +kernel)))), ?_⟩
    exact ⟨_, rfl, _, rfl, _, rfl, w, a, ps, rfl, hh⟩
theorem no_shown (T : Txt K mg t) : FnOk P w K mg base (CXw P w) 3 t.a_shown t.fd_shown ["width", "posts"] (spB t) := by
  refine T.F_shown.okW sc_shown (fun vs H Q E h => ?_) (fun cdv A outer s H vs Q E hr h => ?_)
  · obtain ⟨w, a, qs, rfl, _⟩ := h
    rfl
  · obtain ⟨w, a, qs, rfl, hh⟩ := h
    refine ⟨_, (pss_cons (ps_set (i := 2) sc_shown.nd rfl (Or.inl rfl) (pe_callS (no_layers T) hr rfl T.m_layers T.F_layers.kp T.b_layers passS (pa_cons (pv 0) (pa_cons (pv 1) pa_nil)))) pss_never), ?_⟩
    exact ⟨_, rfl, _, rfl, w, a, qs, rfl, hh⟩
theorem no_built (T : Txt K mg t) : FnOk P w K mg base (CXw P w) 2 t.a_built t.fd_built ["width"] (spB1 t) := by
  refine T.F_built.okW sc_built (fun vs H Q E h => ?_) (fun cdv A outer s H vs Q E hr h => ?_)
  · obtain ⟨w, rfl, _⟩ := h
    rfl
  · obtain ⟨w, rfl, hw, k⟩ := h
    refine ⟨_, (pss_cons (ps_expr (pe_callS (no_check_net T) hr rfl T.m_check_net T.F_check_net.kp T.b_check_net passS (pa_cons (pv 0) (pa_cons (pe_lst pa_nil) pa_nil)))) pss_never), ?_⟩
    refine ⟨_, rfl, Nat.zero_le _, fun l hl => ⟨w, l, [], rfl, ⟨[], upd_same, rfl, fun i r q z _ => by simp at z⟩, Nat.zero_le _, ?_, fun ea H' s' => k ea H' ((Same.new hl).trans s')⟩⟩
    unfold badN
    rw [decide_eq_true hw]
    rfl
theorem no_plain (T : Txt K mg t) : FnOk P w K mg base (CXw P w) 2 t.a_plain t.fd_plain ["width"] (spB1 t) := by
  refine T.F_plain.okW sc_plain (fun vs H Q E h => ?_) (fun cdv A outer s H vs Q E hr h => ?_)
  · obtain ⟨w, rfl, _⟩ := h
    rfl
  · obtain ⟨w, rfl, hw, k⟩ := h
    refine ⟨_, (pss_cons (ps_expr (pe_callS (no_check_net T) hr rfl T.m_check_net T.F_check_net.kp T.b_check_net passS (pa_cons (pv 0) (pa_cons (pe_lst pa_nil) pa_nil)))) pss_never), ?_⟩
    refine ⟨_, rfl, Nat.zero_le _, fun l hl => ⟨w, l, [], rfl, ⟨[], upd_same, rfl, fun i r q z _ => by simp at z⟩, Nat.zero_le _, ?_, fun ea H' s' => k ea H' ((Same.new hl).trans s')⟩⟩
    unfold badN
    rw [decide_eq_true hw]
    rfl
end
end PN
namespace PN
open PySem L2
/-! ### what each way comes to -/
noncomputable def dueC (t : Adr) (k w : Int) (qs : List IPost) (n : Nat) : Option Addr :=
  if ((badN w qs && decide (k < 11)) || decide (w < 1)) = true then some t.c_BadPost
  else if (k = 5 ∨ k = 6) ∧ (n : Int) ≠ w then some t.c_BadRow
  else if k < 5 ∧ 12 < w then some t.c_TooWide else none
noncomputable def Out (d : Option Addr) (H : Hp) (Q : VK) (E : XK) : Prop := match d with
  | some C => ∀ ea H', Same H H' → E (.ref C) (some ea) H'
  | none => ∀ v H', Same H H' → Q v H'
theorem badN_w {w : Int} {qs : List IPost} (h : badN w qs = false) : ¬ w < 1 := by
  unfold badN at h
  rw [Bool.or_eq_false_iff] at h
  exact of_decide_eq_false h.1
section
variable {t : Adr} {k w : Int} {qs : List IPost} {n : Nat}
theorem due_bad (h : badN w qs = true) (hk : k < 11) : dueC t k w qs n = some t.c_BadPost := by
  unfold dueC
  rw [h, decide_eq_true hk]
  rfl
theorem due_small (h : w < 1) : dueC t k w qs n = some t.c_BadPost := by
  unfold dueC
  rw [decide_eq_true h, Bool.or_true]
  rfl
theorem due_row (h : badN w qs = false) (hk : k = 5 ∨ k = 6) (hn : (n : Int) ≠ w) : dueC t k w qs n = some t.c_BadRow := by
  unfold dueC
  rw [h, decide_eq_false (badN_w h), if_neg (by simp), if_pos ⟨hk, hn⟩]
theorem due_wide (h : badN w qs = false) (hk : k < 5) (hw : 12 < w) : dueC t k w qs n = some t.c_TooWide := by
  unfold dueC
  rw [h, decide_eq_false (badN_w h), if_neg (by simp), if_neg (by lia), if_pos ⟨hk, hw⟩]
theorem due_none (h : badN w qs = false ∨ (¬ k < 11 ∧ ¬ w < 1)) (h1 : k < 5 → w ≤ 12) (h2 : k = 5 ∨ k = 6 → (n : Int) = w) : dueC t k w qs n = none := by
  unfold dueC
  have e : ((badN w qs && decide (k < 11)) || decide (w < 1)) = false := by
    rcases h with h | ⟨h, h'⟩
    · rw [h, decide_eq_false (badN_w h)]
      rfl
    · rw [decide_eq_false h, decide_eq_false h', Bool.and_false]
      rfl
  rw [e, if_neg (by simp), if_neg (fun z => z.2 (h2 z.1)), if_neg (fun z => by have := h1 z.1; lia)]
end
/-- a def of width and posts, a def of a row too, a def of a width alone -/
noncomputable def sp2 (t : Adr) (k : Int) : Sp := fun vs H Q E => ∃ (w : Int) (a : Addr) (qs : List IPost) (n : Nat), vs = [.int w, .ref a] ∧ IPosts H a qs ∧ qs.length ≤ 50 ∧ w ≤ 1000 ∧ Out (dueC t k w qs n) H Q E
noncomputable def sp3 (t : Adr) (k : Int) : Sp := fun vs H Q E => ∃ (w : Int) (a b : Addr) (qs : List IPost) (xs : List Int), vs = [.int w, .ref a, .ref b] ∧ IPosts H a qs ∧ qs.length ≤ 50 ∧ w ≤ 1000 ∧ Ints H b xs ∧ Out (dueC t k w qs xs.length) H Q E
noncomputable def sp1 (t : Adr) (k : Int) : Sp := fun vs H Q E => ∃ (w : Int) (qs : List IPost) (n : Nat), vs = [.int w] ∧ w ≤ 31 ∧ Out (dueC t k w qs n) H Q E
section
variable {P : Program} {w : World} {K : PySem.W.Frag} {mg : Str → Option Value} {base : Heap} {t : Adr}
theorem tw_first_unsorted (T : Txt K mg t) : FnOk P w K mg base (CXw P w) 3 t.a_first_unsorted t.fd_first_unsorted ["width", "posts"] (sp2 t 0) := by
  refine ((ok_first_unsorted T).lift.or ((no_first_unsorted T).or (wide_first_unsorted T))).imp fun vs H Q E h => ?_
  obtain ⟨w, a, qs, n, rfl, hP, hz, hw, o⟩ := h
  cases hb : badN w qs with
  | true =>
    rw [due_bad hb (by decide)] at o
    exact .inr (.inl ⟨w, a, qs, rfl, hP, by lia, hb, o⟩)
  | false =>
    obtain ⟨h1, ps, hp, hn, hl⟩ := hP.good hb
    by_cases c : 12 < w
    · rw [due_wide hb (by decide) c] at o
      exact .inr (.inr ⟨w, a, ps, rfl, hp, c, hn, o⟩)
    · rw [due_none (.inl hb) (fun _ => by lia) (fun z => by lia)] at o
      exact .inl ⟨w, a, ps, rfl, hp, h1, by lia, hn, fun H' s' _ => o _ H' s', fun l r H' s' _ _ => o _ H' s'⟩
theorem tw_sorts (T : Txt K mg t) : FnOk P w K mg base (CXw P w) 4 t.a_sorts t.fd_sorts ["width", "posts"] (sp2 t 1) := by
  refine ((ok_sorts T).lift.or ((no_sorts T).or (wide_sorts T))).imp fun vs H Q E h => ?_
  obtain ⟨w, a, qs, n, rfl, hP, hz, hw, o⟩ := h
  cases hb : badN w qs with
  | true =>
    rw [due_bad hb (by decide)] at o
    exact .inr (.inl ⟨w, a, qs, rfl, hP, by lia, hb, o⟩)
  | false =>
    obtain ⟨h1, ps, hp, hn, hl⟩ := hP.good hb
    by_cases c : 12 < w
    · rw [due_wide hb (by decide) c] at o
      exact .inr (.inr ⟨w, a, ps, rfl, hp, c, hn, o⟩)
    · rw [due_none (.inl hb) (fun _ => by lia) (fun z => by lia)] at o
      exact .inl ⟨w, a, ps, rfl, hp, h1, by lia, hn, fun b H' s' _ => o _ H' s'⟩
theorem tw_rows_acting (T : Txt K mg t) : FnOk P w K mg base (CXw P w) 3 t.a_rows_acting t.fd_rows_acting ["width", "posts"] (sp2 t 2) := by
  refine ((ok_rows_acting T).lift.or ((no_rows_acting T).or (wide_rows_acting T))).imp fun vs H Q E h => ?_
  obtain ⟨w, a, qs, n, rfl, hP, hz, hw, o⟩ := h
  cases hb : badN w qs with
  | true =>
    rw [due_bad hb (by decide)] at o
    exact .inr (.inl ⟨w, a, qs, rfl, hP, by lia, hb, o⟩)
  | false =>
    obtain ⟨h1, ps, hp, hn, hl⟩ := hP.good hb
    by_cases c : 12 < w
    · rw [due_wide hb (by decide) c] at o
      exact .inr (.inr ⟨w, a, ps, rfl, hp, c, hn, o⟩)
    · rw [due_none (.inl hb) (fun _ => by lia) (fun z => by lia)] at o
      exact .inl ⟨w, a, ps, rfl, hp, h1, by lia, hn, by lia, fun l ds H' s' _ _ _ => o _ H' s'⟩
theorem tw_thinned (T : Txt K mg t) : FnOk P w K mg base (CXw P w) 4 t.a_thinned t.fd_thinned ["width", "posts"] (sp2 t 3) := by
  refine ((ok_thinned T).lift.or ((no_thinned T).or (wide_thinned T))).imp fun vs H Q E h => ?_
  obtain ⟨w, a, qs, n, rfl, hP, hz, hw, o⟩ := h
  cases hb : badN w qs with
  | true =>
    rw [due_bad hb (by decide)] at o
    exact .inr (.inl ⟨w, a, qs, rfl, hP, by lia, hb, o⟩)
  | false =>
    obtain ⟨h1, ps, hp, hn, hl⟩ := hP.good hb
    by_cases c : 12 < w
    · rw [due_wide hb (by decide) c] at o
      exact .inr (.inr ⟨w, a, ps, rfl, hp, c, hn, o⟩)
    · rw [due_none (.inl hb) (fun _ => by lia) (fun z => by lia)] at o
      exact .inl ⟨w, a, ps, rfl, hp, h1, by lia, hn, by lia, fun l H' s' _ _ => o _ H' s'⟩
theorem tw_is_lean (T : Txt K mg t) : FnOk P w K mg base (CXw P w) 4 t.a_is_lean t.fd_is_lean ["width", "posts"] (sp2 t 4) := by
  refine ((ok_is_lean T).lift.or ((no_is_lean T).or (wide_is_lean T))).imp fun vs H Q E h => ?_
  obtain ⟨w, a, qs, n, rfl, hP, hz, hw, o⟩ := h
  cases hb : badN w qs with
  | true =>
    rw [due_bad hb (by decide)] at o
    exact .inr (.inl ⟨w, a, qs, rfl, hP, by lia, hb, o⟩)
  | false =>
    obtain ⟨h1, ps, hp, hn, hl⟩ := hP.good hb
    by_cases c : 12 < w
    · rw [due_wide hb (by decide) c] at o
      exact .inr (.inr ⟨w, a, ps, rfl, hp, c, hn, o⟩)
    · rw [due_none (.inl hb) (fun _ => by lia) (fun z => by lia)] at o
      exact .inl ⟨w, a, ps, rfl, hp, h1, by lia, hn, by lia, fun b H' s' _ => o _ H' s'⟩
theorem tw_mirrored (T : Txt K mg t) : FnOk P w K mg base (CXw P w) 2 t.a_mirrored t.fd_mirrored ["width", "posts"] (sp2 t 7) := by
  refine ((ok_mirrored T).lift.or (no_mirrored T)).imp fun vs H Q E h => ?_
  obtain ⟨w, a, qs, n, rfl, hP, hz, hw, o⟩ := h
  cases hb : badN w qs with
  | true =>
    rw [due_bad hb (by decide)] at o
    exact .inr ⟨w, a, qs, rfl, hP, by lia, hb, o⟩
  | false =>
    obtain ⟨h1, ps, hp, hn, hl⟩ := hP.good hb
    rw [due_none (.inl hb) (fun z => by lia) (fun z => by lia)] at o
    exact .inl ⟨w, a, ps, rfl, hp, h1, hn, by lia, fun l H' s' _ _ => o _ H' s'⟩
theorem tw_layers (T : Txt K mg t) : FnOk P w K mg base (CXw P w) 2 t.a_layers t.fd_layers ["width", "posts"] (sp2 t 8) := by
  refine ((ok_layers T).lift.or (no_layers T)).imp fun vs H Q E h => ?_
  obtain ⟨w, a, qs, n, rfl, hP, hz, hw, o⟩ := h
  cases hb : badN w qs with
  | true =>
    rw [due_bad hb (by decide)] at o
    exact .inr ⟨w, a, qs, rfl, hP, by lia, hb, o⟩
  | false =>
    obtain ⟨h1, ps, hp, hn, hl⟩ := hP.good hb
    rw [due_none (.inl hb) (fun z => by lia) (fun z => by lia)] at o
    exact .inl ⟨w, a, ps, rfl, hp, h1, hn, by lia, fun l _ _ H' s' _ _ _ _ _ => o _ H' s'⟩
theorem tw_chain (T : Txt K mg t) : FnOk P w K mg base (CXw P w) 2 t.a_chain t.fd_chain ["width", "posts"] (sp2 t 9) := by
  refine ((ok_chain T).lift.or (no_chain T)).imp fun vs H Q E h => ?_
  obtain ⟨w, a, qs, n, rfl, hP, hz, hw, o⟩ := h
  cases hb : badN w qs with
  | true =>
    rw [due_bad hb (by decide)] at o
    exact .inr ⟨w, a, qs, rfl, hP, by lia, hb, o⟩
  | false =>
    obtain ⟨h1, ps, hp, hn, hl⟩ := hP.good hb
    rw [due_none (.inl hb) (fun z => by lia) (fun z => by lia)] at o
    exact .inl ⟨w, a, ps, rfl, hp, h1, hn, by lia, fun l _ H' s' _ _ _ => o _ H' s'⟩
theorem tw_shown (T : Txt K mg t) : FnOk P w K mg base (CXw P w) 3 t.a_shown t.fd_shown ["width", "posts"] (sp2 t 10) := by
  refine ((ok_shown T).lift.or (no_shown T)).imp fun vs H Q E h => ?_
  obtain ⟨w, a, qs, n, rfl, hP, hz, hw, o⟩ := h
  cases hb : badN w qs with
  | true =>
    rw [due_bad hb (by decide)] at o
    exact .inr ⟨w, a, qs, rfl, hP, by lia, hb, o⟩
  | false =>
    obtain ⟨h1, ps, hp, hn, hl⟩ := hP.good hb
    rw [due_none (.inl hb) (fun z => by lia) (fun z => by lia)] at o
    exact .inl ⟨w, a, ps, rfl, hp, h1, hw, hn, by lia, fun l _ H' s' _ _ _ _ => o _ H' s'⟩
theorem tw_run (T : Txt K mg t) : FnOk P w K mg base (CXw P w) 3 t.a_run t.fd_run ["width", "posts", "row"] (sp3 t 5) := by
  refine ((ok_run T).lift.or ((no_run T).or (row_run T))).imp fun vs H Q E h => ?_
  obtain ⟨w, a, b, qs, xs, rfl, hP, hz, hw, hx, o⟩ := h
  cases hb : badN w qs with
  | true =>
    rw [due_bad hb (by decide)] at o
    exact .inr (.inl ⟨w, a, b, qs, rfl, hP, by lia, hb, o⟩)
  | false =>
    obtain ⟨h1, ps, hp, hn, hl⟩ := hP.good hb
    by_cases c : (xs.length : Int) = w
    · rw [due_none (.inl hb) (fun z => by lia) (fun _ => c)] at o
      exact .inl ⟨w, a, b, ps, xs, rfl, hp, h1, hn, hx, c, fun l H' s' _ _ => o _ H' s'⟩
    · rw [due_row hb (by decide) c] at o
      exact .inr (.inr ⟨w, a, b, ps, _, rfl, hp, h1, hn, hx, by rw [List.length_map]; exact c, o⟩)
theorem tw_walked (T : Txt K mg t) : FnOk P w K mg base (CXw P w) 3 t.a_walked t.fd_walked ["width", "posts", "row"] (sp3 t 6) := by
  refine ((ok_walked T).lift.or ((no_walked T).or (row_walked T))).imp fun vs H Q E h => ?_
  obtain ⟨w, a, b, qs, xs, rfl, hP, hz, hw, hx, o⟩ := h
  cases hb : badN w qs with
  | true =>
    rw [due_bad hb (by decide)] at o
    exact .inr (.inl ⟨w, a, b, qs, rfl, hP, by lia, hb, o⟩)
  | false =>
    obtain ⟨h1, ps, hp, hn, hl⟩ := hP.good hb
    by_cases c : (xs.length : Int) = w
    · rw [due_none (.inl hb) (fun z => by lia) (fun _ => c)] at o
      exact .inl ⟨w, a, b, ps, xs, rfl, hp, h1, hn, by lia, hx, c, fun tp _ _ _ H' s' _ _ _ _ _ => o _ H' s'⟩
    · rw [due_row hb (by decide) c] at o
      exact .inr (.inr ⟨w, a, b, ps, _, rfl, hp, h1, hn, hx, by rw [List.length_map]; exact c, o⟩)
theorem tw_built (T : Txt K mg t) : FnOk P w K mg base (CXw P w) 8 t.a_built t.fd_built ["width"] (sp1 t 11) := by
  refine ((ok_built T).lift.or ((no_built T).mono (by decide))).imp fun vs H Q E h => ?_
  obtain ⟨w, qs, n, rfl, hw, o⟩ := h
  by_cases c : w < 1
  · rw [due_small c] at o
    exact .inr ⟨w, rfl, c, o⟩
  · rw [due_none (.inr ⟨by lia, c⟩) (fun z => by lia) (fun z => by lia)] at o
    exact .inl ⟨w, rfl, by lia, hw, fun l H' s' _ _ => o _ H' s'⟩
theorem tw_plain (T : Txt K mg t) : FnOk P w K mg base (CXw P w) 2 t.a_plain t.fd_plain ["width"] (sp1 t 12) := by
  refine ((ok_plain T).lift.or ((no_plain T).mono (by decide))).imp fun vs H Q E h => ?_
  obtain ⟨w, qs, n, rfl, hw, o⟩ := h
  by_cases c : w < 1
  · rw [due_small c] at o
    exact .inr ⟨w, rfl, c, o⟩
  · rw [due_none (.inr ⟨by lia, c⟩) (fun z => by lia) (fun z => by lia)] at o
    exact .inl ⟨w, rfl, by lia, hw, fun l H' s' _ _ => o _ H' s'⟩
end
end PN
namespace PN
open PySem L2
inductive Due where
  | post | row | wide | done
  deriving DecidableEq
noncomputable def Due.cls (t : Adr) : Due → Option Addr
  | .post => some t.c_BadPost
  | .row => some t.c_BadRow
  | .wide => some t.c_TooWide
  | .done => none
noncomputable def Due.word : Due → Str
  | .post => "post"
  | .row => "row"
  | .wide => "wide"
  | .done => "done"
noncomputable def dueK (k w : Int) (qs : List IPost) (n : Nat) : Due :=
  if ((badN w qs && decide (k < 11)) || decide (w < 1)) = true then .post else if (k = 5 ∨ k = 6) ∧ (n : Int) ≠ w then .row else if k < 5 ∧ 12 < w then .wide else .done
theorem dueC_eq (t : Adr) (k w : Int) (qs : List IPost) (n : Nat) : dueC t k w qs n = (dueK k w qs n).cls t := by
  unfold dueC dueK
  split
  · rfl
  · split
    · rfl
    · split <;> rfl
theorem due_hi {t : Adr} {k w : Int} {qs : List IPost} {n : Nat} (h : ¬ k < 11) : dueC t k w qs n = if w < 1 then some t.c_BadPost else none := by
  by_cases c : w < 1
  · rw [due_small c, if_pos c]
  · rw [due_none (.inr ⟨h, c⟩) (fun z => by lia) (fun z => by lia), if_neg c]
noncomputable def sp_wide (t : Adr) : Sp := fun vs H Q E => ∃ (k w : Int) (a : Addr) (qs : List IPost) (n : Nat), vs = [.int k, .int w, .ref a] ∧ 0 ≤ k ∧ k < 5 ∧ IPosts H a qs ∧ qs.length ≤ 50 ∧ w ≤ 1000 ∧ Out (dueC t k w qs n) H (fun _ H' => Q .non H') E
noncomputable def sp_other (t : Adr) : Sp := fun vs H Q E => ∃ (k w : Int) (a b : Addr) (qs : List IPost) (xs : List Int), vs = [.int k, .int w, .ref a, .ref b] ∧ 5 ≤ k ∧ k < 13 ∧ IPosts H a qs ∧ qs.length ≤ 50 ∧ w ≤ 1000 ∧ Ints H b xs ∧ Out (dueC t k w qs xs.length) H (fun _ H' => Q .non H') E
noncomputable def sp_said : Sp := fun vs H Q _ => ∃ (k w : Int) (a b : Addr) (qs : List IPost) (xs : List Int), vs = [.int k, .int w, .ref a, .ref b] ∧ 0 ≤ k ∧ k < 13 ∧ IPosts H a qs ∧ qs.length ≤ 50 ∧ w ≤ 1000 ∧ Ints H b xs ∧ ∀ H', Same H H' → Q (.str (dueK k w qs xs.length).word) H'
noncomputable def sp_refuses : Sp := fun vs H Q _ => ∃ (k w : Int) (a b : Addr) (qs : List IPost) (xs : List Int), vs = [.int k, .int w, .ref a, .ref b] ∧ 0 ≤ k ∧ k < 13 ∧ IPosts H a qs ∧ qs.length ≤ 50 ∧ w ≤ 1000 ∧ Ints H b xs ∧ ∀ H', Same H H' → Q (.bl (!decide (dueK k w qs xs.length = .done))) H'
theorem vint {i j : Int} (h : i = j) : V.int i = V.int j := congrArg V.int h
theorem vintn {i j : Int} (h : i ≠ j) : ¬ V.int i = V.int j := fun z => h (V.int.inj z)
section
variable {P : Program} {w : World} {K : PySem.W.Frag} {mg : Str → Option Value} {base : Heap} {t : Adr}
theorem ok__law_wide_way (T : Txt K mg t) : FnOk P w K mg base (CXw P w) 5 t.a__law_wide_way t.fd__law_wide_way ["_law_which", "_law_width", "_law_posts"] (sp_wide t) := by
  have G_first_unsorted := (tw_first_unsorted (P := P) (w := w) (base := base) T).mono (k := 4) (by decide)
  have G_sorts := tw_sorts (P := P) (w := w) (base := base) T
  have G_rows_acting := (tw_rows_acting (P := P) (w := w) (base := base) T).mono (k := 4) (by decide)
  have G_thinned := tw_thinned (P := P) (w := w) (base := base) T
  have G_is_lean := tw_is_lean (P := P) (w := w) (base := base) T
  refine T.F__law_wide_way.okW sc__law_wide_way (fun vs H Q E h => ?_) (fun cdv A outer s H vs Q E hr h => ?_)
  · obtain ⟨k, w, a, qs, n, rfl, _⟩ := h
    rfl
  · obtain ⟨k, w, a, qs, n, rfl, k0, k5, hP, hz, hw, o⟩ := h
    have hr_first_unsorted := hr
    have hr_sorts := hr
    have hr_rows_acting := hr
    have hr_thinned := hr
    have hr_is_lean := hr
    refine ⟨_, (pss_one (ps_if (pt_cmpR op_eq (pv 0) pe_int (nomark _)) (pss_one (ps_expr (pe_callS G_first_unsorted hr_first_unsorted rfl T.m_first_unsorted T.F_first_unsorted.kp T.b_first_unsorted passS (pa_cons (pv 1) (pa_cons (pv 2) pa_nil)))))
        (pss_one (ps_if (pt_cmpR op_eq (pv 0) pe_int (nomark _)) (pss_one (ps_expr (pe_callS G_sorts hr_sorts rfl T.m_sorts T.F_sorts.kp T.b_sorts passS (pa_cons (pv 1) (pa_cons (pv 2) pa_nil)))))
          (pss_one (ps_if (pt_cmpR op_eq (pv 0) pe_int (nomark _)) (pss_one (ps_expr (pe_callS G_rows_acting hr_rows_acting rfl T.m_rows_acting T.F_rows_acting.kp T.b_rows_acting passS (pa_cons (pv 1) (pa_cons (pv 2) pa_nil)))))
            (pss_one (ps_if (pt_cmpR op_eq (pv 0) pe_int (nomark _)) (pss_one (ps_expr (pe_callS G_thinned hr_thinned rfl T.m_thinned T.F_thinned.kp T.b_thinned passS (pa_cons (pv 1) (pa_cons (pv 2) pa_nil)))))
              (pss_one (ps_expr (pe_callS G_is_lean hr_is_lean rfl T.m_is_lean T.F_is_lean.kp T.b_is_lean passS (pa_cons (pv 1) (pa_cons (pv 2) pa_nil))))))))))))), ?_⟩
    refine ⟨_, rfl, rfl, _, rfl, ?_⟩
    by_cases c : k = 0
    · subst c
      exact iteD rfl ⟨_, rfl, _, rfl, w, a, qs, n, rfl, hP, hz, hw, o⟩
    refine iteDn (vintn c) ⟨_, rfl, rfl, _, rfl, ?_⟩
    by_cases c : k = 1
    · subst c
      exact iteD rfl ⟨_, rfl, _, rfl, w, a, qs, n, rfl, hP, hz, hw, o⟩
    refine iteDn (vintn c) ⟨_, rfl, rfl, _, rfl, ?_⟩
    by_cases c : k = 2
    · subst c
      exact iteD rfl ⟨_, rfl, _, rfl, w, a, qs, n, rfl, hP, hz, hw, o⟩
    refine iteDn (vintn c) ⟨_, rfl, rfl, _, rfl, ?_⟩
    by_cases c : k = 3
    · subst c
      exact iteD rfl ⟨_, rfl, _, rfl, w, a, qs, n, rfl, hP, hz, hw, o⟩
    obtain rfl : k = 4 := by lia
    exact iteDn (vintn c) ⟨_, rfl, _, rfl, w, a, qs, n, rfl, hP, hz, hw, o⟩
theorem ok__law_other_way (T : Txt K mg t) : FnOk P w K mg base (CXw P w) 9 t.a__law_other_way t.fd__law_other_way ["_law_which", "_law_width", "_law_posts", "_law_row"] (sp_other t) := by
  have G_run := tw_run (P := P) (w := w) (base := base) T
  have G_walked := tw_walked (P := P) (w := w) (base := base) T
  have G_mirrored := tw_mirrored (P := P) (w := w) (base := base) T
  have G_layers := tw_layers (P := P) (w := w) (base := base) T
  have G_chain := tw_chain (P := P) (w := w) (base := base) T
  have G_shown := tw_shown (P := P) (w := w) (base := base) T
  have G_built := tw_built (P := P) (w := w) (base := base) T
  have G_plain := tw_plain (P := P) (w := w) (base := base) T
  refine T.F__law_other_way.okW sc__law_other_way (fun vs H Q E h => ?_) (fun cdv A outer s H vs Q E hr h => ?_)
  · obtain ⟨k, w, a, b, qs, xs, rfl, _⟩ := h
    rfl
  · obtain ⟨k, w, a, b, qs, xs, rfl, k5, k13, hP, hz, hw, hx, o⟩ := h
    have hr_run := hr.mono (j := 3) (by decide)
    have hr_walked := hr.mono (j := 3) (by decide)
    have hr_mirrored := hr.mono (j := 2) (by decide)
    have hr_layers := hr.mono (j := 2) (by decide)
    have hr_chain := hr.mono (j := 2) (by decide)
    have hr_shown := hr.mono (j := 3) (by decide)
    have hr_built := hr.mono (j := 8) (by decide)
    have hr_plain := hr.mono (j := 2) (by decide)
    refine ⟨_, (pss_one (ps_if (pt_cmpR op_eq (pv 0) pe_int (nomark _)) (pss_one (ps_expr (pe_callS G_run hr_run rfl T.m_run T.F_run.kp T.b_run passS (pa_cons (pv 1) (pa_cons (pv 2) (pa_cons (pv 3) pa_nil))))))
        (pss_one (ps_if (pt_cmpR op_eq (pv 0) pe_int (nomark _)) (pss_one (ps_expr (pe_callS G_walked hr_walked rfl T.m_walked T.F_walked.kp T.b_walked passS (pa_cons (pv 1) (pa_cons (pv 2) (pa_cons (pv 3) pa_nil))))))
          (pss_one (ps_if (pt_cmpR op_eq (pv 0) pe_int (nomark _)) (pss_one (ps_expr (pe_callS G_mirrored hr_mirrored rfl T.m_mirrored T.F_mirrored.kp T.b_mirrored passS (pa_cons (pv 1) (pa_cons (pv 2) pa_nil)))))
            (pss_one (ps_if (pt_cmpR op_eq (pv 0) pe_int (nomark _)) (pss_one (ps_expr (pe_callS G_layers hr_layers rfl T.m_layers T.F_layers.kp T.b_layers passS (pa_cons (pv 1) (pa_cons (pv 2) pa_nil)))))
              (pss_one (ps_if (pt_cmpR op_eq (pv 0) pe_int (nomark _)) (pss_one (ps_expr (pe_callS G_chain hr_chain rfl T.m_chain T.F_chain.kp T.b_chain passS (pa_cons (pv 1) (pa_cons (pv 2) pa_nil)))))
                (pss_one (ps_if (pt_cmpR op_eq (pv 0) pe_int (nomark _)) (pss_one (ps_expr (pe_callS G_shown hr_shown rfl T.m_shown T.F_shown.kp T.b_shown passS (pa_cons (pv 1) (pa_cons (pv 2) pa_nil)))))
                  (pss_one (ps_if (pt_cmpR op_eq (pv 0) pe_int (nomark _)) (pss_one (ps_expr (pe_callS G_built hr_built rfl T.m_built T.F_built.kp T.b_built passS (pa_cons (pe_callB (call_min2 rfl) (by rfl) T.z_min PyProof.Rows.boot_min (pa_cons (pv 1) (pa_const pe_int pa_nil))) pa_nil))))
                    (pss_one (ps_expr (pe_callS G_plain hr_plain rfl T.m_plain T.F_plain.kp T.b_plain passS (pa_cons (pe_callB (call_min2 rfl) (by rfl) T.z_min PyProof.Rows.boot_min (pa_cons (pv 1) (pa_const pe_int pa_nil))) pa_nil)))))))))))))))))), ?_⟩
    refine ⟨_, rfl, rfl, _, rfl, ?_⟩
    by_cases c : k = 5
    · subst c
      exact iteD rfl ⟨_, rfl, _, rfl, _, rfl, w, a, b, qs, xs, rfl, hP, hz, hw, hx, o⟩
    refine iteDn (vintn c) ⟨_, rfl, rfl, _, rfl, ?_⟩
    by_cases c : k = 6
    · subst c
      exact iteD rfl ⟨_, rfl, _, rfl, _, rfl, w, a, b, qs, xs, rfl, hP, hz, hw, hx, o⟩
    refine iteDn (vintn c) ⟨_, rfl, rfl, _, rfl, ?_⟩
    by_cases c : k = 7
    · subst c
      exact iteD rfl ⟨_, rfl, _, rfl, w, a, qs, _, rfl, hP, hz, hw, o⟩
    refine iteDn (vintn c) ⟨_, rfl, rfl, _, rfl, ?_⟩
    by_cases c : k = 8
    · subst c
      exact iteD rfl ⟨_, rfl, _, rfl, w, a, qs, _, rfl, hP, hz, hw, o⟩
    refine iteDn (vintn c) ⟨_, rfl, rfl, _, rfl, ?_⟩
    by_cases c : k = 9
    · subst c
      exact iteD rfl ⟨_, rfl, _, rfl, w, a, qs, _, rfl, hP, hz, hw, o⟩
    refine iteDn (vintn c) ⟨_, rfl, rfl, _, rfl, ?_⟩
    by_cases c : k = 10
    · subst c
      exact iteD rfl ⟨_, rfl, _, rfl, w, a, qs, _, rfl, hP, hz, hw, o⟩
    refine iteDn (vintn c) ⟨_, rfl, rfl, _, rfl, ?_⟩
    have em : ∀ {k' : Int}, ¬ k' < 11 → dueC t k' (if 20 < w then 20 else w) qs xs.length = dueC t k' w qs xs.length := fun h => by
      rw [due_hi h, due_hi h]
      by_cases c : w < 1
      · rw [if_neg (by lia : ¬ 20 < w), if_pos c]
      · rw [if_neg c, if_neg]
        split <;> lia
    have ew : (if (20 : Int) < w then 20 else w) ≤ 31 := by split <;> lia
    by_cases c : k = 11
    · subst c
      refine iteD rfl ⟨_, rfl, _, _, rfl, _, qs, xs.length, rfl, ew, ?_⟩
      rw [em (by decide)]
      exact o
    obtain rfl : k = 12 := by lia
    refine iteDn (vintn c) ⟨_, rfl, _, _, rfl, _, qs, xs.length, rfl, ew, ?_⟩
    rw [em (by decide)]
    exact o
end
end PN
namespace PN
open PySem L2
section
variable {P : Program} {w : World} {K : PySem.W.Frag} {mg : Str → Option Value} {base : Heap} {t : Adr}
theorem out_of {k w : Int} {qs : List IPost} {n : Nat} {H : Hp} {Q : VK} {E : XK} (h1 : dueK k w qs n = .done → ∀ v H', Same H H' → Q v H') (h2 : dueK k w qs n = .post → ∀ ea H', Same H H' → E (.ref t.c_BadPost) (some ea) H')
    (h3 : dueK k w qs n = .row → ∀ ea H', Same H H' → E (.ref t.c_BadRow) (some ea) H') (h4 : dueK k w qs n = .wide → ∀ ea H', Same H H' → E (.ref t.c_TooWide) (some ea) H') : Out (dueC t k w qs n) H Q E := by
  rw [dueC_eq]
  cases e : dueK k w qs n with
  | post => exact h2 e
  | row => exact h3 e
  | wide => exact h4 e
  | done => exact h1 e
theorem ok__law_said (T : Txt K mg t) : FnOk P w K mg base CX0 10 t.a__law_said t.fd__law_said ["_law_which", "_law_width", "_law_posts", "_law_row"] sp_said := by
  have G__law_wide_way := ok__law_wide_way (P := P) (w := w) (base := base) T
  have G__law_other_way := ok__law_other_way (P := P) (w := w) (base := base) T
  refine T.F__law_said.ok sc__law_said (fun vs H Q E h => ?_) (fun cdv A outer s H vs Q E hr h => ?_)
  · obtain ⟨k, w, a, b, qs, xs, rfl, _⟩ := h
    rfl
  · obtain ⟨k, w, a, b, qs, xs, rfl, k0, k13, hP, hz, hw, hx, q⟩ := h
    have hr__law_wide_way := hr.mono (j := 5) (by decide)
    have hr__law_other_way := hr.mono (j := 9) (by decide)
    refine ⟨_, (pss_cons (ps_set (i := 4) sc__law_said.nd rfl (Or.inl rfl) pe_str)
      (pss_cons (ps_try (fun pins EE => (pss_one (ps_if (pt_cmpR op_lt (pv 0) pe_int (nomark _)) (pss_one (ps_expr (pe_callS G__law_wide_way hr__law_wide_way rfl T.m__law_wide_way T.F__law_wide_way.kp T.b__law_wide_way (passT ⟨rfl, rfl⟩) (pa_cons (pv 0) (pa_cons (pv 1) (pa_cons (pv 2) pa_nil))))))
          (pss_one (ps_expr (pe_callS G__law_other_way hr__law_other_way rfl T.m__law_other_way T.F__law_other_way.kp T.b__law_other_way (passT ⟨rfl, rfl⟩) (pa_cons (pv 0) (pa_cons (pv 1) (pa_cons (pv 2) (pa_cons (pv 3) pa_nil))))))))))
      (ph_own rfl T.k_BadPost T.x_BadPost (fun ea => (pss_one (ps_set (i := 4) sc__law_said.nd rfl (Or.inl rfl) pe_str)))
      (ph_own rfl T.k_BadRow T.x_BadRow (fun ea => (pss_one (ps_set (i := 4) sc__law_said.nd rfl (Or.inl rfl) pe_str)))
      (ph_own rfl T.k_TooWide T.x_TooWide (fun ea => (pss_one (ps_set (i := 4) sc__law_said.nd rfl (Or.inl rfl) pe_str)))
      ph_none))))
      (pss_one (ps_ret (pv 4))))), ?_⟩
    refine ⟨_, rfl, _, _, rfl, rfl, _, rfl, ?_⟩
    have fin : ∀ {d : Due} {H' : Hp}, dueK k w qs xs.length = d → Same H H' → Q (.str d.word) H' := fun e s' => by
      have z := q _ s'
      rw [e] at z
      exact z
    by_cases c : k < 5
    · refine iteD c ⟨_, rfl, _, rfl, _, rfl, k, w, a, qs, xs.length, rfl, k0, c, hP, hz, hw, out_of (fun e v H' s' => ⟨_, rfl, fin e s'⟩) (fun e ea H' s' => ⟨ea, rfl, t.c_BadPost, true, rfl, T.x_BadPost, T.m_BadPost_BadPost, iteT ⟨_, rfl, fin e s'⟩⟩)
        (fun e ea H' s' => ⟨ea, rfl, t.c_BadRow, false, rfl, T.x_BadRow, T.m_BadRow_BadPost, iteF ⟨t.c_BadRow, true, rfl, T.x_BadRow, T.m_BadRow_BadRow, iteT ⟨_, rfl, fin e s'⟩⟩⟩)
        (fun e ea H' s' => ⟨ea, rfl, t.c_TooWide, false, rfl, T.x_TooWide, T.m_TooWide_BadPost, iteF ⟨t.c_TooWide, false, rfl, T.x_TooWide, T.m_TooWide_BadRow, iteF ⟨t.c_TooWide, true, rfl, T.x_TooWide, T.m_TooWide_TooWide, iteT ⟨_, rfl, fin e s'⟩⟩⟩⟩)⟩
    · refine iteDn c ⟨_, rfl, _, rfl, _, rfl, _, rfl, k, w, a, b, qs, xs, rfl, by lia, k13, hP, hz, hw, hx, out_of (fun e v H' s' => ⟨_, rfl, fin e s'⟩) (fun e ea H' s' => ⟨ea, rfl, t.c_BadPost, true, rfl, T.x_BadPost, T.m_BadPost_BadPost, iteT ⟨_, rfl, fin e s'⟩⟩)
        (fun e ea H' s' => ⟨ea, rfl, t.c_BadRow, false, rfl, T.x_BadRow, T.m_BadRow_BadPost, iteF ⟨t.c_BadRow, true, rfl, T.x_BadRow, T.m_BadRow_BadRow, iteT ⟨_, rfl, fin e s'⟩⟩⟩)
        (fun e ea H' s' => ⟨ea, rfl, t.c_TooWide, false, rfl, T.x_TooWide, T.m_TooWide_BadPost, iteF ⟨t.c_TooWide, false, rfl, T.x_TooWide, T.m_TooWide_BadRow, iteF ⟨t.c_TooWide, true, rfl, T.x_TooWide, T.m_TooWide_TooWide, iteT ⟨_, rfl, fin e s'⟩⟩⟩⟩)⟩
theorem ok__law_refuses (T : Txt K mg t) : FnOk P w K mg base CX0 10 t.a__law_refuses t.fd__law_refuses ["_law_which", "_law_width", "_law_posts", "_law_row"] sp_refuses := by
  have G__law_wide_way := ok__law_wide_way (P := P) (w := w) (base := base) T
  have G__law_other_way := ok__law_other_way (P := P) (w := w) (base := base) T
  refine T.F__law_refuses.ok sc__law_refuses (fun vs H Q E h => ?_) (fun cdv A outer s H vs Q E hr h => ?_)
  · obtain ⟨k, w, a, b, qs, xs, rfl, _⟩ := h
    rfl
  · obtain ⟨k, w, a, b, qs, xs, rfl, k0, k13, hP, hz, hw, hx, q⟩ := h
    have hr__law_wide_way := hr.mono (j := 5) (by decide)
    have hr__law_other_way := hr.mono (j := 9) (by decide)
    refine ⟨_, (pss_cons (ps_try (fun pins EE => (pss_one (ps_if (pt_cmpR op_lt (pv 0) pe_int (nomark _)) (pss_one (ps_expr (pe_callS G__law_wide_way hr__law_wide_way rfl T.m__law_wide_way T.F__law_wide_way.kp T.b__law_wide_way (passT ⟨rfl, rfl⟩) (pa_cons (pv 0) (pa_cons (pv 1) (pa_cons (pv 2) pa_nil))))))
          (pss_one (ps_expr (pe_callS G__law_other_way hr__law_other_way rfl T.m__law_other_way T.F__law_other_way.kp T.b__law_other_way (passT ⟨rfl, rfl⟩) (pa_cons (pv 0) (pa_cons (pv 1) (pa_cons (pv 2) (pa_cons (pv 3) pa_nil))))))))))
      (ph_as (i := 4) rfl T.k_NetError T.x_NetError sc__law_refuses.nd rfl rfl (fun ea => (pss_cons (ps_set (i := 5) sc__law_refuses.nd rfl (Or.inl rfl) (pe_lst (pa_cons (pe_callB call_isiX (by rfl) T.z_isinstance PyProof.Rows.boot_isinstance (pa_cons (pv 4) (pa_cons (pe_glob (v := .ref t.c_BadPost) rfl T.k_BadPost rfl) pa_nil))) (pa_cons (pe_callB call_isiX (by rfl) T.z_isinstance PyProof.Rows.boot_isinstance (pa_cons (pv 4) (pa_cons (pe_glob (v := .ref t.c_BadRow) rfl T.k_BadRow rfl) pa_nil))) (pa_cons (pe_callB call_isiX (by rfl) T.z_isinstance PyProof.Rows.boot_isinstance (pa_cons (pv 4) (pa_cons (pe_glob (v := .ref t.c_TooWide) rfl T.k_TooWide rfl) pa_nil))) pa_nil)))))
        (pss_cons (ps_set (i := 5) sc__law_refuses.nd rfl (Or.inl rfl) (pe_op op_cat (pv 5) (pe_lst (pa_cons (pe_callB call_isiX (by rfl) T.z_isinstance PyProof.Rows.boot_isinstance (pa_cons (pv 4) (pa_cons (pe_glob (v := .ref t.c_NoNet) rfl T.k_NoNet rfl) pa_nil))) pa_nil))))
        (pss_one (ps_ret (pe_and (pe_callB call_isiXT (by rfl) T.z_isinstance PyProof.Rows.boot_isinstance (pa_cons (pv 4) (pa_cons (pe_bltn (v := .ty "ValueError") rfl T.z_ValueError PyProof.Rows.Boot.«ValueError» rfl) pa_nil))) (pe_one (pe_cmpR op_eq (pe_bm PySem.F.plainAttrs_list PySem.F.slot_list_count PySem.F.type_list_count mt_count (pv 5) (pa_const pe_bl pa_nil)) pe_int (nomark _)))))))))
      ph_none))
      (pss_one (ps_ret pe_bl))), ?_⟩
    refine ⟨_, rfl, _, _, rfl, rfl, _, rfl, ?_⟩
    have fin : ∀ {d : Due} {H' : Hp}, dueK k w qs xs.length = d → Same H H' → Q (.bl (!decide (d = .done))) H' := fun e s' => by
      have z := q _ s'
      rw [e] at z
      exact z
    by_cases c : k < 5
    · refine iteD c ⟨_, rfl, _, rfl, _, rfl, k, w, a, qs, xs.length, rfl, k0, c, hP, hz, hw, out_of (fun e v H' s' => fin e s')
        (fun e ea H' s' => ⟨ea, rfl, t.c_BadPost, true, rfl, T.x_BadPost, T.m_BadPost_NetError, iteT fun hea => ⟨_, rfl, ea, t.c_BadPost, t.c_BadPost, true, rfl, upd_same, T.e_BadPost, T.x_BadPost, T.i_BadPost_BadPost, _, rfl, ea, t.c_BadRow, t.c_BadPost, false, rfl, upd_same, T.e_BadPost, T.x_BadPost, T.i_BadPost_BadRow, _, rfl, ea, t.c_TooWide, t.c_BadPost, false, rfl, upd_same, T.e_BadPost, T.x_BadPost, T.i_BadPost_TooWide, (by show 3 ≤ sizeLine; decide), fun l1 n1 =>
          have x1 := (upd_ne (ne_of_none upd_same n1)).trans upd_same
          have S1 := s'.upd (s'.free hea)
          have S2 := S1.upd (S1.free n1)
          ⟨_, rfl, _, rfl, ea, t.c_NoNet, t.c_BadPost, false, rfl, x1, T.e_BadPost, T.x_BadPost, T.i_BadPost_NoNet, (by show 1 ≤ sizeLine; decide), fun l2 n2 =>
          have x2 := (upd_ne (ne_of_none x1 n2)).trans x1
          have y2 := (upd_ne (ne_of_none upd_same n2)).trans upd_same
          have S3 := S2.upd (S2.free n2)
          ⟨l1, l2, _, _, rfl, rfl, y2, upd_same, (by show 4 ≤ sizeLine; decide), fun l3 n3 =>
          have x3 := (upd_ne (ne_of_none x2 n3)).trans x2
          have S4 := S3.upd (S3.free n3)
          ⟨_, rfl, ea, "ValueError", t.c_BadPost, true, rfl, x3, T.e_BadPost, T.x_BadPost, T.v_BadPost, _, rfl, iteT ⟨_, rfl, .inl ⟨rfl, _, SqL.of upd_same⟩, l3, [true, false, false, false], rfl, rfl, upd_same, rfl, fin e S4⟩⟩⟩⟩⟩⟩)
        (fun e ea H' s' => ⟨ea, rfl, t.c_BadRow, true, rfl, T.x_BadRow, T.m_BadRow_NetError, iteT fun hea => ⟨_, rfl, ea, t.c_BadPost, t.c_BadRow, false, rfl, upd_same, T.e_BadRow, T.x_BadRow, T.i_BadRow_BadPost, _, rfl, ea, t.c_BadRow, t.c_BadRow, true, rfl, upd_same, T.e_BadRow, T.x_BadRow, T.i_BadRow_BadRow, _, rfl, ea, t.c_TooWide, t.c_BadRow, false, rfl, upd_same, T.e_BadRow, T.x_BadRow, T.i_BadRow_TooWide, (by show 3 ≤ sizeLine; decide), fun l1 n1 =>
          have x1 := (upd_ne (ne_of_none upd_same n1)).trans upd_same
          have S1 := s'.upd (s'.free hea)
          have S2 := S1.upd (S1.free n1)
          ⟨_, rfl, _, rfl, ea, t.c_NoNet, t.c_BadRow, false, rfl, x1, T.e_BadRow, T.x_BadRow, T.i_BadRow_NoNet, (by show 1 ≤ sizeLine; decide), fun l2 n2 =>
          have x2 := (upd_ne (ne_of_none x1 n2)).trans x1
          have y2 := (upd_ne (ne_of_none upd_same n2)).trans upd_same
          have S3 := S2.upd (S2.free n2)
          ⟨l1, l2, _, _, rfl, rfl, y2, upd_same, (by show 4 ≤ sizeLine; decide), fun l3 n3 =>
          have x3 := (upd_ne (ne_of_none x2 n3)).trans x2
          have S4 := S3.upd (S3.free n3)
          ⟨_, rfl, ea, "ValueError", t.c_BadRow, true, rfl, x3, T.e_BadRow, T.x_BadRow, T.v_BadRow, _, rfl, iteT ⟨_, rfl, .inl ⟨rfl, _, SqL.of upd_same⟩, l3, [false, true, false, false], rfl, rfl, upd_same, rfl, fin e S4⟩⟩⟩⟩⟩⟩)
        (fun e ea H' s' => ⟨ea, rfl, t.c_TooWide, true, rfl, T.x_TooWide, T.m_TooWide_NetError, iteT fun hea => ⟨_, rfl, ea, t.c_BadPost, t.c_TooWide, false, rfl, upd_same, T.e_TooWide, T.x_TooWide, T.i_TooWide_BadPost, _, rfl, ea, t.c_BadRow, t.c_TooWide, false, rfl, upd_same, T.e_TooWide, T.x_TooWide, T.i_TooWide_BadRow, _, rfl, ea, t.c_TooWide, t.c_TooWide, true, rfl, upd_same, T.e_TooWide, T.x_TooWide, T.i_TooWide_TooWide, (by show 3 ≤ sizeLine; decide), fun l1 n1 =>
          have x1 := (upd_ne (ne_of_none upd_same n1)).trans upd_same
          have S1 := s'.upd (s'.free hea)
          have S2 := S1.upd (S1.free n1)
          ⟨_, rfl, _, rfl, ea, t.c_NoNet, t.c_TooWide, false, rfl, x1, T.e_TooWide, T.x_TooWide, T.i_TooWide_NoNet, (by show 1 ≤ sizeLine; decide), fun l2 n2 =>
          have x2 := (upd_ne (ne_of_none x1 n2)).trans x1
          have y2 := (upd_ne (ne_of_none upd_same n2)).trans upd_same
          have S3 := S2.upd (S2.free n2)
          ⟨l1, l2, _, _, rfl, rfl, y2, upd_same, (by show 4 ≤ sizeLine; decide), fun l3 n3 =>
          have x3 := (upd_ne (ne_of_none x2 n3)).trans x2
          have S4 := S3.upd (S3.free n3)
          ⟨_, rfl, ea, "ValueError", t.c_TooWide, true, rfl, x3, T.e_TooWide, T.x_TooWide, T.v_TooWide, _, rfl, iteT ⟨_, rfl, .inl ⟨rfl, _, SqL.of upd_same⟩, l3, [false, false, true, false], rfl, rfl, upd_same, rfl, fin e S4⟩⟩⟩⟩⟩⟩)⟩
    · refine iteDn c ⟨_, rfl, _, rfl, _, rfl, _, rfl, k, w, a, b, qs, xs, rfl, by lia, k13, hP, hz, hw, hx, out_of (fun e v H' s' => fin e s')
        (fun e ea H' s' => ⟨ea, rfl, t.c_BadPost, true, rfl, T.x_BadPost, T.m_BadPost_NetError, iteT fun hea => ⟨_, rfl, ea, t.c_BadPost, t.c_BadPost, true, rfl, upd_same, T.e_BadPost, T.x_BadPost, T.i_BadPost_BadPost, _, rfl, ea, t.c_BadRow, t.c_BadPost, false, rfl, upd_same, T.e_BadPost, T.x_BadPost, T.i_BadPost_BadRow, _, rfl, ea, t.c_TooWide, t.c_BadPost, false, rfl, upd_same, T.e_BadPost, T.x_BadPost, T.i_BadPost_TooWide, (by show 3 ≤ sizeLine; decide), fun l1 n1 =>
          have x1 := (upd_ne (ne_of_none upd_same n1)).trans upd_same
          have S1 := s'.upd (s'.free hea)
          have S2 := S1.upd (S1.free n1)
          ⟨_, rfl, _, rfl, ea, t.c_NoNet, t.c_BadPost, false, rfl, x1, T.e_BadPost, T.x_BadPost, T.i_BadPost_NoNet, (by show 1 ≤ sizeLine; decide), fun l2 n2 =>
          have x2 := (upd_ne (ne_of_none x1 n2)).trans x1
          have y2 := (upd_ne (ne_of_none upd_same n2)).trans upd_same
          have S3 := S2.upd (S2.free n2)
          ⟨l1, l2, _, _, rfl, rfl, y2, upd_same, (by show 4 ≤ sizeLine; decide), fun l3 n3 =>
          have x3 := (upd_ne (ne_of_none x2 n3)).trans x2
          have S4 := S3.upd (S3.free n3)
          ⟨_, rfl, ea, "ValueError", t.c_BadPost, true, rfl, x3, T.e_BadPost, T.x_BadPost, T.v_BadPost, _, rfl, iteT ⟨_, rfl, .inl ⟨rfl, _, SqL.of upd_same⟩, l3, [true, false, false, false], rfl, rfl, upd_same, rfl, fin e S4⟩⟩⟩⟩⟩⟩)
        (fun e ea H' s' => ⟨ea, rfl, t.c_BadRow, true, rfl, T.x_BadRow, T.m_BadRow_NetError, iteT fun hea => ⟨_, rfl, ea, t.c_BadPost, t.c_BadRow, false, rfl, upd_same, T.e_BadRow, T.x_BadRow, T.i_BadRow_BadPost, _, rfl, ea, t.c_BadRow, t.c_BadRow, true, rfl, upd_same, T.e_BadRow, T.x_BadRow, T.i_BadRow_BadRow, _, rfl, ea, t.c_TooWide, t.c_BadRow, false, rfl, upd_same, T.e_BadRow, T.x_BadRow, T.i_BadRow_TooWide, (by show 3 ≤ sizeLine; decide), fun l1 n1 =>
          have x1 := (upd_ne (ne_of_none upd_same n1)).trans upd_same
          have S1 := s'.upd (s'.free hea)
          have S2 := S1.upd (S1.free n1)
          ⟨_, rfl, _, rfl, ea, t.c_NoNet, t.c_BadRow, false, rfl, x1, T.e_BadRow, T.x_BadRow, T.i_BadRow_NoNet, (by show 1 ≤ sizeLine; decide), fun l2 n2 =>
          have x2 := (upd_ne (ne_of_none x1 n2)).trans x1
          have y2 := (upd_ne (ne_of_none upd_same n2)).trans upd_same
          have S3 := S2.upd (S2.free n2)
          ⟨l1, l2, _, _, rfl, rfl, y2, upd_same, (by show 4 ≤ sizeLine; decide), fun l3 n3 =>
          have x3 := (upd_ne (ne_of_none x2 n3)).trans x2
          have S4 := S3.upd (S3.free n3)
          ⟨_, rfl, ea, "ValueError", t.c_BadRow, true, rfl, x3, T.e_BadRow, T.x_BadRow, T.v_BadRow, _, rfl, iteT ⟨_, rfl, .inl ⟨rfl, _, SqL.of upd_same⟩, l3, [false, true, false, false], rfl, rfl, upd_same, rfl, fin e S4⟩⟩⟩⟩⟩⟩)
        (fun e ea H' s' => ⟨ea, rfl, t.c_TooWide, true, rfl, T.x_TooWide, T.m_TooWide_NetError, iteT fun hea => ⟨_, rfl, ea, t.c_BadPost, t.c_TooWide, false, rfl, upd_same, T.e_TooWide, T.x_TooWide, T.i_TooWide_BadPost, _, rfl, ea, t.c_BadRow, t.c_TooWide, false, rfl, upd_same, T.e_TooWide, T.x_TooWide, T.i_TooWide_BadRow, _, rfl, ea, t.c_TooWide, t.c_TooWide, true, rfl, upd_same, T.e_TooWide, T.x_TooWide, T.i_TooWide_TooWide, (by show 3 ≤ sizeLine; decide), fun l1 n1 =>
          have x1 := (upd_ne (ne_of_none upd_same n1)).trans upd_same
          have S1 := s'.upd (s'.free hea)
          have S2 := S1.upd (S1.free n1)
          ⟨_, rfl, _, rfl, ea, t.c_NoNet, t.c_TooWide, false, rfl, x1, T.e_TooWide, T.x_TooWide, T.i_TooWide_NoNet, (by show 1 ≤ sizeLine; decide), fun l2 n2 =>
          have x2 := (upd_ne (ne_of_none x1 n2)).trans x1
          have y2 := (upd_ne (ne_of_none upd_same n2)).trans upd_same
          have S3 := S2.upd (S2.free n2)
          ⟨l1, l2, _, _, rfl, rfl, y2, upd_same, (by show 4 ≤ sizeLine; decide), fun l3 n3 =>
          have x3 := (upd_ne (ne_of_none x2 n3)).trans x2
          have S4 := S3.upd (S3.free n3)
          ⟨_, rfl, ea, "ValueError", t.c_TooWide, true, rfl, x3, T.e_TooWide, T.x_TooWide, T.v_TooWide, _, rfl, iteT ⟨_, rfl, .inl ⟨rfl, _, SqL.of upd_same⟩, l3, [false, false, true, false], rfl, rfl, upd_same, rfl, fin e S4⟩⟩⟩⟩⟩⟩)⟩
end
end PN
namespace PN
open PySem L2
noncomputable def spLaw (K : PySem.W.Frag) : Sp := fun vs H Q _ => ∃ (a : Addr) (ns : List Int), vs = [.ref a] ∧ SqL K H a (ns.map V.int) ∧ ns.length ≤ 63 ∧ ∀ H', Q (.bl true) H'
noncomputable def sp_mixed : Sp := fun vs H Q _ => ∃ (a : Addr) (ns : List Int), vs = [.ref a] ∧ Ints H a ns ∧ ns.length ≤ 1000 ∧ ∀ l ms H', Same H H' → H l = none → Ints H' l ms → ms.length = ns.length → Q (.ref l) H'
theorem pick {xs : List V} {n m : Int} (hm : (xs.length : Int) = m) (h : 0 < m) : ∃ v ∈ xs, atI xs (n % m) = some v := by
  have h1 := Int.emod_nonneg n (show m ≠ 0 by lia)
  have h2 := Int.emod_lt_of_pos n h
  have hj : (n % m).toNat < xs.length := by lia
  refine ⟨xs[(n % m).toNat], List.getElem_mem hj, ?_⟩
  have z := atI_nat (xs := xs) (j := (n % m).toNat) (List.getElem?_eq_getElem hj)
  rw [show (((n % m).toNat : Nat) : Int) = n % m by lia] at z
  exact z
theorem cut6 (xs : List Int) : (cutI xs (some 4) (some 10)).length ≤ 6 := by
  unfold cutI
  rw [List.length_take, show (some (4 : Int)) = some ((4 : Nat) : Int) from rfl, show (some (10 : Int)) = some ((10 : Nat) : Int) from rfl, HT.sIx_nat, HT.sIx_nat]
  lia
theorem Posts.ints {H : Hp} {a : Addr} {ps : List Post} (h : Posts H a ps) : IPosts H a (ps.map fun p => ((p.1 : Int), (p.2 : Int))) := by
  obtain ⟨rs, e, t1, t2⟩ := h
  refine ⟨rs, e, by rw [List.length_map]; exact t1, fun i r q hi hq => ?_⟩
  rw [List.getElem?_map] at hq
  cases hp : ps[i]? with
  | none => rw [hp] at hq; cases hq
  | some p =>
    rw [hp] at hq
    cases hq
    exact t2 i r p hi hp
theorem ITups.app {H : Hp} {rs rs' : List Addr} {qs qs' : List IPost} (h : ITups H rs qs) (h' : ITups H rs' qs') : ITups H (rs ++ rs') (qs ++ qs') := by
  refine ⟨by rw [List.length_append, List.length_append, h.1, h'.1], fun i r q a b => ?_⟩
  rw [List.getElem?_append] at a b
  by_cases c : i < rs.length
  · rw [if_pos c] at a
    rw [if_pos (h.1 ▸ c)] at b
    exact h.2 i r q a b
  · rw [if_neg c] at a
    rw [if_neg (h.1 ▸ c), ← h.1] at b
    exact h'.2 _ r q a b
theorem ITups.one {H : Hp} {r : Addr} {q1 q2 : Int} (e : H r = some (.tup [.int q1, .int q2])) : ITups H [r] [(q1, q2)] :=
  ⟨rfl, fun i r' q a b => by
    cases i with
    | zero => cases a; cases b; exact e
    | succ n => simp at a⟩
section
variable {P : Program} {w : World} {K : PySem.W.Frag} {mg : Str → Option Value} {base : Heap} {t : Adr}
theorem ok__law_mixed (T : Txt K mg t) : FnOk P w K mg base CX0 1 t.a__law_mixed t.fd__law_mixed ["_law_script"] sp_mixed := by
  refine T.F__law_mixed.ok sc__law_mixed (fun vs H Q E h => ?_) (fun cdv A outer s H vs Q E hr h => ?_)
  · obtain ⟨a, ns, rfl, _⟩ := h
    rfl
  · obtain ⟨a, ns, rfl, ha, hl, k⟩ := h
    refine ⟨_, (pss_one (ps_ret (pe_lc rfl rfl (pi_range1 rfl T.z_range (pa_cons (pe_callB call_len_seq (by rfl) T.z_len PySem.boot_len (pa_cons (pv 0) pa_nil)) pa_nil)) (by rfl) (LcFree.one (N := ["_law_k", "_law_script"]) (k := 0) [(".0", .local), ("_law_k", .local), ("_law_script", .cell)] rfl rfl rfl rfl rfl (by rfl) (by decide +kernel) (by decide +kernel)) rfl (by decide +kernel) (by decide +kernel) (fun _ _ _ _ => (pg_name (i := 0) (show (["_law_k", "_law_script"] : List Str).Nodup by decide +kernel) rfl (Or.inl rfl))) (fun _ _ _ _ => (pe_op op_mod (pe_op op_mul (pe_op op_add (pe_ix (ix_listK (K := K) rfl) (pv 1) (pv 0) (fun _ _ => rfl)) (pe_op op_mul pe_int (pv 0))) pe_int) pe_int))))), ?_⟩
    refine ⟨_, rfl, a, _, rfl, .inl (SqL.of ha), _, rfl, by lia, by rw [List.length_map]; lia, fun D hD => lc_range (lo := 0) (n := (((ns.map V.int).length : Nat) : Int).toNat) (fun i σ H2 => ∃ (u : Option V) (ms : List Int), σ = [u, some (.ref a)] ∧ Same H H2 ∧ Ints H2 D ms ∧ ms.length = i)
      ⟨none, [], rfl, Same.new hD, upd_same, rfl⟩ ?_ ?_⟩
    · rintro i σ H2 hi ⟨u, ms, rfl, s2, e2, l2⟩
      have hi' : i < ns.length := by simpa using hi
      have hat : atI (ns.map V.int) (0 + (i : Int)) = some (.int (ns.getD i 0)) := by
        rw [Int.zero_add]
        exact at_ints hi'
      refine ⟨_, rfl, _, rfl, a, _, _, _, rfl, rfl, SqL.of (s2 _ _ ha), hat, _, rfl, _, _, rfl, rfl, .inl ⟨by decide, by decide⟩, _, _, rfl, rfl, _, _, rfl, rfl, .inr ⟨by decide, by decide⟩, _, _, rfl, rfl, (by show (0 : Int) < 1000003; decide), ?_⟩
      refine LcEnd.mk e2 (big' (by rw [List.length_map]; lia)) hi ⟨_, ms ++ [(ns.getD i 0 + 7919 * (0 + (i : Int))) * 48271 % 1000003], rfl, s2.upd hD, ?_, by rw [List.length_append, l2]; rfl⟩
      show _ = _
      rw [upd_same, List.map_append]
      rfl
    · rintro σ H2 ⟨u, ms, rfl, s2, e2, l2⟩
      exact k D ms H2 s2 hD e2 (by rw [l2, List.length_map]; rfl)
end
end PN
namespace PN
open PySem L2
set_option autoImplicit false
noncomputable def lawT {P : Program} {w : World} {K : PySem.W.Frag} {mg : Str → Option Value} {base : Heap} {t : Adr} (T : Txt K mg t) (G__law_mixed : FnOk P w K mg base CX0 1 t.a__law_mixed t.fd__law_mixed ["_law_script"] sp_mixed) (G__law_at : FnOk P w K mg base CX0 1 t.a__law_at t.fd__law_at ["_law_script", "_law_k"] sp_at)
    (G__law_posts_by : FnOk P w K mg base CX0 1 t.a__law_posts_by t.fd__law_posts_by ["_law_width", "_law_cells"] sp_posts_by) (G__law_said : FnOk P w K mg base CX0 10 t.a__law_said t.fd__law_said ["_law_which", "_law_width", "_law_posts", "_law_row"] sp_said)
    (G__law_refuses : FnOk P w K mg base CX0 10 t.a__law_refuses t.fd__law_refuses ["_law_which", "_law_width", "_law_posts", "_law_row"] sp_refuses) (cdv : Value) (A : Around) (outer : List Env) (s : Shared) (H : Hp) (E : XK)
    (hr__law_at : Room 1 (A.deeper (PyProof.Rows.envOfC "law" (defScope s_law) s.heap.objs.size t.a_law cdv))) (hr__law_mixed : Room 1 (A.deeper (PyProof.Rows.envOfC "law" (defScope s_law) s.heap.objs.size t.a_law cdv))) (hr__law_posts_by : Room 1 (A.deeper (PyProof.Rows.envOfC "law" (defScope s_law) s.heap.objs.size t.a_law cdv)))
    (hr__law_said : Room 10 (A.deeper (PyProof.Rows.envOfC "law" (defScope s_law) s.heap.objs.size t.a_law cdv))) (hr__law_refuses : Room 10 (A.deeper (PyProof.Rows.envOfC "law" (defScope s_law) s.heap.objs.size t.a_law cdv))) :
    { tt : TS // PSs (cxOf CX0 P w K mg base ["_law_script", "_law_width", "_law_posts", "_law_row", "_law_way", "_law_lane", "_law_menu", "_law_odd", "_law_bad", "_law_low", "_law_high", "_law_which", "_law_due"] "law" (defScope s_law) t.a_law cdv A outer s H E).nox (defBody s_law) tt } := ⟨_, (pss_cons (ps_set (i := 0) sc_law.nd rfl (Or.inl rfl) (pe_slice sl_list (pv 0) po_none (po_some pe_int)))
      (pss_cons (ps_set (i := 0) sc_law.nd rfl (Or.inl rfl) (pe_call G__law_mixed hr__law_mixed rfl T.m__law_mixed T.F__law_mixed.kp T.b__law_mixed .nil pass0 (pa_cons (pv 0) pa_nil)))
      (pss_cons (ps_set (i := 1) sc_law.nd rfl (Or.inl rfl) (pe_ix ix_list (pe_lst (pa_const pe_int (pa_const pe_int (pa_const pe_int (pa_const pe_int (pa_const pe_int (pa_const pe_int (pa_const pe_int (pa_const pe_int pa_nil))))))))) (pe_op op_mod (pe_call G__law_at hr__law_at rfl T.m__law_at T.F__law_at.kp T.b__law_at .nil pass0 (pa_cons (pv 0) (pa_const pe_int pa_nil))) pe_int) (fun _ _ => rfl)))
      (pss_cons (ps_set (i := 2) sc_law.nd rfl (Or.inl rfl) (pe_call G__law_posts_by hr__law_posts_by rfl T.m__law_posts_by T.F__law_posts_by.kp T.b__law_posts_by .nil pass0 (pa_cons (pv 1) (pa_cons (pe_slice sl_list (pv 0) (po_some pe_int) (po_some pe_int)) pa_nil))))
      (pss_cons (ps_setLc (i := 3) sc_law.nd rfl (Or.inl rfl) (by rfl) rfl rfl (pi_list (pe_slice sl_list (pe_op op_cat (pe_slice sl_list (pv 0) (po_some pe_int) po_none) (pe_op op_rep (pe_lst (pa_const pe_int pa_nil)) pe_int)) po_none (po_some (pv 1)))) (by rfl) (LcFree.nil (N := ["_law_cell"]) [(".0", .local), ("_law_cell", .local)] rfl rfl (by decide +kernel)) rfl (by decide +kernel) (by decide +kernel) (fun _ _ _ _ => (pg_name (i := 0) (show (["_law_cell"] : List Str).Nodup by decide +kernel) rfl (Or.inl rfl))) (fun _ _ _ _ => (pe_op op_mod (pv 0) pe_int)))
      (pss_cons (ps_set (i := 4) sc_law.nd rfl (Or.inl rfl) (pe_op op_mod (pe_call G__law_at hr__law_at rfl T.m__law_at T.F__law_at.kp T.b__law_at .nil pass0 (pa_cons (pv 0) (pa_const pe_int pa_nil))) pe_int))
      (pss_cons (ps_set (i := 5) sc_law.nd rfl (Or.inl rfl) (pe_op op_mod (pe_call G__law_at hr__law_at rfl T.m__law_at T.F__law_at.kp T.b__law_at .nil pass0 (pa_cons (pv 0) (pa_const pe_int pa_nil))) (pv 1)))
      (pss_cons (ps_set (i := 6) sc_law.nd rfl (Or.inl rfl) (pe_lst (pa_cons (pe_tup (pa_cons (pe_un un_neg pe_int) (pa_cons (pv 5) pa_nil))) (pa_cons (pe_tup (pa_cons (pv 5) (pa_cons (pv 1) pa_nil))) (pa_cons (pe_tup (pa_cons (pv 5) (pa_cons (pv 5) pa_nil))) (pa_cons (pe_tup (pa_cons (pv 5) (pa_cons (pe_op op_pow pe_int pe_int) pa_nil))) pa_nil))))))
      (pss_cons (ps_set (i := 7) sc_law.nd rfl (Or.inl rfl) (pe_ix ix_list (pv 6) (pe_op op_mod (pe_op op_fdiv (pe_call G__law_at hr__law_at rfl T.m__law_at T.F__law_at.kp T.b__law_at .nil pass0 (pa_cons (pv 0) (pa_const pe_int pa_nil))) pe_int) pe_int) (fun _ _ => rfl)))
      (pss_cons (ps_if (pt_cmpR op_eq (pv 4) pe_int (nomark _)) (pss_one (ps_set (i := 2) sc_law.nd rfl (Or.inl rfl) (pe_op op_cat (pv 2) (pe_lst (pa_cons (pv 7) pa_nil)))))
        pss_nil)
      (pss_cons (ps_if (pt_cmpR op_eq (pv 4) pe_int (nomark _)) (pss_one (ps_set (i := 2) sc_law.nd rfl (Or.inl rfl) (pe_op op_cat (pe_lst (pa_cons (pv 7) pa_nil)) (pv 2))))
        pss_nil)
      (pss_cons (ps_if (PW.pt (pw_and (pt_cmpR op_eq (pv 4) pe_int (nomark _)) (pw_and1 (pt_cmpR op_gt (pv 1) pe_int (nomark _))))) (pss_one (ps_set (i := 2) sc_law.nd rfl (Or.inl rfl) (pe_op op_cat (pv 2) (pe_lst (pa_cons (pe_tup (pa_cons (pe_op op_sub (pv 1) pe_int) (pa_const pe_int pa_nil))) pa_nil)))))
        pss_nil)
      (pss_cons (ps_if (PW.pt (pw_or (pt_cmpR op_eq (pv 4) pe_int (nomark _)) (pw_or1 (PW.pt (pw_and (pt_cmpR op_eq (pv 4) pe_int (nomark _)) (pw_and1 (pt_cmpR op_eq (pe_op op_mod (pe_call G__law_at hr__law_at rfl T.m__law_at T.F__law_at.kp T.b__law_at .nil pass0 (pa_cons (pv 0) (pa_const pe_int pa_nil))) pe_int) pe_int (nomark _)))))))) (pss_one (ps_set (i := 3) sc_law.nd rfl (Or.inl rfl) (pe_ix ix_list (pe_lst (pa_cons (pe_slice sl_list (pv 3) (po_some pe_int) po_none) (pa_cons (pe_op op_cat (pv 3) (pe_lst (pa_const pe_int pa_nil))) pa_nil))) (pe_op op_mod (pe_op op_fdiv (pe_call G__law_at hr__law_at rfl T.m__law_at T.F__law_at.kp T.b__law_at .nil pass0 (pa_cons (pv 0) (pa_const pe_int pa_nil))) pe_int) pe_int) (fun _ _ => rfl))))
        pss_nil)
      (pss_cons (ps_set (i := 8) sc_law.nd rfl (Or.inl rfl) pe_bl)
      (pss_cons (ps_for PassesOwn.never rfl (pi_list (pv 2)) (pg_tup rfl (pgs_cons (pg_name (i := 9) sc_law.nd rfl (Or.inl rfl)) (pgs_cons (pg_name (i := 10) sc_law.nd rfl (Or.inl rfl)) pgs_nil)))
        (pss_one (ps_set (i := 8) sc_law.nd rfl (Or.inl rfl) (pe_or (pv 8) (pe_or (pe_cmpR op_lt (pv 9) pe_int (nomark _)) (pe_or (pe_cmpR op_ge (pv 9) (pv 10) (nomark _)) (pe_one (pe_cmpR op_ge (pv 10) (pv 1) (nomark _)))))))))
      (pss_cons (ps_if (pt_cmpR op_eq (pv 4) pe_int (nomark _)) (pss_cons (ps_set (i := 1) sc_law.nd rfl (Or.inl rfl) (pe_ix ix_list (pe_lst (pa_const pe_int (pa_cons (pe_un un_neg pe_int) pa_nil))) (pe_op op_mod (pe_call G__law_at hr__law_at rfl T.m__law_at T.F__law_at.kp T.b__law_at .nil pass0 (pa_cons (pv 0) (pa_const pe_int pa_nil))) pe_int) (fun _ _ => rfl)))
        (pss_one (ps_set (i := 8) sc_law.nd rfl (Or.inl rfl) pe_bl)))
        pss_nil)
      (pss_cons (ps_for PassesOwn.never rfl (pi_range1 rfl T.z_range (pa_const pe_int pa_nil)) (pg_name (i := 11) sc_law.nd rfl (Or.inl rfl))
        (pss_cons (ps_set (i := 12) sc_law.nd rfl (Or.inl rfl) pe_str)
        (pss_cons (ps_if (PW.pt (pw_and (pt_cmpR op_lt (pv 11) pe_int (nomark _)) (pw_and1 (pt_cmpR op_gt (pv 1) pe_int (nomark _))))) (pss_one (ps_set (i := 12) sc_law.nd rfl (Or.inl rfl) pe_str))
          pss_nil)
        (pss_cons (ps_if (PW.pt (pw_and (pt_cmpR op_in_seq (pv 11) (pe_lst (pa_const pe_int (pa_const pe_int pa_nil))) rfl) (pw_and1 (pt_cmpR op_ne (pe_callB call_len_seq (by rfl) T.z_len PySem.boot_len (pa_cons (pv 3) pa_nil)) (pv 1) (nomark _))))) (pss_one (ps_set (i := 12) sc_law.nd rfl (Or.inl rfl) pe_str))
          pss_nil)
        (pss_cons (ps_if (PW.pt (pw_or (PW.pt (pw_and (pt_val (pv 8)) (pw_and1 (pt_cmpR op_lt (pv 11) pe_int (nomark _))))) (pw_or1 (pt_cmpR op_lt (pv 1) pe_int (nomark _))))) (pss_one (ps_set (i := 12) sc_law.nd rfl (Or.inl rfl) pe_str))
          pss_nil)
        (pss_cons (ps_if (pt_cmpR op_ne (pe_call G__law_said hr__law_said rfl T.m__law_said T.F__law_said.kp T.b__law_said .nil pass0 (pa_cons (pv 11) (pa_cons (pv 1) (pa_cons (pe_callTy call_list_of (by rfl) T.z_list PyProof.Rows.boot_list (pa_cons (pv 2) pa_nil)) (pa_cons (pe_callTy call_list_of (by rfl) T.z_list PyProof.Rows.boot_list (pa_cons (pv 3) pa_nil)) pa_nil))))) (pv 12) (nomark _)) (pss_one (ps_ret pe_bl))
          pss_nil)
        (pss_one (ps_if (pt_cmpR op_ne (pe_call G__law_refuses hr__law_refuses rfl T.m__law_refuses T.F__law_refuses.kp T.b__law_refuses .nil pass0 (pa_cons (pv 11) (pa_cons (pv 1) (pa_cons (pe_callTy call_list_of (by rfl) T.z_list PyProof.Rows.boot_list (pa_cons (pv 2) pa_nil)) (pa_cons (pe_callTy call_list_of (by rfl) T.z_list PyProof.Rows.boot_list (pa_cons (pv 3) pa_nil)) pa_nil))))) (pe_cmpR op_ne (pv 12) pe_str (nomark _)) (nomark _)) (pss_one (ps_ret pe_bl))
          pss_nil))))))))
      (pss_one (ps_ret pe_bl)))))))))))))))))))⟩
end PN
namespace PN
open PySem L2
section
variable {P : Program} {w : World} {K : PySem.W.Frag} {mg : Str → Option Value} {base : Heap} {t : Adr}
theorem cut_by {A B : Prop} (f : A → B) (a : A) : B := f a
theorem due_done (d : Due) : (!decide (d = .done)) = (!decide (V.str d.word = V.str "done")) := by
  cases d <;> decide +kernel
theorem ok_law (T : Txt K mg t) : FnOk P w K mg base CX0 11 t.a_law t.fd_law ["_law_script"] (spLaw K) := by
  have G__law_mixed := ok__law_mixed (P := P) (w := w) (base := base) T
  have G__law_at : FnOk P w K mg base CX0 1 t.a__law_at t.fd__law_at ["_law_script", "_law_k"] sp_at := ok__law_at T
  have G__law_posts_by : FnOk P w K mg base CX0 1 t.a__law_posts_by t.fd__law_posts_by ["_law_width", "_law_cells"] sp_posts_by := ok__law_posts_by T
  have G__law_said := ok__law_said (P := P) (w := w) (base := base) T
  have G__law_refuses := ok__law_refuses (P := P) (w := w) (base := base) T
  refine T.F_law.ok sc_law (fun vs H Q E h => ?_) (fun cdv A outer s H vs Q E hr h => ?_)
  · obtain ⟨a, ns, rfl, _⟩ := h
    rfl
  · obtain ⟨a, ns, rfl, hS, hlen, k⟩ := h
    have hr__law_at := hr.mono (j := 1) (by decide)
    have hr__law_mixed := hr.mono (j := 1) (by decide)
    have hr__law_posts_by := hr.mono (j := 1) (by decide)
    have hr__law_said := hr
    have hr__law_refuses := hr
    refine ⟨_, (lawT T G__law_mixed G__law_at G__law_posts_by G__law_said G__law_refuses cdv A outer s H E hr__law_at hr__law_mixed hr__law_posts_by hr__law_said hr__law_refuses).2, ?_⟩
    unfold lawT
    dsimp only
    -- the script, mixed
    refine ⟨_, rfl, _, rfl, a, _, rfl, hS, fun a0 hn0 => ?_⟩
    have c0 : Ints (upd H a0 (.lst (cutV (ns.map V.int) none (some 500)))) a0 (cutI ns none (some 500)) := cut_at
    have l0 := cutI_length ns none (some 500)
    generalize cutI ns none (some 500) = ns0 at c0 l0
    generalize upd H a0 (.lst (cutV (ns.map V.int) none (some 500))) = H0 at c0 ⊢
    refine ⟨_, rfl, a0, ns0, rfl, c0, by lia, fun a1 ms H1 s1 n1 c1 l1 => ?_⟩
    clear s1 n1
    -- the width
    refine ⟨(by show 8 ≤ sizeLine; decide), fun l8 h8 => ?_⟩
    obtain ⟨v, hv, ev⟩ := pick (xs := [V.int 4, V.int 1, V.int 2, V.int 3, V.int 5, V.int 13, V.int 40, V.int 8]) (n := ms.getD 0 0) (m := 8) rfl (by decide)
    have c2 := Same.new (o := .lst [V.int 4, V.int 1, V.int 2, V.int 3, V.int 5, V.int 13, V.int 40, V.int 8]) h8 _ _ c1
    refine ⟨_, rfl, a1, 0, ms, rfl, c2, by lia, _, _, rfl, rfl, (by show (0 : Int) < 8; decide), l8, _, _, _, rfl, rfl, SqL.of upd_same, ev, ?_⟩
    obtain ⟨wd, rfl, hw1, hw2⟩ : ∃ wd : Int, v = .int wd ∧ 1 ≤ wd ∧ wd ≤ 40 := by
      simp only [List.mem_cons, List.not_mem_nil, or_false] at hv
      rcases hv with rfl | rfl | rfl | rfl | rfl | rfl | rfl | rfl <;> exact ⟨_, rfl, by decide, by decide⟩
    generalize upd H1 l8 (.lst [V.int 4, V.int 1, V.int 2, V.int 3, V.int 5, V.int 13, V.int 40, V.int 8]) = H2 at c2 ⊢
    clear ev hv
    dsimp only [gName]
    -- the posts
    have l3 := cut6 ms
    refine ⟨_, rfl, _, rfl, _, rfl, _, rfl, a1, _, rfl, SqL.of c2, fun a3 hn3 => ⟨wd, a3, cutI ms (some 4) (some 10), rfl, cut_at, hw1, by lia, by lia, fun pa ps H3 s3 n3 hP hN hpl => ?_⟩⟩
    have c3 := s3 _ _ (Same.new hn3 _ _ c2)
    dsimp only [gName]
    -- the row
    refine seq_by (fun σ' Hx => ∃ (rb : Addr) (xs : List Int), σ' = [some (.ref a1), some (.int wd), some (.ref pa), some (.ref rb), none, none, none, none, none, none, none, none, none] ∧ Same H3 Hx ∧ Ints Hx rb xs ∧ xs.length ≤ 200) (fun N hNx => ?_) (fun σ' H4 ⟨rb, xs, hσ, s4, e4, x4⟩ => ?_)
    · refine ⟨_, rfl, _, rfl, a1, _, rfl, SqL.of c3, fun s4 hs4 => ⟨(by show 1 ≤ sizeLine; decide), fun z hz => ⟨z, 40, _, rfl, rfl, upd_same, by decide, by decide, (by show 1 * 40 ≤ sizeLine; decide), fun zz hzz => ?_⟩⟩⟩
      have ez : cutV (cutV (ms.map V.int) (some 4) none ++ (List.replicate (40 : Int).toNat [V.int 0]).flatten) none (some wd) = (cutI (cutI ms (some 4) none ++ List.replicate 40 0) none (some wd)).map V.int := by
        rw [cutV_ints, show (List.replicate (40 : Int).toNat [V.int 0]).flatten = (List.replicate 40 (0 : Int)).map V.int from rfl, ← List.map_append, cutV_ints]
      have lz : (cutI (cutI ms (some 4) none ++ List.replicate 40 0) none (some wd)).length ≤ 103 := by
        have z1 := cutI_length (cutI ms (some 4) none ++ List.replicate 40 0) none (some wd)
        have z2 := cutI_length ms (some 4) none
        rw [List.length_append, List.length_replicate] at z1
        lia
      generalize cutI (cutI ms (some 4) none ++ List.replicate 40 0) none (some wd) = cs at ez lz
      have g1 : cutV (ms.map V.int) (some 4) none = (cutI ms (some 4) none).map V.int := cutV_ints ms _ _
      refine ⟨s4, zz, _, _, rfl, rfl, (upd_ne (ne_of_none ((upd_ne (ne_of_none upd_same hz)).trans upd_same) hzz)).trans ((upd_ne (ne_of_none upd_same hz)).trans upd_same), upd_same, big (by
          rw [g1, List.length_map]
          have z2 := cutI_length ms (some 4) none
          show (cutI ms (some 4) none).length + 40 ≤ 100000
          lia), fun ct hct => ⟨_, rfl, _, rfl, ct, _, rfl, SqL.of upd_same, fun sl hsl => ?_⟩⟩
      rw [ez] at *
      have S1 := Same.new (o := .lst (cutV (ms.map V.int) (some 4) none)) hs4
      have S2 := S1.trans (Same.new (o := .lst [V.int 0]) hz)
      have S3 := S2.trans (Same.new (o := .lst (List.replicate (40 : Int).toNat [V.int 0]).flatten) hzz)
      have S4 := S3.trans (Same.new (o := .lst (cutV (ms.map V.int) (some 4) none ++ (List.replicate (40 : Int).toNat [V.int 0]).flatten)) hct)
      have S5 := S4.trans (Same.new (o := .lst (cs.map V.int)) hsl)
      have es := upd_same (H := upd (upd (upd (upd H3 s4 (.lst (cutV (ms.map V.int) (some 4) none))) z (.lst [V.int 0])) zz (.lst (List.replicate (40 : Int).toNat [V.int 0]).flatten)) ct (.lst (cutV (ms.map V.int) (some 4) none ++ (List.replicate (40 : Int).toNat [V.int 0]).flatten))) (a := sl) (o := .lst (cs.map V.int))
      generalize upd (upd (upd (upd (upd H3 s4 (.lst (cutV (ms.map V.int) (some 4) none))) z (.lst [V.int 0])) zz (.lst (List.replicate (40 : Int).toNat [V.int 0]).flatten)) ct (.lst (cutV (ms.map V.int) (some 4) none ++ (List.replicate (40 : Int).toNat [V.int 0]).flatten))) sl (.lst (cs.map V.int)) = H5 at S5 es ⊢
      refine ⟨sl, rfl, ⟨_, SqL.of es⟩, fun D hD => lc_list (K := K) (a := sl) (xs := cs.map V.int) (fun i σ H6 => ∃ (u : Option V) (rs : List Int), σ = [u] ∧ Same H5 H6 ∧ Ints H6 D rs ∧ rs.length = i)
        ⟨none, [], rfl, Same.new hD, upd_same, rfl⟩ (fun i σ H6 _ ⟨_, _, _, s6, _⟩ => SqL.of (s6 _ _ es)) ?_ ?_⟩
      · rintro i x σ H6 hi ⟨u, rs, rfl, s6, e6, l6⟩
        have hil := (List.getElem?_eq_some_iff.mp hi).1
        obtain ⟨n, hn, rfl⟩ := map_get hi
        refine ⟨_, rfl, _, _, rfl, rfl, (by show (0 : Int) < 3; decide), LcEnd.mk e6 (big' (by rw [List.length_map] at hil ⊢; lia)) hil ⟨_, rs ++ [n % 3], rfl, s6.upd hD, ?_, by rw [List.length_append, l6]; rfl⟩⟩
        show _ = _
        rw [upd_same, List.map_append]
        rfl
      · rintro σ H6 ⟨u, rs, rfl, s6, e6, l6⟩
        exact hNx _ _ ⟨D, rs, rfl, S5.trans s6, e6, by rw [l6, List.length_map]; lia⟩
    subst hσ
    have c4 := s4 _ _ c3
    have hP4 := hP.mono s4
    -- the way, the lane
    refine ⟨_, rfl, a1, 1, ms, rfl, c4, by lia, _, _, rfl, rfl, (by show (0 : Int) < 8; decide), ?_⟩
    refine ⟨_, rfl, a1, 2, ms, rfl, c4, by lia, _, rfl, _, _, rfl, rfl, (by show 0 < wd; lia), ?_⟩
    dsimp only [gName]
    generalize ms.getD 1 0 % 8 = way
    generalize ms.getD 2 0 % wd = lane
    -- the odd post
    refine seq_by (fun σ' Hx => ∃ (um : Option V) (ml : Addr) (o1 o2 o3 o4 : Addr), σ' = [some (.ref a1), some (.int wd), some (.ref pa), some (.ref rb), some (.int way), some (.int lane), some (.ref ml), none, none, none, none, none, none] ∧ Same H4 Hx ∧
        Hx ml = some (.lst [.ref o1, .ref o2, .ref o3, .ref o4]) ∧ Hx o1 = some (.tup [.int (-1), .int lane]) ∧ Hx o2 = some (.tup [.int lane, .int wd]) ∧ Hx o3 = some (.tup [.int lane, .int lane]) ∧ Hx o4 = some (.tup [.int lane, .int (10 ^ 30)]))
      (fun N hNx => ?_) (fun σ' H5 ⟨um, ml, o1, o2, o3, o4, hσ, s5, em, p1, p2, p3, p4⟩ => ?_)
    · refine ⟨_, rfl, _, rfl, (by show 2 ≤ sizeLine; decide), fun o1 h1 => ⟨_, rfl, _, rfl, (by show 2 ≤ sizeLine; decide), fun o2 h2 => ⟨_, rfl, _, rfl, (by show 2 ≤ sizeLine; decide), fun o3 h3 => ⟨_, rfl, _, _, rfl, rfl, ⟨by decide, by decide, by decide⟩, (by show 2 ≤ sizeLine; decide), fun o4 h4 => ⟨(by show 4 ≤ sizeLine; decide), fun ml hm => ?_⟩⟩⟩⟩⟩
      have S2 := Same.new (o := .tup [.int lane, .int wd]) h2
      have S3 := Same.new (o := .tup [.int lane, .int lane]) h3
      have S4 := Same.new (o := .tup [.int lane, .int ((10 : Int) ^ (30 : Int).toNat)]) h4
      have S5 := Same.new (o := .lst [.ref o1, .ref o2, .ref o3, .ref o4]) hm
      exact hNx _ _ ⟨none, ml, o1, o2, o3, o4, rfl, (Same.new h1).trans (S2.trans (S3.trans (S4.trans S5))), upd_same, S5 _ _ (S4 _ _ (S3 _ _ (S2 _ _ upd_same))), S5 _ _ (S4 _ _ (S3 _ _ upd_same)), S5 _ _ (S4 _ _ upd_same), S5 _ _ upd_same⟩
    subst hσ
    have c5 := s5 _ _ c4
    have hP5 := (hP4.mono s5).ints
    have e5 := s5 _ _ e4
    obtain ⟨v, hv, ev⟩ := pick (xs := [V.ref o1, V.ref o2, V.ref o3, V.ref o4]) (n := ms.getD 2 0 / 40) (m := 4) rfl (by decide)
    refine ⟨_, rfl, _, rfl, a1, 2, ms, rfl, c5, by lia, _, _, rfl, rfl, (by show (0 : Int) < 40 ∧ (40 : Int) < 1073741824; decide), _, _, rfl, rfl, (by show (0 : Int) < 4; decide), ml, _, _, _, rfl, rfl, SqL.of em, ev, ?_⟩
    obtain ⟨od, q1, q2, rfl, eod⟩ : ∃ (od : Addr) (q1 q2 : Int), v = .ref od ∧ H5 od = some (.tup [.int q1, .int q2]) := by
      simp only [List.mem_cons, List.not_mem_nil, or_false] at hv
      rcases hv with rfl | rfl | rfl | rfl
      · exact ⟨_, _, _, rfl, p1⟩
      · exact ⟨_, _, _, rfl, p2⟩
      · exact ⟨_, _, _, rfl, p3⟩
      · exact ⟨_, _, _, rfl, p4⟩
    clear ev hv p1 p2 p3 p4
    dsimp only [gName]
    have hq5 : (ps.map fun p => ((p.1 : Int), (p.2 : Int))).length ≤ 6 := by rw [List.length_map]; lia
    generalize (ps.map fun p => ((p.1 : Int), (p.2 : Int))) = qs5 at hP5 hq5
    -- one post more behind
    refine seq_by (fun σ' Hx => ∃ (pb : Addr) (qs : List IPost), σ' = [some (.ref a1), some (.int wd), some (.ref pb), some (.ref rb), some (.int way), some (.int lane), some (.ref ml), some (.ref od), none, none, none, none, none] ∧ Same H5 Hx ∧ IPosts Hx pb qs ∧ qs.length ≤ 7)
      (fun N hNx => ?_) (fun σ' H6 ⟨pb, qs6, hσ, s6, hP6, hq6⟩ => ?_)
    · refine ⟨_, rfl, rfl, _, rfl, ?_⟩
      by_cases c : way = 1
      · subst c
        refine iteD rfl ⟨_, rfl, _, rfl, (by show 1 ≤ sizeLine; decide), fun l hl => ?_⟩
        obtain ⟨rs, er, tr⟩ := hP5
        have hrl := tr.1
        refine ⟨pa, l, _, _, rfl, rfl, Same.new hl _ _ er, upd_same, big (by rw [List.length_map]; show rs.length + 1 ≤ 100000; lia), fun l2 hl2 => ?_⟩
        have S := (Same.new (o := .lst [.ref od]) hl).trans (Same.new (o := .lst (rs.map V.ref ++ [.ref od])) hl2)
        exact hNx _ _ ⟨l2, qs5 ++ [(q1, q2)], rfl, S, ⟨rs ++ [od], by rw [upd_same, List.map_append]; rfl, (tr.mono S).app (ITups.one (S _ _ eod))⟩, by rw [List.length_append]; show qs5.length + 1 ≤ 7; lia⟩
      · exact iteDn (vintn c) (hNx _ _ ⟨pa, qs5, rfl, Same.refl _, hP5, by lia⟩)
    subst hσ
    -- one ahead
    refine seq_by (fun σ' Hx => ∃ (pb : Addr) (qs : List IPost), σ' = [some (.ref a1), some (.int wd), some (.ref pb), some (.ref rb), some (.int way), some (.int lane), some (.ref ml), some (.ref od), none, none, none, none, none] ∧ Same H5 Hx ∧ IPosts Hx pb qs ∧ qs.length ≤ 8)
      (fun N hNx => ?_) (fun σ' H7 ⟨pc, qs7, hσ, s7, hP7, hq7⟩ => ?_)
    · refine ⟨_, rfl, rfl, _, rfl, ?_⟩
      by_cases c : way = 2
      · subst c
        refine iteD rfl ⟨_, rfl, (by show 1 ≤ sizeLine; decide), fun l hl => ⟨_, rfl, ?_⟩⟩
        obtain ⟨rs, er, tr⟩ := hP6
        have hrl := tr.1
        refine ⟨l, pb, _, _, rfl, rfl, upd_same, Same.new hl _ _ er, big (by rw [List.length_map]; show 1 + rs.length ≤ 100000; lia), fun l2 hl2 => ?_⟩
        have S := (Same.new (o := .lst [.ref od]) hl).trans (Same.new (o := .lst ([.ref od] ++ rs.map V.ref)) hl2)
        exact hNx _ _ ⟨l2, [(q1, q2)] ++ qs6, rfl, s6.trans S, ⟨[od] ++ rs, by rw [upd_same]; rfl, (ITups.one (S _ _ (s6 _ _ eod))).app (tr.mono S)⟩, by rw [List.length_append]; show 1 + qs6.length ≤ 8; lia⟩
      · exact iteDn (vintn c) (hNx _ _ ⟨pb, qs6, rfl, s6, hP6, by lia⟩)
    subst hσ
    -- from the last lane to the first
    refine seq_by (fun σ' Hx => ∃ (pb : Addr) (qs : List IPost), σ' = [some (.ref a1), some (.int wd), some (.ref pb), some (.ref rb), some (.int way), some (.int lane), some (.ref ml), some (.ref od), none, none, none, none, none] ∧ Same H5 Hx ∧ IPosts Hx pb qs ∧ qs.length ≤ 9)
      (fun N hNx => ?_) (fun σ' H8 ⟨pd, qs8, hσ, s8, hP8, hq8⟩ => ?_)
    · have stay : N [some (.ref a1), some (.int wd), some (.ref pc), some (.ref rb), some (.int way), some (.int lane), some (.ref ml), some (.ref od), none, none, none, none, none] H7 := hNx _ _ ⟨pc, qs7, rfl, s7, hP7, by lia⟩
      refine ⟨_, rfl, rfl, _, rfl, ?_⟩
      by_cases c : way = 3
      · subst c
        refine iteD rfl ⟨_, rfl, _, _, rfl, rfl, _, rfl, ?_⟩
        by_cases c2 : 1 < wd
        · refine iteD c2 ⟨_, rfl, _, rfl, _, _, rfl, rfl, (by show 2 ≤ sizeLine; decide), fun tp htp => ⟨(by show 1 ≤ sizeLine; decide), fun l hl => ?_⟩⟩
          obtain ⟨rs, er, tr⟩ := hP7
          have hrl := tr.1
          have S0 := Same.new (o := .tup [.int (wd - 1), .int 0]) htp
          refine ⟨pc, l, _, _, rfl, rfl, Same.new hl _ _ (S0 _ _ er), upd_same, big (by rw [List.length_map]; show rs.length + 1 ≤ 100000; lia), fun l2 hl2 => ?_⟩
          have S1 := (Same.new (o := .lst [.ref tp]) hl).trans (Same.new (o := .lst (rs.map V.ref ++ [.ref tp])) hl2)
          have S := S0.trans S1
          exact hNx _ _ ⟨l2, qs7 ++ [(wd - 1, 0)], rfl, s7.trans S, ⟨rs ++ [tp], by rw [upd_same, List.map_append]; rfl, (tr.mono S).app (ITups.one (S1 _ _ upd_same))⟩, by rw [List.length_append]; show qs7.length + 1 ≤ 9; lia⟩
        · exact iteDn c2 stay
      · exact iteDn (vintn c) (iteF stay)
    subst hσ
    have c8 := s8 _ _ c5
    have e8 := s8 _ _ e5
    -- another row
    refine seq_by (fun σ' Hx => ∃ (rc : Addr) (ys : List Int), σ' = [some (.ref a1), some (.int wd), some (.ref pd), some (.ref rc), some (.int way), some (.int lane), some (.ref ml), some (.ref od), none, none, none, none, none] ∧ Same H8 Hx ∧ Ints Hx rc ys ∧ ys.length ≤ 300)
      (fun N hNx => ?_) (fun σ' H9 ⟨rc, ys, hσ, s9, e9, hy9⟩ => ?_)
    · have stay : N [some (.ref a1), some (.int wd), some (.ref pd), some (.ref rb), some (.int way), some (.int lane), some (.ref ml), some (.ref od), none, none, none, none, none] H8 := hNx _ _ ⟨rb, xs, rfl, Same.refl _, e8, by lia⟩
      refine ⟨_, rfl, rfl, _, rfl, ?_⟩
      apply cut_by
      case f =>
        intro go
        by_cases c : way = 4
        · exact iteD (vint c) (iteT go)
        · refine iteDn (vintn c) ⟨_, rfl, rfl, _, rfl, ?_⟩
          by_cases c1 : way = 1
          · refine iteD (vint c1) ⟨_, rfl, a1, 3, ms, rfl, c8, by omega, _, _, rfl, rfl, (by show (0 : Int) < 2; decide), rfl, _, rfl, ?_⟩
            by_cases c2 : ms.getD 3 0 % 2 = 1
            · exact iteD (vint c2) go
            · exact iteDn (vintn c2) stay
          · exact iteDn (vintn c1) (iteF stay)
      case a =>
        refine ⟨_, rfl, _, rfl, rb, _, rfl, SqL.of e8, fun r1 hr1 => ⟨_, rfl, (by show 1 ≤ sizeLine; decide), fun z hz => ⟨rb, z, _, _, rfl, rfl, Same.new hz _ _ (Same.new hr1 _ _ e8), upd_same, big (by rw [List.length_map]; show xs.length + 1 ≤ 100000; lia), fun r2 hr2 => ⟨(by show 2 ≤ sizeLine; decide), fun ll hll => ?_⟩⟩⟩⟩
        obtain ⟨v, hv, ev⟩ := pick (xs := [V.ref r1, V.ref r2]) (n := ms.getD 3 0 / 2) (m := 2) rfl (by decide)
        have S1 := Same.new (o := .lst (cutV (xs.map V.int) (some 1) none)) hr1
        have S2 := Same.new (o := .lst [V.int 0]) hz
        have S3 := Same.new (o := .lst (xs.map V.int ++ [V.int 0])) hr2
        have S4 := Same.new (o := .lst [V.ref r1, V.ref r2]) hll
        have SS := S1.trans (S2.trans (S3.trans S4))
        refine ⟨_, rfl, a1, 3, ms, rfl, SS _ _ c8, by lia, _, _, rfl, rfl, (by show (0 : Int) < 2 ∧ (2 : Int) < 1073741824; decide), _, _, rfl, rfl, (by show (0 : Int) < 2; decide), ll, _, _, _, rfl, rfl, SqL.of upd_same, ev, ?_⟩
        simp only [List.mem_cons, List.not_mem_nil, or_false] at hv
        rcases hv with rfl | rfl
        · exact hNx _ _ ⟨r1, cutI xs (some 1) none, rfl, SS, (S4 _ _ (S3 _ _ (S2 _ _ cut_at))), by have := cutI_length xs (some 1) none; lia⟩
        · exact hNx _ _ ⟨r2, xs ++ [0], rfl, SS, (S4 _ _ (by rw [upd_same, List.map_append]; rfl)), by rw [List.length_append]; show xs.length + 1 ≤ 300; lia⟩
    subst hσ
    have c9 := s9 _ _ c8
    have hP9 := hP8.mono s9
    clear s3 n3 hP hN hpl c3 s4 e4 x4 c4 hP4 s5 em c5 hP5 e5 eod hq5 s6 hP6 hq6 s7 hP7 hq7 s8 hP8 c8 e8 s9
    obtain ⟨rs, er, tr⟩ := hP9
    have hrl := tr.1
    -- is the net bad
    refine ⟨_, rfl, pd, rfl, ⟨_, SqL.of er⟩, for_list (K := K) (a := pd) (xs := rs.map V.ref) (fun i σ Hi => ∃ u v : Option V, σ = [some (.ref a1), some (.int wd), some (.ref pd), some (.ref rc), some (.int way), some (.int lane), some (.ref ml), some (.ref od), some (.bl ((qs8.take i).any (badP wd))), u, v, none, none] ∧ Hi = H9)
      ⟨none, none, rfl, rfl⟩ (fun i σ Hi _ ⟨_, _, _, e⟩ => by rw [e]; exact SqL.of er) ?_ ?_⟩
    · rintro i x σ Hi hi ⟨u, v, rfl, rfl⟩
      obtain ⟨r, hr', rfl⟩ := map_get hi
      obtain ⟨q, hq, eq⟩ := tr.get hr'
      have et : (qs8.take (i + 1)).any (badP wd) = ((qs8.take i).any (badP wd) || badP wd q) := by
        rw [List.take_add_one, hq, List.any_append]
        simp
      refine ⟨r, _, rfl, SqT.of eq, rfl, _, _, rfl, _, _, rfl, rfl, _, rfl, _, rfl, ?_⟩
      cases h0 : (qs8.take i).any (badP wd) with
      | true => exact iteT ⟨_, _, by rw [et, h0]; rfl, rfl⟩
      | false =>
        refine iteF ⟨_, rfl, _, _, rfl, rfl, _, rfl, ?_⟩
        by_cases b1 : q.1 < 0
        · have eb : badP wd q = true := by
            unfold badP
            rw [decide_eq_false (by lia : ¬ 0 ≤ q.1)]
            rfl
          exact iteD b1 ⟨_, _, by rw [et, h0, eb]; rfl, rfl⟩
        refine iteDn b1 ⟨_, rfl, _, rfl, _, _, rfl, rfl, _, rfl, ?_⟩
        by_cases b2 : q.2 ≤ q.1
        · have eb : badP wd q = true := by
            unfold badP
            rw [decide_eq_false (by lia : ¬ q.1 < q.2), Bool.and_false]
            rfl
          exact iteD b2 ⟨_, _, by rw [et, h0, eb]; rfl, rfl⟩
        refine iteDn b2 ⟨_, rfl, _, rfl, _, _, rfl, rfl, ?_⟩
        by_cases b3 : wd ≤ q.2
        · have eb : badP wd q = true := by
            unfold badP
            rw [decide_eq_false (by lia : ¬ q.2 < wd), Bool.and_false]
            rfl
          exact ⟨_, _, by dsimp only; rw [et, h0, eb, decide_eq_true b3]; rfl, rfl⟩
        · have eb : badP wd q = false := by
            unfold badP
            rw [decide_eq_true (by lia : 0 ≤ q.1), decide_eq_true (by lia : q.1 < q.2), decide_eq_true (by lia : q.2 < wd)]
            rfl
          exact ⟨_, _, by dsimp only; rw [et, h0, eb, decide_eq_false b3]; rfl, rfl⟩
    · rintro σ Hi ⟨u, v, rfl, rfl⟩
      rw [List.length_map, hrl, List.take_length]
      dsimp only
      -- no lane at all
      refine seq_by (fun σ' Hx => ∃ (wd' : Int) (b : Bool), σ' = [some (.ref a1), some (.int wd'), some (.ref pd), some (.ref rc), some (.int way), some (.int lane), some (.ref ml), some (.ref od), some (.bl b), u, v, none, none] ∧ Same Hi Hx ∧ wd' ≤ 40 ∧ ((1 ≤ wd' ∧ b = qs8.any (badP wd')) ∨ wd' < 1)) (fun N hNx => ?_) (fun σ' H10 ⟨wd', b, hσ, s10, hw40, hwb⟩ => ?_)
      · refine ⟨_, rfl, rfl, _, rfl, ?_⟩
        by_cases c : way = 5
        · subst c
          refine iteD rfl ⟨_, rfl, (by show 2 ≤ sizeLine; decide), fun l2 h2 => ?_⟩
          obtain ⟨v', hv, ev⟩ := pick (xs := [V.int 0, V.int (-1)]) (n := ms.getD 3 0) (m := 2) rfl (by decide)
          have S2 := Same.new (o := .lst [V.int 0, V.int (-1)]) h2
          refine ⟨_, rfl, a1, 3, ms, rfl, S2 _ _ c9, by lia, _, _, rfl, rfl, (by show (0 : Int) < 2; decide), l2, _, _, _, rfl, rfl, SqL.of upd_same, ev, ?_⟩
          simp only [List.mem_cons, List.not_mem_nil, or_false] at hv
          rcases hv with rfl | rfl
          · exact hNx _ _ ⟨0, true, rfl, S2, by decide, .inr (by decide)⟩
          · exact hNx _ _ ⟨-1, true, rfl, S2, by decide, .inr (by decide)⟩
        · exact iteDn (vintn c) (hNx _ _ ⟨wd, _, rfl, Same.refl _, by lia, .inl ⟨hw1, rfl⟩⟩)
      subst hσ
      have kb : ∀ k : Int, ((badN wd' qs8 && decide (k < 11)) || decide (wd' < 1)) = ((b && decide (k < 11)) || decide (wd' < 1)) := fun k => by
        unfold badN
        rcases hwb with ⟨h1, h2⟩ | h1
        · rw [decide_eq_false (by lia : ¬ wd' < 1), h2, Bool.false_or]
        · rw [decide_eq_true h1, Bool.or_true, Bool.or_true]
      have er10 := s10 _ _ er
      have tr10 := tr.mono s10
      have e10 := s10 _ _ e9
      refine ⟨_, rfl, by lia, by lia, for_range (lo := 0) (n := (13 : Int).toNat) (fun i σ Hi => ∃ u v u1 u2 : Option V, σ = [some (.ref a1), some (.int wd'), some (.ref pd), some (.ref rc), some (.int way), some (.int lane), some (.ref ml), some (.ref od), some (.bl b), u, v, u1, u2] ∧ Same H10 Hi)
        ⟨_, _, _, _, rfl, Same.refl _⟩ ?_ ?_⟩
      · rintro i σ Hi hi ⟨u, v, u1, u2, rfl, si⟩
        have hi13 : i < 13 := hi
        obtain ⟨kk, hkk, k0, k13⟩ : ∃ kk : Int, (0 : Int) + ((i : Nat) : Int) = kk ∧ 0 ≤ kk ∧ kk < 13 := ⟨_, rfl, by lia, by lia⟩
        rw [hkk]
        have eri := si _ _ er10
        have tri := tr10.mono si
        have eyi := si _ _ e10
        clear hkk hi13 hi
        refine seq_by (fun σ' Hx => σ' = [some (.ref a1), some (.int wd'), some (.ref pd), some (.ref rc), some (.int way), some (.int lane), some (.ref ml), some (.ref od), some (.bl b), u, v, some (.int kk), some (.str "done")] ∧ Hx = Hi) (fun N hNx => hNx _ _ ⟨rfl, rfl⟩) (fun σ0 Hw ⟨hσ, hHw⟩ => ?_)
        subst hσ hHw
        -- wide
        refine seq_by (fun σ' Hx => ∃ d : Str, σ' = [some (.ref a1), some (.int wd'), some (.ref pd), some (.ref rc), some (.int way), some (.int lane), some (.ref ml), some (.ref od), some (.bl b), u, v, some (.int kk), some (.str d)] ∧ Hx = Hw ∧ d = (if kk < 5 ∧ 12 < wd' then ("wide" : Str) else "done")) (fun N hNx => ?_) (fun σ1 Hx ⟨d1, hσ, hHx, hd1⟩ => ?_)
        · refine ⟨_, rfl, _, _, rfl, rfl, _, rfl, ?_⟩
          by_cases c1 : kk < 5
          · refine iteD c1 ⟨_, rfl, _, _, rfl, rfl, _, rfl, ?_⟩
            by_cases c2 : 12 < wd'
            · exact iteD c2 (hNx _ _ ⟨_, rfl, rfl, by rw [if_pos ⟨c1, c2⟩]⟩)
            · exact iteDn c2 (hNx _ _ ⟨_, rfl, rfl, by rw [if_neg (fun z => c2 z.2)]⟩)
          · exact iteDn c1 (iteF (hNx _ _ ⟨_, rfl, rfl, by rw [if_neg (fun z => c1 z.1)]⟩))
        subst hσ hHx
        -- row
        refine seq_by (fun σ' Hy => ∃ d : Str, σ' = [some (.ref a1), some (.int wd'), some (.ref pd), some (.ref rc), some (.int way), some (.int lane), some (.ref ml), some (.ref od), some (.bl b), u, v, some (.int kk), some (.str d)] ∧ Same Hx Hy ∧ d = (if (kk = 5 ∨ kk = 6) ∧ (ys.length : Int) ≠ wd' then ("row" : Str) else d1)) (fun N hNx => ?_) (fun σ1 Hy ⟨d2, hσ, sy, hd2⟩ => ?_)
        · refine ⟨_, rfl, (by show 2 ≤ sizeLine; decide), fun l hl => ⟨l, _, rfl, .inl (SqL.of upd_same), rfl, rfl, _, rfl, ?_⟩⟩
          have S := Same.new (o := .lst [V.int 5, V.int 6]) hl
          have ein : inV (V.int kk) [V.int 5, V.int 6] = decide (kk = 5 ∨ kk = 6) := by
            unfold inV
            simp only [List.any_cons, List.any_nil, Bool.or_false]
            by_cases x5 : kk = 5
            · subst x5
              decide
            by_cases x6 : kk = 6
            · subst x6
              decide
            rw [decide_eq_false (fun z => z.elim x5 x6)]
            have e5 : eqV (V.int 5) (V.int kk) = false := by
              unfold eqV
              simp
              lia
            have e6 : eqV (V.int 6) (V.int kk) = false := by
              unfold eqV
              simp
              lia
            rw [e5, e6]
            rfl
          show if (inV (V.int kk) [V.int 5, V.int 6]) = true then _ else _
          rw [ein]
          by_cases c1 : kk = 5 ∨ kk = 6
          · refine iteD c1 ⟨_, rfl, rc, _, rfl, .inl (SqL.of (S _ _ eyi)), _, rfl, rfl, _, rfl, ?_⟩
            by_cases c2 : (ys.length : Int) = wd'
            · exact iteNS (by rw [List.length_map, c2]) (hNx _ _ ⟨_, rfl, S, by rw [if_neg (fun z => z.2 c2)]⟩)
            · exact iteN (fun z => c2 (by have := V.int.inj z; rw [List.length_map] at this; exact this)) (hNx _ _ ⟨_, rfl, S, by rw [if_pos ⟨c1, c2⟩]⟩)
          · exact iteDn c1 (iteF (hNx _ _ ⟨_, rfl, S, by rw [if_neg (fun z => c1 z.1)]⟩))
        subst hσ
        -- post
        refine seq_by (fun σ' Hz => ∃ d : Str, σ' = [some (.ref a1), some (.int wd'), some (.ref pd), some (.ref rc), some (.int way), some (.int lane), some (.ref ml), some (.ref od), some (.bl b), u, v, some (.int kk), some (.str d)] ∧ Hz = Hy ∧ d = (if ((b && decide (kk < 11)) || decide (wd' < 1)) = true then ("post" : Str) else d2)) (fun N hNx => ?_) (fun σ1 Hz ⟨d3, hσ, hHz, hd3⟩ => ?_)
        · refine ⟨_, rfl, _, rfl, ?_⟩
          cases b with
          | true =>
            refine iteT ⟨_, rfl, _, _, rfl, rfl, _, rfl, ?_⟩
            by_cases c1 : kk < 11
            · exact iteD c1 (hNx _ _ ⟨_, rfl, rfl, by rw [decide_eq_true c1]; rfl⟩)
            · refine iteDn c1 ⟨_, rfl, _, _, rfl, rfl, _, rfl, ?_⟩
              by_cases c2 : wd' < 1
              · exact iteD c2 (hNx _ _ ⟨_, rfl, rfl, by rw [decide_eq_true c2, Bool.or_true]; rfl⟩)
              · exact iteDn c2 (hNx _ _ ⟨_, rfl, rfl, by rw [decide_eq_false c1, decide_eq_false c2]; rfl⟩)
          | false =>
            refine iteF (iteF ⟨_, rfl, _, _, rfl, rfl, _, rfl, ?_⟩)
            by_cases c2 : wd' < 1
            · exact iteD c2 (hNx _ _ ⟨_, rfl, rfl, by rw [decide_eq_true c2, Bool.or_true]; rfl⟩)
            · exact iteDn c2 (hNx _ _ ⟨_, rfl, rfl, by rw [decide_eq_false c2]; rfl⟩)
        subst hσ hHz
        have ed : d3 = (dueK kk wd' qs8 ys.length).word := by
          rw [hd3, hd2, hd1, ← kb kk]
          unfold dueK
          split
          · rfl
          · split
            · rfl
            · split <;> rfl
        have ery := sy _ _ eri
        have eyy := sy _ _ eyi
        have try_ := tri.mono sy
        clear hd1 hd2 hd3
        subst ed
        refine ⟨_, rfl, _, rfl, _, rfl, pd, _, rfl, .inl (SqL.of ery), fun p1 hp1 => ?_⟩
        have S1 := Same.new (o := .lst (rs.map V.ref)) hp1
        refine ⟨_, rfl, rc, _, rfl, .inl (SqL.of (S1 _ _ eyy)), fun r1 hr1 => ?_⟩
        have S2 := S1.trans (Same.new (o := .lst (ys.map V.int)) hr1)
        refine ⟨kk, wd', p1, r1, qs8, ys, rfl, k0, k13, ⟨rs, Same.new hr1 _ _ upd_same, try_.mono S2⟩, by lia, by lia, upd_same, fun H' s' => ?_⟩
        refine ⟨_, rfl, rfl, _, rfl, iteNS rfl ?_⟩
        have S3 := S2.trans s'
        have ery' := S3 _ _ ery
        have eyy' := S3 _ _ eyy
        have try2 := try_.mono S3
        refine ⟨_, rfl, _, rfl, _, rfl, pd, _, rfl, .inl (SqL.of ery'), fun p2 hp2 => ?_⟩
        have S4 := Same.new (o := .lst (rs.map V.ref)) hp2
        refine ⟨_, rfl, rc, _, rfl, .inl (SqL.of (S4 _ _ eyy')), fun r2 hr2 => ?_⟩
        have S5 := S4.trans (Same.new (o := .lst (ys.map V.int)) hr2)
        refine ⟨kk, wd', p2, r2, qs8, ys, rfl, k0, k13, ⟨rs, Same.new hr2 _ _ upd_same, try2.mono S5⟩, by lia, by lia, upd_same, fun H2 s2 => ?_⟩
        refine ⟨_, rfl, rfl, rfl, _, rfl, iteNS (congrArg V.bl (due_done _)) ?_⟩
        exact ⟨_, _, _, _, rfl, si.trans (sy.trans (S3.trans (S5.trans s2)))⟩
      · rintro σ Hi ⟨u, v, u1, u2, rfl, si⟩
        exact k Hi
end
end PN
namespace PN
open PySem L2
theorem us_0 {P : List Value → Prop} (h : P []) (us : List Value) (e : us.length = 0) : P us := by
  rcases us with _ | ⟨a, r⟩
  · exact h
  · exact absurd e (Nat.succ_ne_zero _)
theorem us_1 {P : List Value → Prop} (h : ∀ a, P [a]) (us : List Value) (e : us.length = 1) : P us := by
  rcases us with _ | ⟨a, r⟩
  · exact absurd e (by decide)
  · exact us_0 (P := fun r => P (a :: r)) (h a) r (Nat.succ.inj e)
theorem us_2 {P : List Value → Prop} (h : ∀ a b, P [a, b]) (us : List Value) (e : us.length = 2) : P us := by
  rcases us with _ | ⟨a, r⟩
  · exact absurd e (by decide)
  · exact us_1 (P := fun r => P (a :: r)) (h a) r (Nat.succ.inj e)
theorem us_3 {P : List Value → Prop} (h : ∀ a b c, P [a, b, c]) (us : List Value) (e : us.length = 3) : P us := by
  rcases us with _ | ⟨a, r⟩
  · exact absurd e (by decide)
  · exact us_2 (P := fun r => P (a :: r)) (h a) r (Nat.succ.inj e)
theorem us_4 {P : List Value → Prop} (h : ∀ a b c d, P [a, b, c, d]) (us : List Value) (e : us.length = 4) : P us := by
  rcases us with _ | ⟨a, r⟩
  · exact absurd e (by decide)
  · exact us_3 (P := fun r => P (a :: r)) (h a) r (Nat.succ.inj e)
theorem txt_mk {K : PySem.W.Frag} {h : Heap} {mg : Str → Option Value} (X : K.In h) (G : h.Ns mainGlobals mg)
    {f0 : Addr} {od0 an0 : Option Addr} {sl0 : Array (Option Value)} {oc0 kV0 dc0 pm0 cd0 ct0 : Value}
    {f1 : Addr} {od1 an1 : Option Addr} {sl1 : Array (Option Value)} {oc1 kV1 dc1 pm1 cd1 ct1 : Value}
    {f2 : Addr} {od2 an2 : Option Addr} {sl2 : Array (Option Value)} {oc2 kV2 dc2 pm2 cd2 ct2 : Value}
    {f3 : Addr} {od3 an3 : Option Addr} {sl3 : Array (Option Value)} {oc3 kV3 dc3 pm3 cd3 ct3 : Value}
    {f4 : Addr} {od4 an4 : Option Addr} {sl4 : Array (Option Value)} {oc4 kV4 dc4 pm4 cd4 ct4 : Value}
    {f5 : Addr} {od5 an5 : Option Addr} {sl5 : Array (Option Value)} {oc5 kV5 dc5 pm5 cd5 ct5 : Value}
    {f6 : Addr} {od6 an6 : Option Addr} {sl6 : Array (Option Value)} {oc6 kV6 dc6 pm6 cd6 ct6 : Value}
    {f7 : Addr} {od7 an7 : Option Addr} {sl7 : Array (Option Value)} {oc7 kV7 dc7 pm7 cd7 ct7 : Value}
    {f8 : Addr} {od8 an8 : Option Addr} {sl8 : Array (Option Value)} {oc8 kV8 dc8 pm8 cd8 ct8 : Value}
    {f9 : Addr} {od9 an9 : Option Addr} {sl9 : Array (Option Value)} {oc9 kV9 dc9 pm9 cd9 ct9 : Value}
    {f10 : Addr} {od10 an10 : Option Addr} {sl10 : Array (Option Value)} {oc10 kV10 dc10 pm10 cd10 ct10 : Value}
    {f11 : Addr} {od11 an11 : Option Addr} {sl11 : Array (Option Value)} {oc11 kV11 dc11 pm11 cd11 ct11 : Value}
    {f12 : Addr} {od12 an12 : Option Addr} {sl12 : Array (Option Value)} {oc12 kV12 dc12 pm12 cd12 ct12 : Value}
    {f13 : Addr} {od13 an13 : Option Addr} {sl13 : Array (Option Value)} {oc13 kV13 dc13 pm13 cd13 ct13 : Value}
    {f14 : Addr} {od14 an14 : Option Addr} {sl14 : Array (Option Value)} {oc14 kV14 dc14 pm14 cd14 ct14 : Value}
    {f15 : Addr} {od15 an15 : Option Addr} {sl15 : Array (Option Value)} {oc15 kV15 dc15 pm15 cd15 ct15 : Value}
    {f16 : Addr} {od16 an16 : Option Addr} {sl16 : Array (Option Value)} {oc16 kV16 dc16 pm16 cd16 ct16 : Value}
    {f17 : Addr} {od17 an17 : Option Addr} {sl17 : Array (Option Value)} {oc17 kV17 dc17 pm17 cd17 ct17 : Value}
    {f18 : Addr} {od18 an18 : Option Addr} {sl18 : Array (Option Value)} {oc18 kV18 dc18 pm18 cd18 ct18 : Value}
    {f19 : Addr} {od19 an19 : Option Addr} {sl19 : Array (Option Value)} {oc19 kV19 dc19 pm19 cd19 ct19 : Value}
    {f20 : Addr} {od20 an20 : Option Addr} {sl20 : Array (Option Value)} {oc20 kV20 dc20 pm20 cd20 ct20 : Value}
    {f21 : Addr} {od21 an21 : Option Addr} {sl21 : Array (Option Value)} {oc21 kV21 dc21 pm21 cd21 ct21 : Value}
    {f22 : Addr} {od22 an22 : Option Addr} {sl22 : Array (Option Value)} {oc22 kV22 dc22 pm22 cd22 ct22 : Value}
    {f23 : Addr} {od23 an23 : Option Addr} {sl23 : Array (Option Value)} {oc23 kV23 dc23 pm23 cd23 ct23 : Value}
    {f24 : Addr} {od24 an24 : Option Addr} {sl24 : Array (Option Value)} {oc24 kV24 dc24 pm24 cd24 ct24 : Value}
    {f25 : Addr} {od25 an25 : Option Addr} {sl25 : Array (Option Value)} {oc25 kV25 dc25 pm25 cd25 ct25 : Value}
    {f26 : Addr} {od26 an26 : Option Addr} {sl26 : Array (Option Value)} {oc26 kV26 dc26 pm26 cd26 ct26 : Value}
    {f27 : Addr} {od27 an27 : Option Addr} {sl27 : Array (Option Value)} {oc27 kV27 dc27 pm27 cd27 ct27 : Value}
    {f28 : Addr} {od28 an28 : Option Addr} {sl28 : Array (Option Value)} {oc28 kV28 dc28 pm28 cd28 ct28 : Value}
    {f29 : Addr} {od29 an29 : Option Addr} {sl29 : Array (Option Value)} {oc29 kV29 dc29 pm29 cd29 ct29 : Value}
    {f30 : Addr} {od30 an30 : Option Addr} {sl30 : Array (Option Value)} {oc30 kV30 dc30 pm30 cd30 ct30 : Value}
    {f31 : Addr} {od31 an31 : Option Addr} {sl31 : Array (Option Value)} {oc31 kV31 dc31 pm31 cd31 ct31 : Value}
    {f32 : Addr} {od32 an32 : Option Addr} {sl32 : Array (Option Value)} {oc32 kV32 dc32 pm32 cd32 ct32 : Value}
    {f33 : Addr} {od33 an33 : Option Addr} {sl33 : Array (Option Value)} {oc33 kV33 dc33 pm33 cd33 ct33 : Value}
    {d_NetError d_BadPost d_BadRow d_TooWide d_NoNet : Addr}
    {tk_MOST_LANES_TRIED : Tok}
    {tk_FIGURES : Tok}
    (a0 : PySem.W.nsIn K mainGlobals "check_net" = some (some (.ref f0)))
    (l0 : K.lookup f0 = some ⟨oc0, od0, .func (PySem.W.fnOf "check_net" "check_net" (defArgs s_check_net) (defBody s_check_net) (defScope s_check_net) .none kV0 dc0 pm0 an0 cd0 ct0), sl0⟩)
    (c0 : PySem.W.codeIn K cd0 "check_net" = true)
    (k0 : PySem.W.keepIn K (.ref f0) = true)
    (a1 : PySem.W.nsIn K mainGlobals "check_row" = some (some (.ref f1)))
    (l1 : K.lookup f1 = some ⟨oc1, od1, .func (PySem.W.fnOf "check_row" "check_row" (defArgs s_check_row) (defBody s_check_row) (defScope s_check_row) .none kV1 dc1 pm1 an1 cd1 ct1), sl1⟩)
    (c1 : PySem.W.codeIn K cd1 "check_row" = true)
    (k1 : PySem.W.keepIn K (.ref f1) = true)
    (a2 : PySem.W.nsIn K mainGlobals "pass_post" = some (some (.ref f2)))
    (l2 : K.lookup f2 = some ⟨oc2, od2, .func (PySem.W.fnOf "pass_post" "pass_post" (defArgs s_pass_post) (defBody s_pass_post) (defScope s_pass_post) .none kV2 dc2 pm2 an2 cd2 ct2), sl2⟩)
    (c2 : PySem.W.codeIn K cd2 "pass_post" = true)
    (k2 : PySem.W.keepIn K (.ref f2) = true)
    (a3 : PySem.W.nsIn K mainGlobals "passed" = some (some (.ref f3)))
    (l3 : K.lookup f3 = some ⟨oc3, od3, .func (PySem.W.fnOf "passed" "passed" (defArgs s_passed) (defBody s_passed) (defScope s_passed) .none kV3 dc3 pm3 an3 cd3 ct3), sl3⟩)
    (c3 : PySem.W.codeIn K cd3 "passed" = true)
    (k3 : PySem.W.keepIn K (.ref f3) = true)
    (a4 : PySem.W.nsIn K mainGlobals "run" = some (some (.ref f4)))
    (l4 : K.lookup f4 = some ⟨oc4, od4, .func (PySem.W.fnOf "run" "run" (defArgs s_run) (defBody s_run) (defScope s_run) .none kV4 dc4 pm4 an4 cd4 ct4), sl4⟩)
    (c4 : PySem.W.codeIn K cd4 "run" = true)
    (k4 : PySem.W.keepIn K (.ref f4) = true)
    (a5 : PySem.W.nsIn K mainGlobals "walked" = some (some (.ref f5)))
    (l5 : K.lookup f5 = some ⟨oc5, od5, .func (PySem.W.fnOf "walked" "walked" (defArgs s_walked) (defBody s_walked) (defScope s_walked) .none kV5 dc5 pm5 an5 cd5 ct5), sl5⟩)
    (c5 : PySem.W.codeIn K cd5 "walked" = true)
    (k5 : PySem.W.keepIn K (.ref f5) = true)
    (a6 : PySem.W.nsIn K mainGlobals "mirrored" = some (some (.ref f6)))
    (l6 : K.lookup f6 = some ⟨oc6, od6, .func (PySem.W.fnOf "mirrored" "mirrored" (defArgs s_mirrored) (defBody s_mirrored) (defScope s_mirrored) .none kV6 dc6 pm6 an6 cd6 ct6), sl6⟩)
    (c6 : PySem.W.codeIn K cd6 "mirrored" = true)
    (k6 : PySem.W.keepIn K (.ref f6) = true)
    (a7 : PySem.W.nsIn K mainGlobals "is_rising" = some (some (.ref f7)))
    (l7 : K.lookup f7 = some ⟨oc7, od7, .func (PySem.W.fnOf "is_rising" "is_rising" (defArgs s_is_rising) (defBody s_is_rising) (defScope s_is_rising) .none kV7 dc7 pm7 an7 cd7 ct7), sl7⟩)
    (c7 : PySem.W.codeIn K cd7 "is_rising" = true)
    (k7 : PySem.W.keepIn K (.ref f7) = true)
    (a8 : PySem.W.nsIn K mainGlobals "check_trial" = some (some (.ref f8)))
    (l8 : K.lookup f8 = some ⟨oc8, od8, .func (PySem.W.fnOf "check_trial" "check_trial" (defArgs s_check_trial) (defBody s_check_trial) (defScope s_check_trial) .none kV8 dc8 pm8 an8 cd8 ct8), sl8⟩)
    (c8 : PySem.W.codeIn K cd8 "check_trial" = true)
    (k8 : PySem.W.keepIn K (.ref f8) = true)
    (a9 : PySem.W.nsIn K mainGlobals "bit_rows" = some (some (.ref f9)))
    (l9 : K.lookup f9 = some ⟨oc9, od9, .func (PySem.W.fnOf "bit_rows" "bit_rows" (defArgs s_bit_rows) (defBody s_bit_rows) (defScope s_bit_rows) .none kV9 dc9 pm9 an9 cd9 ct9), sl9⟩)
    (c9 : PySem.W.codeIn K cd9 "bit_rows" = true)
    (k9 : PySem.W.keepIn K (.ref f9) = true)
    (a10 : PySem.W.nsIn K mainGlobals "first_unsorted" = some (some (.ref f10)))
    (l10 : K.lookup f10 = some ⟨oc10, od10, .func (PySem.W.fnOf "first_unsorted" "first_unsorted" (defArgs s_first_unsorted) (defBody s_first_unsorted) (defScope s_first_unsorted) .none kV10 dc10 pm10 an10 cd10 ct10), sl10⟩)
    (c10 : PySem.W.codeIn K cd10 "first_unsorted" = true)
    (k10 : PySem.W.keepIn K (.ref f10) = true)
    (a11 : PySem.W.nsIn K mainGlobals "sorts" = some (some (.ref f11)))
    (l11 : K.lookup f11 = some ⟨oc11, od11, .func (PySem.W.fnOf "sorts" "sorts" (defArgs s_sorts) (defBody s_sorts) (defScope s_sorts) .none kV11 dc11 pm11 an11 cd11 ct11), sl11⟩)
    (c11 : PySem.W.codeIn K cd11 "sorts" = true)
    (k11 : PySem.W.keepIn K (.ref f11) = true)
    (a12 : PySem.W.nsIn K mainGlobals "merging" = some (some (.ref f12)))
    (l12 : K.lookup f12 = some ⟨oc12, od12, .func (PySem.W.fnOf "merging" "merging" (defArgs s_merging) (defBody s_merging) (defScope s_merging) .none kV12 dc12 pm12 an12 cd12 ct12), sl12⟩)
    (c12 : PySem.W.codeIn K cd12 "merging" = true)
    (k12 : PySem.W.keepIn K (.ref f12) = true)
    (a13 : PySem.W.nsIn K mainGlobals "by_halves" = some (some (.ref f13)))
    (l13 : K.lookup f13 = some ⟨oc13, od13, .func (PySem.W.fnOf "by_halves" "by_halves" (defArgs s_by_halves) (defBody s_by_halves) (defScope s_by_halves) .none kV13 dc13 pm13 an13 cd13 ct13), sl13⟩)
    (c13 : PySem.W.codeIn K cd13 "by_halves" = true)
    (k13 : PySem.W.keepIn K (.ref f13) = true)
    (a14 : PySem.W.nsIn K mainGlobals "built" = some (some (.ref f14)))
    (l14 : K.lookup f14 = some ⟨oc14, od14, .func (PySem.W.fnOf "built" "built" (defArgs s_built) (defBody s_built) (defScope s_built) .none kV14 dc14 pm14 an14 cd14 ct14), sl14⟩)
    (c14 : PySem.W.codeIn K cd14 "built" = true)
    (k14 : PySem.W.keepIn K (.ref f14) = true)
    (a15 : PySem.W.nsIn K mainGlobals "plain" = some (some (.ref f15)))
    (l15 : K.lookup f15 = some ⟨oc15, od15, .func (PySem.W.fnOf "plain" "plain" (defArgs s_plain) (defBody s_plain) (defScope s_plain) .none kV15 dc15 pm15 an15 cd15 ct15), sl15⟩)
    (c15 : PySem.W.codeIn K cd15 "plain" = true)
    (k15 : PySem.W.keepIn K (.ref f15) = true)
    (a16 : PySem.W.nsIn K mainGlobals "rows_acting" = some (some (.ref f16)))
    (l16 : K.lookup f16 = some ⟨oc16, od16, .func (PySem.W.fnOf "rows_acting" "rows_acting" (defArgs s_rows_acting) (defBody s_rows_acting) (defScope s_rows_acting) .none kV16 dc16 pm16 an16 cd16 ct16), sl16⟩)
    (c16 : PySem.W.codeIn K cd16 "rows_acting" = true)
    (k16 : PySem.W.keepIn K (.ref f16) = true)
    (a17 : PySem.W.nsIn K mainGlobals "thinned" = some (some (.ref f17)))
    (l17 : K.lookup f17 = some ⟨oc17, od17, .func (PySem.W.fnOf "thinned" "thinned" (defArgs s_thinned) (defBody s_thinned) (defScope s_thinned) .none kV17 dc17 pm17 an17 cd17 ct17), sl17⟩)
    (c17 : PySem.W.codeIn K cd17 "thinned" = true)
    (k17 : PySem.W.keepIn K (.ref f17) = true)
    (a18 : PySem.W.nsIn K mainGlobals "is_lean" = some (some (.ref f18)))
    (l18 : K.lookup f18 = some ⟨oc18, od18, .func (PySem.W.fnOf "is_lean" "is_lean" (defArgs s_is_lean) (defBody s_is_lean) (defScope s_is_lean) .none kV18 dc18 pm18 an18 cd18 ct18), sl18⟩)
    (c18 : PySem.W.codeIn K cd18 "is_lean" = true)
    (k18 : PySem.W.keepIn K (.ref f18) = true)
    (a19 : PySem.W.nsIn K mainGlobals "layer_numbers" = some (some (.ref f19)))
    (l19 : K.lookup f19 = some ⟨oc19, od19, .func (PySem.W.fnOf "layer_numbers" "layer_numbers" (defArgs s_layer_numbers) (defBody s_layer_numbers) (defScope s_layer_numbers) .none kV19 dc19 pm19 an19 cd19 ct19), sl19⟩)
    (c19 : PySem.W.codeIn K cd19 "layer_numbers" = true)
    (k19 : PySem.W.keepIn K (.ref f19) = true)
    (a20 : PySem.W.nsIn K mainGlobals "layers" = some (some (.ref f20)))
    (l20 : K.lookup f20 = some ⟨oc20, od20, .func (PySem.W.fnOf "layers" "layers" (defArgs s_layers) (defBody s_layers) (defScope s_layers) .none kV20 dc20 pm20 an20 cd20 ct20), sl20⟩)
    (c20 : PySem.W.codeIn K cd20 "layers" = true)
    (k20 : PySem.W.keepIn K (.ref f20) = true)
    (a21 : PySem.W.nsIn K mainGlobals "share_lane" = some (some (.ref f21)))
    (l21 : K.lookup f21 = some ⟨oc21, od21, .func (PySem.W.fnOf "share_lane" "share_lane" (defArgs s_share_lane) (defBody s_share_lane) (defScope s_share_lane) .none kV21 dc21 pm21 an21 cd21 ct21), sl21⟩)
    (c21 : PySem.W.codeIn K cd21 "share_lane" = true)
    (k21 : PySem.W.keepIn K (.ref f21) = true)
    (a22 : PySem.W.nsIn K mainGlobals "chain" = some (some (.ref f22)))
    (l22 : K.lookup f22 = some ⟨oc22, od22, .func (PySem.W.fnOf "chain" "chain" (defArgs s_chain) (defBody s_chain) (defScope s_chain) .none kV22 dc22 pm22 an22 cd22 ct22), sl22⟩)
    (c22 : PySem.W.codeIn K cd22 "chain" = true)
    (k22 : PySem.W.keepIn K (.ref f22) = true)
    (a23 : PySem.W.nsIn K mainGlobals "figures_of" = some (some (.ref f23)))
    (l23 : K.lookup f23 = some ⟨oc23, od23, .func (PySem.W.fnOf "figures_of" "figures_of" (defArgs s_figures_of) (defBody s_figures_of) (defScope s_figures_of) .none kV23 dc23 pm23 an23 cd23 ct23), sl23⟩)
    (c23 : PySem.W.codeIn K cd23 "figures_of" = true)
    (k23 : PySem.W.keepIn K (.ref f23) = true)
    (a24 : PySem.W.nsIn K mainGlobals "line_of" = some (some (.ref f24)))
    (l24 : K.lookup f24 = some ⟨oc24, od24, .func (PySem.W.fnOf "line_of" "line_of" (defArgs s_line_of) (defBody s_line_of) (defScope s_line_of) .none kV24 dc24 pm24 an24 cd24 ct24), sl24⟩)
    (c24 : PySem.W.codeIn K cd24 "line_of" = true)
    (k24 : PySem.W.keepIn K (.ref f24) = true)
    (a25 : PySem.W.nsIn K mainGlobals "shown" = some (some (.ref f25)))
    (l25 : K.lookup f25 = some ⟨oc25, od25, .func (PySem.W.fnOf "shown" "shown" (defArgs s_shown) (defBody s_shown) (defScope s_shown) .none kV25 dc25 pm25 an25 cd25 ct25), sl25⟩)
    (c25 : PySem.W.codeIn K cd25 "shown" = true)
    (k25 : PySem.W.keepIn K (.ref f25) = true)
    (a26 : PySem.W.nsIn K mainGlobals "_law_at" = some (some (.ref f26)))
    (l26 : K.lookup f26 = some ⟨oc26, od26, .func (PySem.W.fnOf "_law_at" "_law_at" (defArgs s__law_at) (defBody s__law_at) (defScope s__law_at) .none kV26 dc26 pm26 an26 cd26 ct26), sl26⟩)
    (c26 : PySem.W.codeIn K cd26 "_law_at" = true)
    (k26 : PySem.W.keepIn K (.ref f26) = true)
    (a27 : PySem.W.nsIn K mainGlobals "_law_posts_by" = some (some (.ref f27)))
    (l27 : K.lookup f27 = some ⟨oc27, od27, .func (PySem.W.fnOf "_law_posts_by" "_law_posts_by" (defArgs s__law_posts_by) (defBody s__law_posts_by) (defScope s__law_posts_by) .none kV27 dc27 pm27 an27 cd27 ct27), sl27⟩)
    (c27 : PySem.W.codeIn K cd27 "_law_posts_by" = true)
    (k27 : PySem.W.keepIn K (.ref f27) = true)
    (a28 : PySem.W.nsIn K mainGlobals "_law_wide_way" = some (some (.ref f28)))
    (l28 : K.lookup f28 = some ⟨oc28, od28, .func (PySem.W.fnOf "_law_wide_way" "_law_wide_way" (defArgs s__law_wide_way) (defBody s__law_wide_way) (defScope s__law_wide_way) .none kV28 dc28 pm28 an28 cd28 ct28), sl28⟩)
    (c28 : PySem.W.codeIn K cd28 "_law_wide_way" = true)
    (k28 : PySem.W.keepIn K (.ref f28) = true)
    (a29 : PySem.W.nsIn K mainGlobals "_law_other_way" = some (some (.ref f29)))
    (l29 : K.lookup f29 = some ⟨oc29, od29, .func (PySem.W.fnOf "_law_other_way" "_law_other_way" (defArgs s__law_other_way) (defBody s__law_other_way) (defScope s__law_other_way) .none kV29 dc29 pm29 an29 cd29 ct29), sl29⟩)
    (c29 : PySem.W.codeIn K cd29 "_law_other_way" = true)
    (k29 : PySem.W.keepIn K (.ref f29) = true)
    (a30 : PySem.W.nsIn K mainGlobals "_law_said" = some (some (.ref f30)))
    (l30 : K.lookup f30 = some ⟨oc30, od30, .func (PySem.W.fnOf "_law_said" "_law_said" (defArgs s__law_said) (defBody s__law_said) (defScope s__law_said) .none kV30 dc30 pm30 an30 cd30 ct30), sl30⟩)
    (c30 : PySem.W.codeIn K cd30 "_law_said" = true)
    (k30 : PySem.W.keepIn K (.ref f30) = true)
    (a31 : PySem.W.nsIn K mainGlobals "_law_mixed" = some (some (.ref f31)))
    (l31 : K.lookup f31 = some ⟨oc31, od31, .func (PySem.W.fnOf "_law_mixed" "_law_mixed" (defArgs s__law_mixed) (defBody s__law_mixed) (defScope s__law_mixed) .none kV31 dc31 pm31 an31 cd31 ct31), sl31⟩)
    (c31 : PySem.W.codeIn K cd31 "_law_mixed" = true)
    (k31 : PySem.W.keepIn K (.ref f31) = true)
    (a32 : PySem.W.nsIn K mainGlobals "_law_refuses" = some (some (.ref f32)))
    (l32 : K.lookup f32 = some ⟨oc32, od32, .func (PySem.W.fnOf "_law_refuses" "_law_refuses" (defArgs s__law_refuses) (defBody s__law_refuses) (defScope s__law_refuses) .none kV32 dc32 pm32 an32 cd32 ct32), sl32⟩)
    (c32 : PySem.W.codeIn K cd32 "_law_refuses" = true)
    (k32 : PySem.W.keepIn K (.ref f32) = true)
    (a33 : PySem.W.nsIn K mainGlobals "law" = some (some (.ref f33)))
    (l33 : K.lookup f33 = some ⟨oc33, od33, .func (PySem.W.fnOf "law" "law" (defArgs s_law) (defBody s_law) (defScope s_law) .none kV33 dc33 pm33 an33 cd33 ct33), sl33⟩)
    (c33 : PySem.W.codeIn K cd33 "law" = true)
    (k33 : PySem.W.keepIn K (.ref f33) = true)
    (z_ValueError : PySem.W.nsIn K mainGlobals "ValueError" = some none)
    (z_enumerate : PySem.W.nsIn K mainGlobals "enumerate" = some none)
    (z_isinstance : PySem.W.nsIn K mainGlobals "isinstance" = some none)
    (z_len : PySem.W.nsIn K mainGlobals "len" = some none)
    (z_list : PySem.W.nsIn K mainGlobals "list" = some none)
    (z_max : PySem.W.nsIn K mainGlobals "max" = some none)
    (z_min : PySem.W.nsIn K mainGlobals "min" = some none)
    (z_range : PySem.W.nsIn K mainGlobals "range" = some none)
    (z_reversed : PySem.W.nsIn K mainGlobals "reversed" = some none)
    (z_sorted : PySem.W.nsIn K mainGlobals "sorted" = some none)
    (z_zip : PySem.W.nsIn K mainGlobals "zip" = some none)
    (ec_get : PySem.W.specialIn K (.builtin "object.__class__") "__get__" = some (some (.builtin "getset_descriptor.__get__")))
    (ec_tk : PySem.W.takesIn K (.builtin "object.__class__") = some true)
    (k_NetError : PySem.W.nsIn K mainGlobals "NetError" = some (some (.ref d_NetError)))
    (x_NetError : PySem.W.excIn K d_NetError bmV "ValueError.__new__" = true)
    (e0_NetError : PySem.W.findIn K (.ref d_NetError) "__getattribute__" = some (some (.builtin "BaseException.__getattribute__")))
    (e1_NetError : PySem.W.findIn K (.ref d_NetError) "__getattr__" = some none)
    (e2_NetError : PySem.W.findIn K (.ref d_NetError) "__class__" = some (some (.builtin "object.__class__")))
    (e3_NetError : PySem.W.mroIn K d_NetError (.type "object") = some true)
    (e4_NetError : PySem.W.mroIn K d_NetError (.type "BaseException") = some true)
    (m_NetError_NetError : PySem.W.mroIn K d_NetError (.ref d_NetError) = some true)
    (i_NetError_NetError : PySem.W.kitOne K (.ref d_NetError) (.ref d_NetError) = some true)
    (m_NetError_BadPost : PySem.W.mroIn K d_NetError (.ref d_BadPost) = some false)
    (i_NetError_BadPost : PySem.W.kitOne K (.ref d_NetError) (.ref d_BadPost) = some false)
    (m_NetError_BadRow : PySem.W.mroIn K d_NetError (.ref d_BadRow) = some false)
    (i_NetError_BadRow : PySem.W.kitOne K (.ref d_NetError) (.ref d_BadRow) = some false)
    (m_NetError_TooWide : PySem.W.mroIn K d_NetError (.ref d_TooWide) = some false)
    (i_NetError_TooWide : PySem.W.kitOne K (.ref d_NetError) (.ref d_TooWide) = some false)
    (m_NetError_NoNet : PySem.W.mroIn K d_NetError (.ref d_NoNet) = some false)
    (i_NetError_NoNet : PySem.W.kitOne K (.ref d_NetError) (.ref d_NoNet) = some false)
    (v_NetError : PySem.W.kitOne K (.ref d_NetError) (.type "ValueError") = some true)
    (k_BadPost : PySem.W.nsIn K mainGlobals "BadPost" = some (some (.ref d_BadPost)))
    (x_BadPost : PySem.W.excIn K d_BadPost bmV "ValueError.__new__" = true)
    (e0_BadPost : PySem.W.findIn K (.ref d_BadPost) "__getattribute__" = some (some (.builtin "BaseException.__getattribute__")))
    (e1_BadPost : PySem.W.findIn K (.ref d_BadPost) "__getattr__" = some none)
    (e2_BadPost : PySem.W.findIn K (.ref d_BadPost) "__class__" = some (some (.builtin "object.__class__")))
    (e3_BadPost : PySem.W.mroIn K d_BadPost (.type "object") = some true)
    (e4_BadPost : PySem.W.mroIn K d_BadPost (.type "BaseException") = some true)
    (m_BadPost_NetError : PySem.W.mroIn K d_BadPost (.ref d_NetError) = some true)
    (i_BadPost_NetError : PySem.W.kitOne K (.ref d_BadPost) (.ref d_NetError) = some true)
    (m_BadPost_BadPost : PySem.W.mroIn K d_BadPost (.ref d_BadPost) = some true)
    (i_BadPost_BadPost : PySem.W.kitOne K (.ref d_BadPost) (.ref d_BadPost) = some true)
    (m_BadPost_BadRow : PySem.W.mroIn K d_BadPost (.ref d_BadRow) = some false)
    (i_BadPost_BadRow : PySem.W.kitOne K (.ref d_BadPost) (.ref d_BadRow) = some false)
    (m_BadPost_TooWide : PySem.W.mroIn K d_BadPost (.ref d_TooWide) = some false)
    (i_BadPost_TooWide : PySem.W.kitOne K (.ref d_BadPost) (.ref d_TooWide) = some false)
    (m_BadPost_NoNet : PySem.W.mroIn K d_BadPost (.ref d_NoNet) = some false)
    (i_BadPost_NoNet : PySem.W.kitOne K (.ref d_BadPost) (.ref d_NoNet) = some false)
    (v_BadPost : PySem.W.kitOne K (.ref d_BadPost) (.type "ValueError") = some true)
    (k_BadRow : PySem.W.nsIn K mainGlobals "BadRow" = some (some (.ref d_BadRow)))
    (x_BadRow : PySem.W.excIn K d_BadRow bmV "ValueError.__new__" = true)
    (e0_BadRow : PySem.W.findIn K (.ref d_BadRow) "__getattribute__" = some (some (.builtin "BaseException.__getattribute__")))
    (e1_BadRow : PySem.W.findIn K (.ref d_BadRow) "__getattr__" = some none)
    (e2_BadRow : PySem.W.findIn K (.ref d_BadRow) "__class__" = some (some (.builtin "object.__class__")))
    (e3_BadRow : PySem.W.mroIn K d_BadRow (.type "object") = some true)
    (e4_BadRow : PySem.W.mroIn K d_BadRow (.type "BaseException") = some true)
    (m_BadRow_NetError : PySem.W.mroIn K d_BadRow (.ref d_NetError) = some true)
    (i_BadRow_NetError : PySem.W.kitOne K (.ref d_BadRow) (.ref d_NetError) = some true)
    (m_BadRow_BadPost : PySem.W.mroIn K d_BadRow (.ref d_BadPost) = some false)
    (i_BadRow_BadPost : PySem.W.kitOne K (.ref d_BadRow) (.ref d_BadPost) = some false)
    (m_BadRow_BadRow : PySem.W.mroIn K d_BadRow (.ref d_BadRow) = some true)
    (i_BadRow_BadRow : PySem.W.kitOne K (.ref d_BadRow) (.ref d_BadRow) = some true)
    (m_BadRow_TooWide : PySem.W.mroIn K d_BadRow (.ref d_TooWide) = some false)
    (i_BadRow_TooWide : PySem.W.kitOne K (.ref d_BadRow) (.ref d_TooWide) = some false)
    (m_BadRow_NoNet : PySem.W.mroIn K d_BadRow (.ref d_NoNet) = some false)
    (i_BadRow_NoNet : PySem.W.kitOne K (.ref d_BadRow) (.ref d_NoNet) = some false)
    (v_BadRow : PySem.W.kitOne K (.ref d_BadRow) (.type "ValueError") = some true)
    (k_TooWide : PySem.W.nsIn K mainGlobals "TooWide" = some (some (.ref d_TooWide)))
    (x_TooWide : PySem.W.excIn K d_TooWide bmV "ValueError.__new__" = true)
    (e0_TooWide : PySem.W.findIn K (.ref d_TooWide) "__getattribute__" = some (some (.builtin "BaseException.__getattribute__")))
    (e1_TooWide : PySem.W.findIn K (.ref d_TooWide) "__getattr__" = some none)
    (e2_TooWide : PySem.W.findIn K (.ref d_TooWide) "__class__" = some (some (.builtin "object.__class__")))
    (e3_TooWide : PySem.W.mroIn K d_TooWide (.type "object") = some true)
    (e4_TooWide : PySem.W.mroIn K d_TooWide (.type "BaseException") = some true)
    (m_TooWide_NetError : PySem.W.mroIn K d_TooWide (.ref d_NetError) = some true)
    (i_TooWide_NetError : PySem.W.kitOne K (.ref d_TooWide) (.ref d_NetError) = some true)
    (m_TooWide_BadPost : PySem.W.mroIn K d_TooWide (.ref d_BadPost) = some false)
    (i_TooWide_BadPost : PySem.W.kitOne K (.ref d_TooWide) (.ref d_BadPost) = some false)
    (m_TooWide_BadRow : PySem.W.mroIn K d_TooWide (.ref d_BadRow) = some false)
    (i_TooWide_BadRow : PySem.W.kitOne K (.ref d_TooWide) (.ref d_BadRow) = some false)
    (m_TooWide_TooWide : PySem.W.mroIn K d_TooWide (.ref d_TooWide) = some true)
    (i_TooWide_TooWide : PySem.W.kitOne K (.ref d_TooWide) (.ref d_TooWide) = some true)
    (m_TooWide_NoNet : PySem.W.mroIn K d_TooWide (.ref d_NoNet) = some false)
    (i_TooWide_NoNet : PySem.W.kitOne K (.ref d_TooWide) (.ref d_NoNet) = some false)
    (v_TooWide : PySem.W.kitOne K (.ref d_TooWide) (.type "ValueError") = some true)
    (k_NoNet : PySem.W.nsIn K mainGlobals "NoNet" = some (some (.ref d_NoNet)))
    (x_NoNet : PySem.W.excIn K d_NoNet bmV "ValueError.__new__" = true)
    (e0_NoNet : PySem.W.findIn K (.ref d_NoNet) "__getattribute__" = some (some (.builtin "BaseException.__getattribute__")))
    (e1_NoNet : PySem.W.findIn K (.ref d_NoNet) "__getattr__" = some none)
    (e2_NoNet : PySem.W.findIn K (.ref d_NoNet) "__class__" = some (some (.builtin "object.__class__")))
    (e3_NoNet : PySem.W.mroIn K d_NoNet (.type "object") = some true)
    (e4_NoNet : PySem.W.mroIn K d_NoNet (.type "BaseException") = some true)
    (m_NoNet_NetError : PySem.W.mroIn K d_NoNet (.ref d_NetError) = some true)
    (i_NoNet_NetError : PySem.W.kitOne K (.ref d_NoNet) (.ref d_NetError) = some true)
    (m_NoNet_BadPost : PySem.W.mroIn K d_NoNet (.ref d_BadPost) = some false)
    (i_NoNet_BadPost : PySem.W.kitOne K (.ref d_NoNet) (.ref d_BadPost) = some false)
    (m_NoNet_BadRow : PySem.W.mroIn K d_NoNet (.ref d_BadRow) = some false)
    (i_NoNet_BadRow : PySem.W.kitOne K (.ref d_NoNet) (.ref d_BadRow) = some false)
    (m_NoNet_TooWide : PySem.W.mroIn K d_NoNet (.ref d_TooWide) = some false)
    (i_NoNet_TooWide : PySem.W.kitOne K (.ref d_NoNet) (.ref d_TooWide) = some false)
    (m_NoNet_NoNet : PySem.W.mroIn K d_NoNet (.ref d_NoNet) = some true)
    (i_NoNet_NoNet : PySem.W.kitOne K (.ref d_NoNet) (.ref d_NoNet) = some true)
    (v_NoNet : PySem.W.kitOne K (.ref d_NoNet) (.type "ValueError") = some true)
    (c_MOST_LANES_TRIED : PySem.W.nsIn K mainGlobals "MOST_LANES_TRIED" = some (some (.int 12 tk_MOST_LANES_TRIED)))
    (c_FIGURES : PySem.W.nsIn K mainGlobals "FIGURES" = some (some (.str "0123456789" tk_FIGURES)))
    : ∃ t : Adr, Txt K mg t := by
  refine ⟨⟨f0, PySem.W.fnOf "check_net" "check_net" (defArgs s_check_net) (defBody s_check_net) (defScope s_check_net) .none kV0 dc0 pm0 an0 cd0 ct0, f1, PySem.W.fnOf "check_row" "check_row" (defArgs s_check_row) (defBody s_check_row) (defScope s_check_row) .none kV1 dc1 pm1 an1 cd1 ct1, f2, PySem.W.fnOf "pass_post" "pass_post" (defArgs s_pass_post) (defBody s_pass_post) (defScope s_pass_post) .none kV2 dc2 pm2 an2 cd2 ct2, f3, PySem.W.fnOf "passed" "passed" (defArgs s_passed) (defBody s_passed) (defScope s_passed) .none kV3 dc3 pm3 an3 cd3 ct3, f4, PySem.W.fnOf "run" "run" (defArgs s_run) (defBody s_run) (defScope s_run) .none kV4 dc4 pm4 an4 cd4 ct4, f5, PySem.W.fnOf "walked" "walked" (defArgs s_walked) (defBody s_walked) (defScope s_walked) .none kV5 dc5 pm5 an5 cd5 ct5, f6, PySem.W.fnOf "mirrored" "mirrored" (defArgs s_mirrored) (defBody s_mirrored) (defScope s_mirrored) .none kV6 dc6 pm6 an6 cd6 ct6, f7, PySem.W.fnOf "is_rising" "is_rising" (defArgs s_is_rising) (defBody s_is_rising) (defScope s_is_rising) .none kV7 dc7 pm7 an7 cd7 ct7, f8, PySem.W.fnOf "check_trial" "check_trial" (defArgs s_check_trial) (defBody s_check_trial) (defScope s_check_trial) .none kV8 dc8 pm8 an8 cd8 ct8, f9, PySem.W.fnOf "bit_rows" "bit_rows" (defArgs s_bit_rows) (defBody s_bit_rows) (defScope s_bit_rows) .none kV9 dc9 pm9 an9 cd9 ct9, f10, PySem.W.fnOf "first_unsorted" "first_unsorted" (defArgs s_first_unsorted) (defBody s_first_unsorted) (defScope s_first_unsorted) .none kV10 dc10 pm10 an10 cd10 ct10, f11, PySem.W.fnOf "sorts" "sorts" (defArgs s_sorts) (defBody s_sorts) (defScope s_sorts) .none kV11 dc11 pm11 an11 cd11 ct11, f12, PySem.W.fnOf "merging" "merging" (defArgs s_merging) (defBody s_merging) (defScope s_merging) .none kV12 dc12 pm12 an12 cd12 ct12, f13, PySem.W.fnOf "by_halves" "by_halves" (defArgs s_by_halves) (defBody s_by_halves) (defScope s_by_halves) .none kV13 dc13 pm13 an13 cd13 ct13, f14, PySem.W.fnOf "built" "built" (defArgs s_built) (defBody s_built) (defScope s_built) .none kV14 dc14 pm14 an14 cd14 ct14, f15, PySem.W.fnOf "plain" "plain" (defArgs s_plain) (defBody s_plain) (defScope s_plain) .none kV15 dc15 pm15 an15 cd15 ct15, f16, PySem.W.fnOf "rows_acting" "rows_acting" (defArgs s_rows_acting) (defBody s_rows_acting) (defScope s_rows_acting) .none kV16 dc16 pm16 an16 cd16 ct16, f17, PySem.W.fnOf "thinned" "thinned" (defArgs s_thinned) (defBody s_thinned) (defScope s_thinned) .none kV17 dc17 pm17 an17 cd17 ct17, f18, PySem.W.fnOf "is_lean" "is_lean" (defArgs s_is_lean) (defBody s_is_lean) (defScope s_is_lean) .none kV18 dc18 pm18 an18 cd18 ct18, f19, PySem.W.fnOf "layer_numbers" "layer_numbers" (defArgs s_layer_numbers) (defBody s_layer_numbers) (defScope s_layer_numbers) .none kV19 dc19 pm19 an19 cd19 ct19, f20, PySem.W.fnOf "layers" "layers" (defArgs s_layers) (defBody s_layers) (defScope s_layers) .none kV20 dc20 pm20 an20 cd20 ct20, f21, PySem.W.fnOf "share_lane" "share_lane" (defArgs s_share_lane) (defBody s_share_lane) (defScope s_share_lane) .none kV21 dc21 pm21 an21 cd21 ct21, f22, PySem.W.fnOf "chain" "chain" (defArgs s_chain) (defBody s_chain) (defScope s_chain) .none kV22 dc22 pm22 an22 cd22 ct22, f23, PySem.W.fnOf "figures_of" "figures_of" (defArgs s_figures_of) (defBody s_figures_of) (defScope s_figures_of) .none kV23 dc23 pm23 an23 cd23 ct23, f24, PySem.W.fnOf "line_of" "line_of" (defArgs s_line_of) (defBody s_line_of) (defScope s_line_of) .none kV24 dc24 pm24 an24 cd24 ct24, f25, PySem.W.fnOf "shown" "shown" (defArgs s_shown) (defBody s_shown) (defScope s_shown) .none kV25 dc25 pm25 an25 cd25 ct25, f26, PySem.W.fnOf "_law_at" "_law_at" (defArgs s__law_at) (defBody s__law_at) (defScope s__law_at) .none kV26 dc26 pm26 an26 cd26 ct26, f27, PySem.W.fnOf "_law_posts_by" "_law_posts_by" (defArgs s__law_posts_by) (defBody s__law_posts_by) (defScope s__law_posts_by) .none kV27 dc27 pm27 an27 cd27 ct27, f28, PySem.W.fnOf "_law_wide_way" "_law_wide_way" (defArgs s__law_wide_way) (defBody s__law_wide_way) (defScope s__law_wide_way) .none kV28 dc28 pm28 an28 cd28 ct28, f29, PySem.W.fnOf "_law_other_way" "_law_other_way" (defArgs s__law_other_way) (defBody s__law_other_way) (defScope s__law_other_way) .none kV29 dc29 pm29 an29 cd29 ct29, f30, PySem.W.fnOf "_law_said" "_law_said" (defArgs s__law_said) (defBody s__law_said) (defScope s__law_said) .none kV30 dc30 pm30 an30 cd30 ct30, f31, PySem.W.fnOf "_law_mixed" "_law_mixed" (defArgs s__law_mixed) (defBody s__law_mixed) (defScope s__law_mixed) .none kV31 dc31 pm31 an31 cd31 ct31, f32, PySem.W.fnOf "_law_refuses" "_law_refuses" (defArgs s__law_refuses) (defBody s__law_refuses) (defScope s__law_refuses) .none kV32 dc32 pm32 an32 cd32 ct32, f33, PySem.W.fnOf "law" "law" (defArgs s_law) (defBody s_law) (defScope s_law) .none kV33 dc33 pm33 an33 cd33 ct33, d_NetError, d_BadPost, d_BadRow, d_TooWide, d_NoNet, tk_MOST_LANES_TRIED, tk_FIGURES⟩, ?_⟩
  constructor
  case F_check_net => exact fun_mk (st := s_check_net) l0 c0 k0
  case b_check_net => exact (fun_mk (st := s_check_net) l0 c0 k0).binds (ps := ["width", "posts"]) fun _ _ _ _ _ _ => us_2 fun _ _ => rfl
  case m_check_net => exact PySem.W.mg_of X G a0
  case F_check_row => exact fun_mk (st := s_check_row) l1 c1 k1
  case b_check_row => exact (fun_mk (st := s_check_row) l1 c1 k1).binds (ps := ["width", "posts", "row"]) fun _ _ _ _ _ _ => us_3 fun _ _ _ => rfl
  case m_check_row => exact PySem.W.mg_of X G a1
  case F_pass_post => exact fun_mk (st := s_pass_post) l2 c2 k2
  case b_pass_post => exact (fun_mk (st := s_pass_post) l2 c2 k2).binds (ps := ["low", "high", "lanes"]) fun _ _ _ _ _ _ => us_3 fun _ _ _ => rfl
  case m_pass_post => exact PySem.W.mg_of X G a2
  case F_passed => exact fun_mk (st := s_passed) l3 c3 k3
  case b_passed => exact (fun_mk (st := s_passed) l3 c3 k3).binds (ps := ["posts", "row"]) fun _ _ _ _ _ _ => us_2 fun _ _ => rfl
  case m_passed => exact PySem.W.mg_of X G a3
  case F_run => exact fun_mk (st := s_run) l4 c4 k4
  case b_run => exact (fun_mk (st := s_run) l4 c4 k4).binds (ps := ["width", "posts", "row"]) fun _ _ _ _ _ _ => us_3 fun _ _ _ => rfl
  case m_run => exact PySem.W.mg_of X G a4
  case F_walked => exact fun_mk (st := s_walked) l5 c5 k5
  case b_walked => exact (fun_mk (st := s_walked) l5 c5 k5).binds (ps := ["width", "posts", "row"]) fun _ _ _ _ _ _ => us_3 fun _ _ _ => rfl
  case m_walked => exact PySem.W.mg_of X G a5
  case F_mirrored => exact fun_mk (st := s_mirrored) l6 c6 k6
  case b_mirrored => exact (fun_mk (st := s_mirrored) l6 c6 k6).binds (ps := ["width", "posts"]) fun _ _ _ _ _ _ => us_2 fun _ _ => rfl
  case m_mirrored => exact PySem.W.mg_of X G a6
  case F_is_rising => exact fun_mk (st := s_is_rising) l7 c7 k7
  case b_is_rising => exact (fun_mk (st := s_is_rising) l7 c7 k7).binds (ps := ["row"]) fun _ _ _ _ _ _ => us_1 fun _ => rfl
  case m_is_rising => exact PySem.W.mg_of X G a7
  case F_check_trial => exact fun_mk (st := s_check_trial) l8 c8 k8
  case b_check_trial => exact (fun_mk (st := s_check_trial) l8 c8 k8).binds (ps := ["width", "posts"]) fun _ _ _ _ _ _ => us_2 fun _ _ => rfl
  case m_check_trial => exact PySem.W.mg_of X G a8
  case F_bit_rows => exact fun_mk (st := s_bit_rows) l9 c9 k9
  case b_bit_rows => exact (fun_mk (st := s_bit_rows) l9 c9 k9).binds (ps := ["width"]) fun _ _ _ _ _ _ => us_1 fun _ => rfl
  case m_bit_rows => exact PySem.W.mg_of X G a9
  case F_first_unsorted => exact fun_mk (st := s_first_unsorted) l10 c10 k10
  case b_first_unsorted => exact (fun_mk (st := s_first_unsorted) l10 c10 k10).binds (ps := ["width", "posts"]) fun _ _ _ _ _ _ => us_2 fun _ _ => rfl
  case m_first_unsorted => exact PySem.W.mg_of X G a10
  case F_sorts => exact fun_mk (st := s_sorts) l11 c11 k11
  case b_sorts => exact (fun_mk (st := s_sorts) l11 c11 k11).binds (ps := ["width", "posts"]) fun _ _ _ _ _ _ => us_2 fun _ _ => rfl
  case m_sorts => exact PySem.W.mg_of X G a11
  case F_merging => exact fun_mk (st := s_merging) l12 c12 k12
  case b_merging => exact (fun_mk (st := s_merging) l12 c12 k12).binds (ps := ["first", "count", "step"]) fun _ _ _ _ _ _ => us_3 fun _ _ _ => rfl
  case m_merging => exact PySem.W.mg_of X G a12
  case F_by_halves => exact fun_mk (st := s_by_halves) l13 c13 k13
  case b_by_halves => exact (fun_mk (st := s_by_halves) l13 c13 k13).binds (ps := ["first", "count"]) fun _ _ _ _ _ _ => us_2 fun _ _ => rfl
  case m_by_halves => exact PySem.W.mg_of X G a13
  case F_built => exact fun_mk (st := s_built) l14 c14 k14
  case b_built => exact (fun_mk (st := s_built) l14 c14 k14).binds (ps := ["width"]) fun _ _ _ _ _ _ => us_1 fun _ => rfl
  case m_built => exact PySem.W.mg_of X G a14
  case F_plain => exact fun_mk (st := s_plain) l15 c15 k15
  case b_plain => exact (fun_mk (st := s_plain) l15 c15 k15).binds (ps := ["width"]) fun _ _ _ _ _ _ => us_1 fun _ => rfl
  case m_plain => exact PySem.W.mg_of X G a15
  case F_rows_acting => exact fun_mk (st := s_rows_acting) l16 c16 k16
  case b_rows_acting => exact (fun_mk (st := s_rows_acting) l16 c16 k16).binds (ps := ["width", "posts"]) fun _ _ _ _ _ _ => us_2 fun _ _ => rfl
  case m_rows_acting => exact PySem.W.mg_of X G a16
  case F_thinned => exact fun_mk (st := s_thinned) l17 c17 k17
  case b_thinned => exact (fun_mk (st := s_thinned) l17 c17 k17).binds (ps := ["width", "posts"]) fun _ _ _ _ _ _ => us_2 fun _ _ => rfl
  case m_thinned => exact PySem.W.mg_of X G a17
  case F_is_lean => exact fun_mk (st := s_is_lean) l18 c18 k18
  case b_is_lean => exact (fun_mk (st := s_is_lean) l18 c18 k18).binds (ps := ["width", "posts"]) fun _ _ _ _ _ _ => us_2 fun _ _ => rfl
  case m_is_lean => exact PySem.W.mg_of X G a18
  case F_layer_numbers => exact fun_mk (st := s_layer_numbers) l19 c19 k19
  case b_layer_numbers => exact (fun_mk (st := s_layer_numbers) l19 c19 k19).binds (ps := ["posts"]) fun _ _ _ _ _ _ => us_1 fun _ => rfl
  case m_layer_numbers => exact PySem.W.mg_of X G a19
  case F_layers => exact fun_mk (st := s_layers) l20 c20 k20
  case b_layers => exact (fun_mk (st := s_layers) l20 c20 k20).binds (ps := ["width", "posts"]) fun _ _ _ _ _ _ => us_2 fun _ _ => rfl
  case m_layers => exact PySem.W.mg_of X G a20
  case F_share_lane => exact fun_mk (st := s_share_lane) l21 c21 k21
  case b_share_lane => exact (fun_mk (st := s_share_lane) l21 c21 k21).binds (ps := ["post", "other"]) fun _ _ _ _ _ _ => us_2 fun _ _ => rfl
  case m_share_lane => exact PySem.W.mg_of X G a21
  case F_chain => exact fun_mk (st := s_chain) l22 c22 k22
  case b_chain => exact (fun_mk (st := s_chain) l22 c22 k22).binds (ps := ["width", "posts"]) fun _ _ _ _ _ _ => us_2 fun _ _ => rfl
  case m_chain => exact PySem.W.mg_of X G a22
  case F_figures_of => exact fun_mk (st := s_figures_of) l23 c23 k23
  case b_figures_of => exact (fun_mk (st := s_figures_of) l23 c23 k23).binds (ps := ["number"]) fun _ _ _ _ _ _ => us_1 fun _ => rfl
  case m_figures_of => exact PySem.W.mg_of X G a23
  case F_line_of => exact fun_mk (st := s_line_of) l24 c24 k24
  case b_line_of => exact (fun_mk (st := s_line_of) l24 c24 k24).binds (ps := ["layer"]) fun _ _ _ _ _ _ => us_1 fun _ => rfl
  case m_line_of => exact PySem.W.mg_of X G a24
  case F_shown => exact fun_mk (st := s_shown) l25 c25 k25
  case b_shown => exact (fun_mk (st := s_shown) l25 c25 k25).binds (ps := ["width", "posts"]) fun _ _ _ _ _ _ => us_2 fun _ _ => rfl
  case m_shown => exact PySem.W.mg_of X G a25
  case F__law_at => exact fun_mk (st := s__law_at) l26 c26 k26
  case b__law_at => exact (fun_mk (st := s__law_at) l26 c26 k26).binds (ps := ["_law_script", "_law_k"]) fun _ _ _ _ _ _ => us_2 fun _ _ => rfl
  case m__law_at => exact PySem.W.mg_of X G a26
  case F__law_posts_by => exact fun_mk (st := s__law_posts_by) l27 c27 k27
  case b__law_posts_by => exact (fun_mk (st := s__law_posts_by) l27 c27 k27).binds (ps := ["_law_width", "_law_cells"]) fun _ _ _ _ _ _ => us_2 fun _ _ => rfl
  case m__law_posts_by => exact PySem.W.mg_of X G a27
  case F__law_wide_way => exact fun_mk (st := s__law_wide_way) l28 c28 k28
  case b__law_wide_way => exact (fun_mk (st := s__law_wide_way) l28 c28 k28).binds (ps := ["_law_which", "_law_width", "_law_posts"]) fun _ _ _ _ _ _ => us_3 fun _ _ _ => rfl
  case m__law_wide_way => exact PySem.W.mg_of X G a28
  case F__law_other_way => exact fun_mk (st := s__law_other_way) l29 c29 k29
  case b__law_other_way => exact (fun_mk (st := s__law_other_way) l29 c29 k29).binds (ps := ["_law_which", "_law_width", "_law_posts", "_law_row"]) fun _ _ _ _ _ _ => us_4 fun _ _ _ _ => rfl
  case m__law_other_way => exact PySem.W.mg_of X G a29
  case F__law_said => exact fun_mk (st := s__law_said) l30 c30 k30
  case b__law_said => exact (fun_mk (st := s__law_said) l30 c30 k30).binds (ps := ["_law_which", "_law_width", "_law_posts", "_law_row"]) fun _ _ _ _ _ _ => us_4 fun _ _ _ _ => rfl
  case m__law_said => exact PySem.W.mg_of X G a30
  case F__law_mixed => exact fun_mk (st := s__law_mixed) l31 c31 k31
  case b__law_mixed => exact (fun_mk (st := s__law_mixed) l31 c31 k31).binds (ps := ["_law_script"]) fun _ _ _ _ _ _ => us_1 fun _ => rfl
  case m__law_mixed => exact PySem.W.mg_of X G a31
  case F__law_refuses => exact fun_mk (st := s__law_refuses) l32 c32 k32
  case b__law_refuses => exact (fun_mk (st := s__law_refuses) l32 c32 k32).binds (ps := ["_law_which", "_law_width", "_law_posts", "_law_row"]) fun _ _ _ _ _ _ => us_4 fun _ _ _ _ => rfl
  case m__law_refuses => exact PySem.W.mg_of X G a32
  case F_law => exact fun_mk (st := s_law) l33 c33 k33
  case b_law => exact (fun_mk (st := s_law) l33 c33 k33).binds (ps := ["_law_script"]) fun _ _ _ _ _ _ => us_1 fun _ => rfl
  case m_law => exact PySem.W.mg_of X G a33
  case z_ValueError => exact PySem.W.mg_none_of X G z_ValueError
  case z_enumerate => exact PySem.W.mg_none_of X G z_enumerate
  case z_isinstance => exact PySem.W.mg_none_of X G z_isinstance
  case z_len => exact PySem.W.mg_none_of X G z_len
  case z_list => exact PySem.W.mg_none_of X G z_list
  case z_max => exact PySem.W.mg_none_of X G z_max
  case z_min => exact PySem.W.mg_none_of X G z_min
  case z_range => exact PySem.W.mg_none_of X G z_range
  case z_reversed => exact PySem.W.mg_none_of X G z_reversed
  case z_sorted => exact PySem.W.mg_none_of X G z_sorted
  case z_zip => exact PySem.W.mg_none_of X G z_zip
  case k_NetError => exact PySem.W.mg_of X G k_NetError
  case x_NetError => exact x_NetError
  case e_NetError => exact ⟨e0_NetError, e1_NetError, e2_NetError, e3_NetError, e4_NetError, ec_get, ec_tk⟩
  case m_NetError_NetError => exact m_NetError_NetError
  case i_NetError_NetError => exact i_NetError_NetError
  case m_NetError_BadPost => exact m_NetError_BadPost
  case i_NetError_BadPost => exact i_NetError_BadPost
  case m_NetError_BadRow => exact m_NetError_BadRow
  case i_NetError_BadRow => exact i_NetError_BadRow
  case m_NetError_TooWide => exact m_NetError_TooWide
  case i_NetError_TooWide => exact i_NetError_TooWide
  case m_NetError_NoNet => exact m_NetError_NoNet
  case i_NetError_NoNet => exact i_NetError_NoNet
  case v_NetError => exact v_NetError
  case k_BadPost => exact PySem.W.mg_of X G k_BadPost
  case x_BadPost => exact x_BadPost
  case e_BadPost => exact ⟨e0_BadPost, e1_BadPost, e2_BadPost, e3_BadPost, e4_BadPost, ec_get, ec_tk⟩
  case m_BadPost_NetError => exact m_BadPost_NetError
  case i_BadPost_NetError => exact i_BadPost_NetError
  case m_BadPost_BadPost => exact m_BadPost_BadPost
  case i_BadPost_BadPost => exact i_BadPost_BadPost
  case m_BadPost_BadRow => exact m_BadPost_BadRow
  case i_BadPost_BadRow => exact i_BadPost_BadRow
  case m_BadPost_TooWide => exact m_BadPost_TooWide
  case i_BadPost_TooWide => exact i_BadPost_TooWide
  case m_BadPost_NoNet => exact m_BadPost_NoNet
  case i_BadPost_NoNet => exact i_BadPost_NoNet
  case v_BadPost => exact v_BadPost
  case k_BadRow => exact PySem.W.mg_of X G k_BadRow
  case x_BadRow => exact x_BadRow
  case e_BadRow => exact ⟨e0_BadRow, e1_BadRow, e2_BadRow, e3_BadRow, e4_BadRow, ec_get, ec_tk⟩
  case m_BadRow_NetError => exact m_BadRow_NetError
  case i_BadRow_NetError => exact i_BadRow_NetError
  case m_BadRow_BadPost => exact m_BadRow_BadPost
  case i_BadRow_BadPost => exact i_BadRow_BadPost
  case m_BadRow_BadRow => exact m_BadRow_BadRow
  case i_BadRow_BadRow => exact i_BadRow_BadRow
  case m_BadRow_TooWide => exact m_BadRow_TooWide
  case i_BadRow_TooWide => exact i_BadRow_TooWide
  case m_BadRow_NoNet => exact m_BadRow_NoNet
  case i_BadRow_NoNet => exact i_BadRow_NoNet
  case v_BadRow => exact v_BadRow
  case k_TooWide => exact PySem.W.mg_of X G k_TooWide
  case x_TooWide => exact x_TooWide
  case e_TooWide => exact ⟨e0_TooWide, e1_TooWide, e2_TooWide, e3_TooWide, e4_TooWide, ec_get, ec_tk⟩
  case m_TooWide_NetError => exact m_TooWide_NetError
  case i_TooWide_NetError => exact i_TooWide_NetError
  case m_TooWide_BadPost => exact m_TooWide_BadPost
  case i_TooWide_BadPost => exact i_TooWide_BadPost
  case m_TooWide_BadRow => exact m_TooWide_BadRow
  case i_TooWide_BadRow => exact i_TooWide_BadRow
  case m_TooWide_TooWide => exact m_TooWide_TooWide
  case i_TooWide_TooWide => exact i_TooWide_TooWide
  case m_TooWide_NoNet => exact m_TooWide_NoNet
  case i_TooWide_NoNet => exact i_TooWide_NoNet
  case v_TooWide => exact v_TooWide
  case k_NoNet => exact PySem.W.mg_of X G k_NoNet
  case x_NoNet => exact x_NoNet
  case e_NoNet => exact ⟨e0_NoNet, e1_NoNet, e2_NoNet, e3_NoNet, e4_NoNet, ec_get, ec_tk⟩
  case m_NoNet_NetError => exact m_NoNet_NetError
  case i_NoNet_NetError => exact i_NoNet_NetError
  case m_NoNet_BadPost => exact m_NoNet_BadPost
  case i_NoNet_BadPost => exact i_NoNet_BadPost
  case m_NoNet_BadRow => exact m_NoNet_BadRow
  case i_NoNet_BadRow => exact i_NoNet_BadRow
  case m_NoNet_TooWide => exact m_NoNet_TooWide
  case i_NoNet_TooWide => exact i_NoNet_TooWide
  case m_NoNet_NoNet => exact m_NoNet_NoNet
  case i_NoNet_NoNet => exact i_NoNet_NoNet
  case v_NoNet => exact v_NoNet
  case c_MOST_LANES_TRIED => exact PySem.W.mg_of X G c_MOST_LANES_TRIED
  case c_FIGURES => exact PySem.W.mg_of X G c_FIGURES
  case bl => exact fun s v => .of_eq rfl
theorem walk {l : PySem.W.OpenLaw} {q : Program} {loose : List Str} {XP : (Str → Option Value) → Heap → Prop} {YP : World → Heap → Prop} {d : DefRec} {K : Params → PySem.W.Frag} (hn : l.most = some 63) (hdf : d.params.defaults = []) (hnm : d.name = "law")
    (hY : ∀ (w : World) (h : Heap), YP w h → (K w.params).In h)
    (F : ∀ (w : World) (mg : Str → Option Value) (h : Heap), (K w.params).In h → h.Ns mainGlobals mg → ∃ t : Adr, Txt (K w.params) mg t) :
    PySem.W.WalkO q loose XP YP l.row.toRowW d [] (fun f vs => PySem.call f vs) := by
  refine L2.walk_of (n := 63) (k := 11) (x := "_law_script") (K := K) (CX := fun _ => CX0) (sp := fun w => spLaw (K w.params)) hn (by decide) hdf ⟨rfl, by decide, by decide⟩ hY (fun w mg fa h KX G hfa => ?_) (fun _ _ a ns hl _ hS => ⟨a, ns, rfl, hS, hl, fun _ => rfl⟩) fun _ _ _ _ _ z => z
  obtain ⟨t, T⟩ := F w mg h KX G
  rw [hnm] at hfa
  have e := hfa.symm.trans T.m_law
  cases e
  exact ⟨t.fd_law, T.bl, fun base _ _ => ok_law T⟩
end PN
open PySem PySem.W PyProof.Rows
set_option maxRecDepth 100000 in
set_option maxHeartbeats 0 in
theorem PySem.Challenge.cw_postnet_k02_refused_holds : PySem.Challenge.rw_postnet_k02_refused.Holds := by
  w_on; o_law; k_head; (case hw => w_witness2)
  k_fill
  refine PN.walk (l := PySem.Challenge.rw_postnet_k02_refused) rfl rfl rfl (fun w h Y => PySem.W.kIn_of Y) ?F
  case F =>
    intro w mg h KX G
    refine' PN.txt_mk KX G ?a0 ?l0 ?c0 ?k0 ?a1 ?l1 ?c1 ?k1 ?a2 ?l2 ?c2 ?k2 ?a3 ?l3 ?c3 ?k3 ?a4 ?l4 ?c4 ?k4 ?a5 ?l5 ?c5 ?k5 ?a6 ?l6 ?c6 ?k6 ?a7 ?l7 ?c7 ?k7 ?a8 ?l8 ?c8 ?k8 ?a9 ?l9 ?c9 ?k9 ?a10 ?l10 ?c10 ?k10 ?a11 ?l11 ?c11 ?k11 ?a12 ?l12 ?c12 ?k12 ?a13 ?l13 ?c13 ?k13 ?a14 ?l14 ?c14 ?k14 ?a15 ?l15 ?c15 ?k15 ?a16 ?l16 ?c16 ?k16 ?a17 ?l17 ?c17 ?k17 ?a18 ?l18 ?c18 ?k18 ?a19 ?l19 ?c19 ?k19 ?a20 ?l20 ?c20 ?k20 ?a21 ?l21 ?c21 ?k21 ?a22 ?l22 ?c22 ?k22 ?a23 ?l23 ?c23 ?k23 ?a24 ?l24 ?c24 ?k24 ?a25 ?l25 ?c25 ?k25 ?a26 ?l26 ?c26 ?k26 ?a27 ?l27 ?c27 ?k27 ?a28 ?l28 ?c28 ?k28 ?a29 ?l29 ?c29 ?k29 ?a30 ?l30 ?c30 ?k30 ?a31 ?l31 ?c31 ?k31 ?a32 ?l32 ?c32 ?k32 ?a33 ?l33 ?c33 ?k33 ?z_ValueError ?z_enumerate ?z_isinstance ?z_len ?z_list ?z_max ?z_min ?z_range ?z_reversed ?z_sorted ?z_zip ?ec_get ?ec_tk ?k_NetError ?x_NetError ?e0_NetError ?e1_NetError ?e2_NetError ?e3_NetError ?e4_NetError ?m_NetError_NetError ?i_NetError_NetError ?m_NetError_BadPost ?i_NetError_BadPost ?m_NetError_BadRow ?i_NetError_BadRow ?m_NetError_TooWide ?i_NetError_TooWide ?m_NetError_NoNet ?i_NetError_NoNet ?v_NetError ?k_BadPost ?x_BadPost ?e0_BadPost ?e1_BadPost ?e2_BadPost ?e3_BadPost ?e4_BadPost ?m_BadPost_NetError ?i_BadPost_NetError ?m_BadPost_BadPost ?i_BadPost_BadPost ?m_BadPost_BadRow ?i_BadPost_BadRow ?m_BadPost_TooWide ?i_BadPost_TooWide ?m_BadPost_NoNet ?i_BadPost_NoNet ?v_BadPost ?k_BadRow ?x_BadRow ?e0_BadRow ?e1_BadRow ?e2_BadRow ?e3_BadRow ?e4_BadRow ?m_BadRow_NetError ?i_BadRow_NetError ?m_BadRow_BadPost ?i_BadRow_BadPost ?m_BadRow_BadRow ?i_BadRow_BadRow ?m_BadRow_TooWide ?i_BadRow_TooWide ?m_BadRow_NoNet ?i_BadRow_NoNet ?v_BadRow ?k_TooWide ?x_TooWide ?e0_TooWide ?e1_TooWide ?e2_TooWide ?e3_TooWide ?e4_TooWide ?m_TooWide_NetError ?i_TooWide_NetError ?m_TooWide_BadPost ?i_TooWide_BadPost ?m_TooWide_BadRow ?i_TooWide_BadRow ?m_TooWide_TooWide ?i_TooWide_TooWide ?m_TooWide_NoNet ?i_TooWide_NoNet ?v_TooWide ?k_NoNet ?x_NoNet ?e0_NoNet ?e1_NoNet ?e2_NoNet ?e3_NoNet ?e4_NoNet ?m_NoNet_NetError ?i_NoNet_NetError ?m_NoNet_BadPost ?i_NoNet_BadPost ?m_NoNet_BadRow ?i_NoNet_BadRow ?m_NoNet_TooWide ?i_NoNet_TooWide ?m_NoNet_NoNet ?i_NoNet_NoNet ?v_NoNet ?c_MOST_LANES_TRIED ?c_FIGURES
    (case k_NetError => k_is)
    (case k_BadPost => k_is)
    (case k_BadRow => k_is)
    (case k_TooWide => k_is)
    (case k_NoNet => k_is)
    (case a0 => k_is)
    (case l0 => k_is)
    (case c0 => k_is)
    (case k0 => k_is)
    (case a1 => k_is)
    (case l1 => k_is)
    (case c1 => k_is)
    (case k1 => k_is)
    (case a2 => k_is)
    (case l2 => k_is)
    (case c2 => k_is)
    (case k2 => k_is)
    (case a3 => k_is)
    (case l3 => k_is)
    (case c3 => k_is)
    (case k3 => k_is)
    (case a4 => k_is)
    (case l4 => k_is)
    (case c4 => k_is)
    (case k4 => k_is)
    (case a5 => k_is)
    (case l5 => k_is)
    (case c5 => k_is)
    (case k5 => k_is)
    (case a6 => k_is)
    (case l6 => k_is)
    (case c6 => k_is)
    (case k6 => k_is)
    (case a7 => k_is)
    (case l7 => k_is)
    (case c7 => k_is)
    (case k7 => k_is)
    (case a8 => k_is)
    (case l8 => k_is)
    (case c8 => k_is)
    (case k8 => k_is)
    (case a9 => k_is)
    (case l9 => k_is)
    (case c9 => k_is)
    (case k9 => k_is)
    (case a10 => k_is)
    (case l10 => k_is)
    (case c10 => k_is)
    (case k10 => k_is)
    (case a11 => k_is)
    (case l11 => k_is)
    (case c11 => k_is)
    (case k11 => k_is)
    (case a12 => k_is)
    (case l12 => k_is)
    (case c12 => k_is)
    (case k12 => k_is)
    (case a13 => k_is)
    (case l13 => k_is)
    (case c13 => k_is)
    (case k13 => k_is)
    (case a14 => k_is)
    (case l14 => k_is)
    (case c14 => k_is)
    (case k14 => k_is)
    (case a15 => k_is)
    (case l15 => k_is)
    (case c15 => k_is)
    (case k15 => k_is)
    (case a16 => k_is)
    (case l16 => k_is)
    (case c16 => k_is)
    (case k16 => k_is)
    (case a17 => k_is)
    (case l17 => k_is)
    (case c17 => k_is)
    (case k17 => k_is)
    (case a18 => k_is)
    (case l18 => k_is)
    (case c18 => k_is)
    (case k18 => k_is)
    (case a19 => k_is)
    (case l19 => k_is)
    (case c19 => k_is)
    (case k19 => k_is)
    (case a20 => k_is)
    (case l20 => k_is)
    (case c20 => k_is)
    (case k20 => k_is)
    (case a21 => k_is)
    (case l21 => k_is)
    (case c21 => k_is)
    (case k21 => k_is)
    (case a22 => k_is)
    (case l22 => k_is)
    (case c22 => k_is)
    (case k22 => k_is)
    (case a23 => k_is)
    (case l23 => k_is)
    (case c23 => k_is)
    (case k23 => k_is)
    (case a24 => k_is)
    (case l24 => k_is)
    (case c24 => k_is)
    (case k24 => k_is)
    (case a25 => k_is)
    (case l25 => k_is)
    (case c25 => k_is)
    (case k25 => k_is)
    (case a26 => k_is)
    (case l26 => k_is)
    (case c26 => k_is)
    (case k26 => k_is)
    (case a27 => k_is)
    (case l27 => k_is)
    (case c27 => k_is)
    (case k27 => k_is)
    (case a28 => k_is)
    (case l28 => k_is)
    (case c28 => k_is)
    (case k28 => k_is)
    (case a29 => k_is)
    (case l29 => k_is)
    (case c29 => k_is)
    (case k29 => k_is)
    (case a30 => k_is)
    (case l30 => k_is)
    (case c30 => k_is)
    (case k30 => k_is)
    (case a31 => k_is)
    (case l31 => k_is)
    (case c31 => k_is)
    (case k31 => k_is)
    (case a32 => k_is)
    (case l32 => k_is)
    (case c32 => k_is)
    (case k32 => k_is)
    (case a33 => k_is)
    (case l33 => k_is)
    (case c33 => k_is)
    (case k33 => k_is)
    (case z_ValueError => k_is)
    (case z_enumerate => k_is)
    (case z_isinstance => k_is)
    (case z_len => k_is)
    (case z_list => k_is)
    (case z_max => k_is)
    (case z_min => k_is)
    (case z_range => k_is)
    (case z_reversed => k_is)
    (case z_sorted => k_is)
    (case z_zip => k_is)
    (case ec_get => k_is)
    (case ec_tk => k_is)
    (case x_NetError => k_exc)
    (case e0_NetError => k_is)
    (case e1_NetError => k_is)
    (case e2_NetError => k_is)
    (case e3_NetError => k_is)
    (case e4_NetError => k_is)
    (case m_NetError_NetError => k_is)
    (case i_NetError_NetError => kit_is)
    (case m_NetError_BadPost => k_is)
    (case i_NetError_BadPost => kit_is)
    (case m_NetError_BadRow => k_is)
    (case i_NetError_BadRow => kit_is)
    (case m_NetError_TooWide => k_is)
    (case i_NetError_TooWide => kit_is)
    (case m_NetError_NoNet => k_is)
    (case i_NetError_NoNet => kit_is)
    (case v_NetError => kit_is)
    (case x_BadPost => k_exc)
    (case e0_BadPost => k_is)
    (case e1_BadPost => k_is)
    (case e2_BadPost => k_is)
    (case e3_BadPost => k_is)
    (case e4_BadPost => k_is)
    (case m_BadPost_NetError => k_is)
    (case i_BadPost_NetError => kit_is)
    (case m_BadPost_BadPost => k_is)
    (case i_BadPost_BadPost => kit_is)
    (case m_BadPost_BadRow => k_is)
    (case i_BadPost_BadRow => kit_is)
    (case m_BadPost_TooWide => k_is)
    (case i_BadPost_TooWide => kit_is)
    (case m_BadPost_NoNet => k_is)
    (case i_BadPost_NoNet => kit_is)
    (case v_BadPost => kit_is)
    (case x_BadRow => k_exc)
    (case e0_BadRow => k_is)
    (case e1_BadRow => k_is)
    (case e2_BadRow => k_is)
    (case e3_BadRow => k_is)
    (case e4_BadRow => k_is)
    (case m_BadRow_NetError => k_is)
    (case i_BadRow_NetError => kit_is)
    (case m_BadRow_BadPost => k_is)
    (case i_BadRow_BadPost => kit_is)
    (case m_BadRow_BadRow => k_is)
    (case i_BadRow_BadRow => kit_is)
    (case m_BadRow_TooWide => k_is)
    (case i_BadRow_TooWide => kit_is)
    (case m_BadRow_NoNet => k_is)
    (case i_BadRow_NoNet => kit_is)
    (case v_BadRow => kit_is)
    (case x_TooWide => k_exc)
    (case e0_TooWide => k_is)
    (case e1_TooWide => k_is)
    (case e2_TooWide => k_is)
    (case e3_TooWide => k_is)
    (case e4_TooWide => k_is)
    (case m_TooWide_NetError => k_is)
    (case i_TooWide_NetError => kit_is)
    (case m_TooWide_BadPost => k_is)
    (case i_TooWide_BadPost => kit_is)
    (case m_TooWide_BadRow => k_is)
    (case i_TooWide_BadRow => kit_is)
    (case m_TooWide_TooWide => k_is)
    (case i_TooWide_TooWide => kit_is)
    (case m_TooWide_NoNet => k_is)
    (case i_TooWide_NoNet => kit_is)
    (case v_TooWide => kit_is)
    (case x_NoNet => k_exc)
    (case e0_NoNet => k_is)
    (case e1_NoNet => k_is)
    (case e2_NoNet => k_is)
    (case e3_NoNet => k_is)
    (case e4_NoNet => k_is)
    (case m_NoNet_NetError => k_is)
    (case i_NoNet_NetError => kit_is)
    (case m_NoNet_BadPost => k_is)
    (case i_NoNet_BadPost => kit_is)
    (case m_NoNet_BadRow => k_is)
    (case i_NoNet_BadRow => kit_is)
    (case m_NoNet_TooWide => k_is)
    (case i_NoNet_TooWide => kit_is)
    (case m_NoNet_NoNet => k_is)
    (case i_NoNet_NoNet => kit_is)
    (case v_NoNet => kit_is)
    (case c_MOST_LANES_TRIED => k_is)
    (case c_FIGURES => k_is)
#print axioms PySem.Challenge.cw_postnet_k02_refused_holds
